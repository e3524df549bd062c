/- Two trees that are drawn and often alike. -/
import Derived.Test.YtfafaadfnhhfhaaOrd
import Derived.Test.YtfafaadfnhhfhaaProg
import Derived.KernelRfl
namespace Go.AI
open Go Go.RowKit Go.AI
set_option linter.unusedVariables false
set_option linter.unusedSimpArgs false
set_option maxRecDepth 100000
noncomputable section
-- "loop.example/treenumbers/spec.TreeTurned"
noncomputable def c_spec_TreeTurned_l1 (F g : Nat) : List AV → H → (List AV → H → Option R) → Option R := fun vs h kc7 => (fun x8 x9 x10 => aCmpI (fun a b => ile b a) x10 (AV.int 3 (Int.ofNat 0)) h fun x11 h => withBool x11 fun t12 => bc t12 (aIdxStr x8 x10 h fun x13 h => aArith isub (AV.int 4 (Int.ofNat 81)) x13 h fun x14 h => aBuildSlice 1 1 [(0, 1, x14)] h fun x15 h => aAppend 1 1 x9 x15 h fun x16 h => aArith isub x10 (AV.int 3 (Int.ofNat 1)) h fun x17 h => kc7 [x8, x16, x17] h) (aB2S x9 h fun x18 h => some (AV.one .tup (AV.cons x18 (AV.cons (AV.bool true) (AV.leaf .nil))), h))) (hd vs) (hd (tl vs)) (hd (tl (tl vs)))
noncomputable def c_spec_TreeTurned (F g : Nat) (a0 : AV) (h : H) : Option R := bindR (c_spec_TreeIn F g a0 h) fun x1 h => aNot x1 h fun x2 h => withBool x2 fun t3 => bc t3 (some (AV.one .tup (AV.cons (AV.str [] 0) (AV.cons (AV.bool false) (AV.leaf .nil))), h)) (aBuildSlice 0 1 [] h fun x4 h => aLenK 0 a0 h fun x5 h => aArith isub x5 (AV.int 3 (Int.ofNat 1)) h fun x6 h => loopD F (c_spec_TreeTurned_l1 F g) [a0, x4, x6] h)
noncomputable def A_spec_TreeTurned : An := (.two .o (.two (.two .o (.two (.two .o .o) .o)) (.two .o (.two (.two .o (.two (.at_ [0, 4, 5] (.two (.two .o (.two .o .o)) (.two (.two .o .o) .o)) .o) .o)) (.two .o .o)))))
noncomputable def b_spec_TreeTurned : Code := bodyOf Go.Proofs.Try.f46
theorem k_spec_TreeTurned (F g : Nat) (a0 : AV) (h : H) : callD Go.Proofs.Try.prog (Env.add (fun _ _ _ => none : Env) 25 (u1 (c_spec_TreeIn F g))) 26 F b_spec_TreeTurned [2, 3] A_spec_TreeTurned [a0] h = c_spec_TreeTurned F g a0 h := by kernel_rfl
theorem s_spec_TreeTurned (F g : Nat) : ∀ args h r, u1 (c_spec_TreeTurned F g) args h = some r → Tri Go.Proofs.Try.prog 46 args h r := by
  intro args h r e; obtain ⟨a0, rfl, e1⟩ := u1_some e; exact fn_sound Go.Proofs.Try.func46 rfl rfl rfl Go.Proofs.Try.ntmps46 (Sound.add (Sound.none _) (s_spec_TreeIn F g)) ((k_spec_TreeTurned F g a0 h).trans e1)

end
end Go.AI
namespace Go.AI.O
open Go Go.RowKit Go.AI
set_option linter.unusedVariables false
set_option linter.unusedSimpArgs false
set_option maxRecDepth 100000
noncomputable section
def c_spec_TreeTurned (F g : Nat) (a0 : AV) (h : H) : Option R := forgetC (Go.AI.c_spec_TreeTurned 20000 20) a0 h
theorem s_spec_TreeTurned (F g : Nat) : ∀ args h r, u1 (c_spec_TreeTurned F g) args h = some r → Tri Go.Proofs.Try.prog id_spec_TreeTurned args h r := forgetC_sound (Go.AI.s_spec_TreeTurned 20000 20)
end
end Go.AI.O
namespace Go.AI.O
open Go Go.RowKit Go.AI
set_option linter.unusedVariables false
set_option linter.unusedSimpArgs false
set_option maxRecDepth 100000
noncomputable section
-- "loop.example/treenumbers/spec.l91Two"
noncomputable def c_spec_l91Two_j1 (F g : Nat) (vs : List AV) (h : H) : Option R := (fun x14 x15 x16 x17 x18 => aPick x17 x18 (AV.bool false) h fun x19 h => withBool x19 fun t20 => bc t20 (bindR (c_spec_l1Sorted F g x16 h) fun x21 h => some (AV.one .tup (AV.cons x16 (AV.cons x21 (AV.leaf .nil))), h)) (bindR (c_spec_l91Tree F g x14 x15 h) fun x22 h => some (AV.one .tup (AV.cons x16 (AV.cons x22 (AV.leaf .nil))), h))) (hd vs) (hd (tl vs)) (hd (tl (tl vs))) (hd (tl (tl (tl vs)))) (hd (tl (tl (tl (tl vs)))))
noncomputable def c_spec_l91Two_j2 (F g : Nat) (vs : List AV) (h : H) : Option R := (fun x5 x6 x7 x8 x9 x10 x11 => aPick x10 x11 (AV.bool false) h fun x12 h => withBool x12 fun t13 => bc t13 (some (AV.one .tup (AV.cons x7 (AV.cons x8 (AV.leaf .nil))), h)) (guardB true x9 (bindR (c_spec_l6Rd_pick F g x5 (AV.int 3 (Int.ofNat 2)) h) fun x23 h => aCmpI ieq x23 (AV.int 3 (Int.ofNat 0)) h fun x24 h => (c_spec_l91Two_j1 F g) [x5, x6, x7, x9, x24] h) ((c_spec_l91Two_j1 F g) [x5, x6, x7, x9, (AV.one .tup (AV.leaf .nil))] h))) (hd vs) (hd (tl vs)) (hd (tl (tl vs))) (hd (tl (tl (tl vs)))) (hd (tl (tl (tl (tl vs))))) (hd (tl (tl (tl (tl (tl vs)))))) (hd (tl (tl (tl (tl (tl (tl vs)))))))
noncomputable def c_spec_l91Two (F g : Nat) (a0 a1 : AV) (h : H) : Option R := bindR (c_spec_l91Tree F g a0 a1 h) fun x1 h => bindR (c_spec_TreeTurned F g x1 h) fun x2 h => aExtract x2 0 h fun x3 h => aExtract x2 1 h fun x4 h => guardB true x4 (bindR (c_spec_l6Rd_pick F g a0 (AV.int 3 (Int.ofNat 3)) h) fun x25 h => aCmpI ieq x25 (AV.int 3 (Int.ofNat 0)) h fun x26 h => (c_spec_l91Two_j2 F g) [a0, a1, x1, x3, x4, x4, x26] h) ((c_spec_l91Two_j2 F g) [a0, a1, x1, x3, x4, x4, (AV.one .tup (AV.leaf .nil))] h)
noncomputable def A_spec_l91Two : An := (.two .o (.two .o (.two .o (.two (.two (.two (.at_ [0, 1, 6, 7, 8, 19, 22] .o .o) (.two (.two .o .o) (.two (.at_ [0, 1, 6, 28, 31] .o .o) (.two (.two .o .o) .o)))) .o) (.two .o .o)))))
noncomputable def b_spec_l91Two : Code := bodyOf Go.Proofs.Try.f109
theorem k_spec_l91Two (F g : Nat) (a0 a1 : AV) (h : H) : callD Go.Proofs.Try.prog (Env.add (Env.add (Env.add (Env.add (fun _ _ _ => none : Env) 105 (u2 (c_spec_l91Tree F g))) 46 (u1 (c_spec_TreeTurned F g))) 108 (u1 (c_spec_l1Sorted F g))) 104 (u2 (c_spec_l6Rd_pick F g))) 40 F b_spec_l91Two [4, 5] A_spec_l91Two [a0, a1] h = c_spec_l91Two F g a0 a1 h := by kernel_rfl
theorem s_spec_l91Two (F g : Nat) : ∀ args h r, u2 (c_spec_l91Two F g) args h = some r → Tri Go.Proofs.Try.prog 109 args h r := by
  intro args h r e; obtain ⟨a0, a1, rfl, e1⟩ := u2_some e; exact fn_sound Go.Proofs.Try.func109 rfl rfl rfl Go.Proofs.Try.ntmps109 (Sound.add (Sound.add (Sound.add (Sound.add (Sound.none _) (s_spec_l91Tree F g)) (s_spec_TreeTurned F g)) (s_spec_l1Sorted F g)) (s_spec_l6Rd_pick F g)) ((k_spec_l91Two F g a0 a1 h).trans e1)

end
end Go.AI.O
namespace Go.AI.O
open Go Go.RowKit Go.AI
set_option linter.unusedVariables false
set_option linter.unusedSimpArgs false
set_option maxRecDepth 100000
noncomputable section
def isNilA (e : AV) : Bool := e.onLeaf false fun e => @Leaf.rec (fun _ => Bool) false false false false false false true (fun _ => false) (fun _ _ _ _ => false) (fun _ => false) e
theorem isNilA_eq {e : AV} (h : isNilA e = true) : e = .leaf .nil := by cases e using AV.casesE <;> first | rfl | cases h
/-- One tree's trial: it is turned into a text of at most as many signs. -/
def okU (l : List Nat) : Bool := bc (Nat.ble (lenL l) 14) (@Option.rec R (fun _ => Bool) false (fun r => r.1.onTup false fun x => x.onCons false fun y z => y.onStr false fun t n => z.onCons false fun b e => b.onBool false fun b => bc b (bc (Nat.beq (lenL t) n) (bc (Nat.ble n 14) (isNilA e) false) false) false) (Go.AI.c_spec_TreeTurned 20000 20 (.str l (lenL l)) H0)) true
theorem turned_all : allR okU 17 1 1 (fun l => 40 :: l) = true := by kernel_rfl
theorem turned_ok (F g : Nat) {l : List Nat} (ht : isTree l = true) (hl : l.length ≤ 14) (h : H) : ∃ t, t.length ≤ 14 ∧ c_spec_TreeTurned F g (.str l l.length) h = some (.one .tup (.cons (.str t t.length) (.cons (.bool true) (.leaf .nil))), h) := by
  have hm := isTree_mem ht
  obtain ⟨r, hr, he⟩ := List.mem_map.1 hm
  have h1 := allR_mem okU 17 1 1 (fun l => 40 :: l) turned_all r hr
  rw [show (40 :: r) = _ from he] at h1
  unfold okU at h1
  rw [lenL_eq, ble_true hl, bc_true] at h1
  cases hc : Go.AI.c_spec_TreeTurned 20000 20 (.str l l.length) H0 with
  | none => rw [hc] at h1; cases h1
  | some q =>
    rw [hc] at h1
    obtain ⟨v, h'⟩ := q
    cases v using AV.casesE <;> first | (cases h1; done) | skip
    rename_i x
    cases x <;> first | (cases h1; done) | skip
    rename_i y z
    cases y <;> first | (cases h1; done) | skip
    rename_i t n
    cases z <;> first | (cases h1; done) | skip
    rename_i b e
    cases b <;> first | (cases h1; done) | skip
    rename_i b
    have h1 : bc b (bc (Nat.beq (lenL t) n) (bc (Nat.ble n 14) (isNilA e) false) false) false = true := h1
    cases b with
    | false => cases h1
    | true =>
      rw [bc_true] at h1
      cases hn : Nat.beq (lenL t) n with
      | false => rw [hn] at h1; cases h1
      | true =>
        rw [hn, bc_true] at h1
        have hn := Nat.eq_of_beq_eq_true hn
        rw [lenL_eq] at hn
        subst hn
        cases h14 : Nat.ble t.length 14 with
        | false => rw [h14] at h1; cases h1
        | true =>
          rw [h14, bc_true] at h1
          obtain rfl := isNilA_eq h1
          refine ⟨t, Nat.le_of_ble_eq_true h14, ?_⟩
          show forgetC _ _ _ = _
          unfold forgetC
          rw [hc]; rfl
theorem turned_bad (F g : Nat) {l : List Nat} (ht : isTree l = false) (h : H) : c_spec_TreeTurned F g (.str l l.length) h = some (.one .tup (.cons (.str [] 0) (.cons (.bool false) (.leaf .nil))), h) := by
  have e : Go.AI.c_spec_TreeTurned 20000 20 (.str l l.length) H0 = some (.one .tup (.cons (.str [] 0) (.cons (.bool false) (.leaf .nil))), H0) := by
    delta Go.AI.c_spec_TreeTurned
    rw [Go.AI.spec_bad (F := 20000) (g := 20) l l.length rfl (by omega) ht H0, bindR_some']; rfl
  show forgetC _ _ _ = _
  unfold forgetC
  rw [e]; rfl

section
variable {F g : Nat} {b : AV} {m : Nat} {L : List AV} {Q p : Nat} {h : H}
/-- What a drawn text may be. -/
def Ok7 (l : List Nat) : Prop := l.length ≤ 300 ∧ (isTree l = true → l.length ≤ 14)
theorem tree7 (r : Rdr b m L Q p h) (hp : p < 90000) : ∃ l p' h', Ok7 l ∧ p' ≤ p + 300 ∧ c_spec_l91Tree F g (.ptr Q 0) (nI 7) h = some (.str l l.length, h') ∧ Rdr b m L Q p' h' := by
  obtain ⟨l, p', h', g1, g2, g3, r2⟩ := tree_ok' (F := 20000) (g := 20) (n := 7) r (by omega) (by omega) hp
  exact ⟨l, p', h', ⟨g1.1, fun ht => by have := g1.2 ht; omega⟩, g2, g3, r2⟩
theorem pick' {n : Nat} (r : Rdr b m L Q p h) (hp : p < 1000000) (hn : n ≤ 1000) : ∃ v h', c_spec_l6Rd_pick F g (.ptr Q 0) (nI n) h = some (nI v, h') ∧ Rdr b m L Q (p + 1) h' := by
  obtain ⟨v, h3, hv, e4, r3, _, _⟩ := r.pick (F := 20000) (g := 20) (n := n) hp (by omega)
  exact ⟨v, h3, e4, r3⟩
def pair (s t : List Nat) : AV := .one .tup (.cons (.str s s.length) (.cons (.str t t.length) (.leaf .nil)))
/-- The last way: another tree, or the tree in order. -/
theorem two_j1 (r : Rdr b m L Q p h) (hp : p < 80000) {s : List Nat} (hs : Ok7 s) {ok x : AV} {c : Bool} (hc : c = true → isTree s = true) (hpick : ∀ k : AV → H → Option R, aPick ok x (.bool false) h k = k (.bool c) h) :
    ∃ t h', Ok7 t ∧ c_spec_l91Two_j1 F g [.ptr Q 0, nI 7, .str s s.length, ok, x] h = some (pair s t, h') ∧ 1 ≤ h'.lo := by
  cases c with
  | true =>
    have ht := hc rfl
    obtain ⟨t, ht2, e5⟩ := sorted_ok F g ht (hs.2 ht) h
    refine ⟨t, h, ⟨by omega, fun _ => ht2⟩, ?_, r.lo⟩
    delta c_spec_l91Two_j1
    dsimp only [hd_cons, tl_cons]
    rw [hpick, withBool_bool, bc_true, e5, bindR_some']; rfl
  | false =>
    obtain ⟨t, p', h', g1, g2, g3, r2⟩ := tree7 (F := F) (g := g) r (by omega)
    refine ⟨t, h', g1, ?_, r2.lo⟩
    delta c_spec_l91Two_j1
    dsimp only [hd_cons, tl_cons]
    rw [hpick, withBool_bool, bc_false, g3, bindR_some']; rfl
theorem two_ok (r : Rdr b m L Q p h) (hp : p < 10000) : ∃ s t h', Ok7 s ∧ Ok7 t ∧ c_spec_l91Two F g (.ptr Q 0) (nI 7) h = some (pair s t, h') ∧ 1 ≤ h'.lo := by
  obtain ⟨s, p1, h1, hs, q1, e1, r1⟩ := tree7 (F := F) (g := g) r (by omega)
  cases ht : isTree s with
  | false =>
    obtain ⟨t, h', g1, g2, g3⟩ := two_j1 (F := F) (g := g) r1 (by omega) hs (ok := .bool false) (x := .one .tup (.leaf .nil)) (c := false) (by intro h; cases h) (fun k => rfl)
    refine ⟨s, t, h', hs, g1, ?_, g3⟩
    rw [← g2]
    delta c_spec_l91Two
    rw [e1, bindR_some', turned_bad F g ht, bindR_some', aExtract_0, aExtract_1]
    rfl
  | true =>
    obtain ⟨u, hu, e2⟩ := turned_ok F g ht (hs.2 ht) h1
    obtain ⟨v, h2, e3, r2⟩ := pick' (F := F) (g := g) (n := 3) r1 (by omega) (by omega)
    by_cases hv : v = 0
    · subst hv
      refine ⟨s, u, h2, hs, ⟨by omega, fun _ => hu⟩, ?_, r2.lo⟩
      delta c_spec_l91Two
      rw [e1, bindR_some', e2, bindR_some', aExtract_0, aExtract_1, guardB_bool, show bc (bc true true (bnot true)) _ _ = _ from rfl, e3, bindR_some']
      rfl
    · obtain ⟨w, h3, e4, r3⟩ := pick' (F := F) (g := g) (n := 2) r2 (by omega) (by omega)
      obtain ⟨t, h', g1, g2, g3⟩ := two_j1 (F := F) (g := g) r3 (by omega) hs (ok := .bool true) (x := .bool (Nat.beq w 0)) (c := Nat.beq w 0) (fun _ => ht) (fun k => rfl)
      refine ⟨s, t, h', hs, g1, ?_, g3⟩
      rw [← g2]
      delta c_spec_l91Two
      rw [e1, bindR_some', e2, bindR_some', aExtract_0, aExtract_1, guardB_bool, show bc (bc true true (bnot true)) _ _ = _ from rfl, e3, bindR_some', eqlN, show Nat.beq v 0 = false by rw [beq_decide, decide_eq_false_iff_not]; exact hv]
      delta c_spec_l91Two_j2
      dsimp only [hd_cons, tl_cons]
      rw [aPick_bool, bc_true, withBool_bool, bc_false, guardB_bool, show bc (bc true true (bnot true)) _ _ = _ from rfl, e4, bindR_some', eqlN]; rfl
end
end
end Go.AI.O
