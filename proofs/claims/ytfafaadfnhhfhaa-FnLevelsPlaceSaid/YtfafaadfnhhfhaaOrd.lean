/- Trees that are drawn and often put in order. -/
import Derived.Test.YtfafaadfnhhfhaaRaw
import Derived.Test.YtfafaadfnhhfhaaProg
import Derived.KernelRfl
namespace Go.AI
open Go Go.RowKit
noncomputable section
set_option linter.unusedVariables false
/-- A call whose argument and answer hold no memory is followed over the empty one. -/
def forgetC (c : AV → H → Option R) (a0 : AV) (h : H) : Option R := onSome (c a0 H0) fun r => bc a0.plain (bc r.1.plain (some (r.1, h)) none) none
theorem forgetC_sound {P : Program} {f : FuncId} {c : AV → H → Option R} (hs : ∀ args h r, u1 c args h = some r → Tri P f args h r) : ∀ args h r, u1 (forgetC c) args h = some r → Tri P f args h r := by
  intro args h r e
  obtain ⟨a0, rfl, e1⟩ := u1_some e
  obtain ⟨r1, h1, e2⟩ := onSome_some e1
  obtain ⟨h2, e3⟩ := bif_some e2
  obtain ⟨h3, e4⟩ := bif_some e3
  cases e4
  exact Tri.forget (hs [a0] H0 r1 h1) (fun a hm => by cases hm with | head => exact h2 | tail _ hm => cases hm) h3 h
end
end Go.AI
namespace Go.AI
open Go Go.RowKit Go.AI
set_option linter.unusedVariables false
set_option linter.unusedSimpArgs false
set_option maxRecDepth 100000
noncomputable section
-- "loop.example/treenumbers/spec.l1Kids"
noncomputable def c_spec_l1Kids_l1 (F g : Nat) : List AV → H → (List AV → H → Option R) → Option R := fun vs h kc2 => (fun x3 x4 x5 => aLenK 0 x3 h fun x6 h => aArith isub x6 (AV.int 3 (Int.ofNat 1)) h fun x7 h => aCmpI ilt x5 x7 h fun x8 h => withBool x8 fun t9 => bc t9 (bindR (c_spec_l1End F g x3 x5 h) fun x10 h => aSliceS x3 (some x5) (some x10) none h fun x11 h => aBuildSlice 1 1 [(0, 1, x11)] h fun x12 h => aAppend 1 16 x4 x12 h fun x13 h => kc2 [x3, x13, x10] h) (some (x4, h))) (hd vs) (hd (tl vs)) (hd (tl (tl vs)))
noncomputable def c_spec_l1Kids (F g : Nat) (a0 : AV) (h : H) : Option R := aBuildSlice 0 1 [] h fun x1 h => loopD F (c_spec_l1Kids_l1 F g) [a0, x1, (AV.int 3 (Int.ofNat 1))] h
noncomputable def A_spec_l1Kids : An := (.two .o (.two .o (.two .o (.two (.two (.at_ [0, 3, 4] (.two (.two .o (.two .o .o)) (.two (.two .o (.two .o .o)) .o)) .o) .o) (.two .o .o)))))
noncomputable def b_spec_l1Kids : Code := bodyOf Go.Proofs.Try.f102
theorem k_spec_l1Kids (F g : Nat) (a0 : AV) (h : H) : callD Go.Proofs.Try.prog (Env.add (fun _ _ _ => none : Env) 92 (u2 (c_spec_l1End F g))) 24 F b_spec_l1Kids [2] A_spec_l1Kids [a0] h = c_spec_l1Kids F g a0 h := by kernel_rfl
theorem s_spec_l1Kids (F g : Nat) : ∀ args h r, u1 (c_spec_l1Kids F g) args h = some r → Tri Go.Proofs.Try.prog 102 args h r := by
  intro args h r e; obtain ⟨a0, rfl, e1⟩ := u1_some e; exact fn_sound Go.Proofs.Try.func102 rfl rfl rfl Go.Proofs.Try.ntmps102 (Sound.add (Sound.none _) (s_spec_l1End F g)) ((k_spec_l1Kids F g a0 h).trans e1)

-- "loop.example/treenumbers/spec.l1Of"
noncomputable def c_spec_l1Of_l1 (F g : Nat) : List AV → H → (List AV → H → Option R) → Option R := fun vs h kc1 => (fun x2 x3 x4 => aLenK 1 x2 h fun x5 h => aCmpI ilt x4 x5 h fun x6 h => withBool x6 fun t7 => bc t7 (aIdxAddr 1 x2 x4 h fun x8 h => aLoad x8 h fun x9 h => aSAdd x3 x9 h fun x10 h => aArith iadd x4 (AV.int 3 (Int.ofNat 1)) h fun x11 h => kc1 [x2, x10, x11] h) (aSAdd x3 (AV.str [41] 1) h fun x12 h => some (x12, h))) (hd vs) (hd (tl vs)) (hd (tl (tl vs)))
noncomputable def c_spec_l1Of (F g : Nat) (a0 : AV) (h : H) : Option R := loopD F (c_spec_l1Of_l1 F g) [a0, (AV.str [40] 1), (AV.int 3 (Int.ofNat 0))] h
noncomputable def A_spec_l1Of : An := (.two .o (.two .o (.two (.two .o (.two (.at_ [0, 3, 4] (.two (.two .o (.two .o .o)) (.two (.two .o .o) .o)) .o) .o)) (.two .o .o))))
noncomputable def b_spec_l1Of : Code := bodyOf Go.Proofs.Try.f107
theorem k_spec_l1Of (F g : Nat) (a0 : AV) (h : H) : callD Go.Proofs.Try.prog (fun _ _ _ => none : Env) 19 F b_spec_l1Of [2] A_spec_l1Of [a0] h = c_spec_l1Of F g a0 h := by kernel_rfl
theorem s_spec_l1Of (F g : Nat) : ∀ args h r, u1 (c_spec_l1Of F g) args h = some r → Tri Go.Proofs.Try.prog 107 args h r := by
  intro args h r e; obtain ⟨a0, rfl, e1⟩ := u1_some e; exact fn_sound Go.Proofs.Try.func107 rfl rfl rfl Go.Proofs.Try.ntmps107 (Sound.none _) ((k_spec_l1Of F g a0 h).trans e1)

-- "loop.example/treenumbers/spec.l1Sorted"
noncomputable def c_spec_l1Sorted_j1 (F g : Nat) (kc3 : List AV → H → Option R) (kc14 : List AV → H → Option R) (vs : List AV) (h : H) : Option R := (fun x21 x22 x23 x24 x25 x26 x27 => aPick x26 x27 (AV.bool false) h fun x28 h => withBool x28 fun t29 => bc t29 (aArith isub x25 (AV.int 3 (Int.ofNat 1)) h fun x30 h => kc14 [x21, x22, x23, x24, x30] h) (aBuildSlice 0 1 [] h fun x31 h => aSliceV 1 x22 none (some x25) none h fun x32 _ => aAppend 1 16 x31 x32 h fun x33 h => aBuildSlice 1 1 [(0, 1, x24)] h fun x34 h => aAppend 1 16 x33 x34 h fun x35 h => aSliceV 1 x22 (some x25) none none h fun x36 _ => aAppend 1 16 x35 x36 h fun x37 h => aArith iadd x23 (AV.int 3 (Int.ofNat 1)) h fun x38 h => kc3 [x21, x37, x38] h)) (hd vs) (hd (tl vs)) (hd (tl (tl vs))) (hd (tl (tl (tl vs)))) (hd (tl (tl (tl (tl vs))))) (hd (tl (tl (tl (tl (tl vs)))))) (hd (tl (tl (tl (tl (tl (tl vs)))))))
noncomputable def c_spec_l1Sorted_l2 (F g : Nat) (kc3 : List AV → H → Option R) : List AV → H → (List AV → H → Option R) → Option R := fun vs h kc14 => (fun x15 x16 x17 x18 x19 => aCmpI (fun a b => ilt b a) x19 (AV.int 3 (Int.ofNat 0)) h fun x20 h => guardB true x20 (aArith isub x19 (AV.int 3 (Int.ofNat 1)) h fun x39 h => aIdxAddr 1 x16 x39 h fun x40 h => aLoad x40 h fun x41 h => aCmpS ltL x18 x41 h fun x42 h => (c_spec_l1Sorted_j1 F g kc3 kc14) [x15, x16, x17, x18, x19, x20, x42] h) ((c_spec_l1Sorted_j1 F g kc3 kc14) [x15, x16, x17, x18, x19, x20, (AV.one .tup (AV.leaf .nil))] h)) (hd vs) (hd (tl vs)) (hd (tl (tl vs))) (hd (tl (tl (tl vs)))) (hd (tl (tl (tl (tl vs)))))
noncomputable def c_spec_l1Sorted_l3 (F g : Nat) (self : AV → H → Option R) : List AV → H → (List AV → H → Option R) → Option R := fun vs h kc3 => (fun x4 x5 x6 => aLenK 1 x4 h fun x7 h => aCmpI ilt x6 x7 h fun x8 h => withBool x8 fun t9 => bc t9 (aIdxAddr 1 x4 x6 h fun x10 h => aLoad x10 h fun x11 h => bindR (self x11 h) fun x12 h => aLenK 1 x5 h fun x13 h => loopD F (c_spec_l1Sorted_l2 F g kc3) [x4, x5, x6, x12, x13] h) (bindR (c_spec_l1Of F g x5 h) fun x43 h => some (x43, h))) (hd vs) (hd (tl vs)) (hd (tl (tl vs)))
noncomputable def c_spec_l1Sorted (F g : Nat) : AV → H → Option R := Nat.rec (motive := fun _ => AV → H → Option R) (fun _ _ => none) (fun g self a0 h => bindR (c_spec_l1Kids F g a0 h) fun x1 h => aBuildSlice 0 1 [] h fun x2 h => loopD F (c_spec_l1Sorted_l3 F g self) [x1, x2, (AV.int 3 (Int.ofNat 0))] h) g
noncomputable def A_spec_l1Sorted : An := (.two .o (.two .o (.two .o (.two (.two .o (.two (.at_ [3, 4, 5] (.two (.two .o (.two .o .o)) (.two (.two (.two .o (.two .o (.two (.two (.at_ [3, 4, 5, 6, 7] (.two (.two (.at_ [3, 4, 5, 6, 7, 26, 33] .o .o) (.two .o .o)) (.two .o .o)) .o) .o) .o))) .o) .o)) .o) .o)) (.two .o .o)))))
noncomputable def b_spec_l1Sorted : Code := bodyOf Go.Proofs.Try.f108
theorem k_spec_l1Sorted (F g : Nat) (a0 : AV) (h : H) : callD Go.Proofs.Try.prog (Env.add (Env.add (Env.add (fun _ _ _ => none : Env) 102 (u1 (c_spec_l1Kids F g))) 107 (u1 (c_spec_l1Of F g))) 108 (u1 (c_spec_l1Sorted F g))) 51 F b_spec_l1Sorted [2] A_spec_l1Sorted [a0] h = c_spec_l1Sorted F (g + 1) a0 h := by kernel_rfl
theorem s_spec_l1Sorted (F g : Nat) : ∀ args h r, u1 (c_spec_l1Sorted F g) args h = some r → Tri Go.Proofs.Try.prog 108 args h r := by
  induction g with
  | zero => intro args h r e; obtain ⟨a0, rfl, e⟩ := u1_some e; cases e
  | succ g ih => intro args h r e; obtain ⟨a0, rfl, e1⟩ := u1_some e; exact fn_sound Go.Proofs.Try.func108 rfl rfl rfl Go.Proofs.Try.ntmps108 (Sound.add (Sound.add (Sound.add (Sound.none _) (s_spec_l1Kids F g)) (s_spec_l1Of F g)) ih) ((k_spec_l1Sorted F g a0 h).trans e1)

end
end Go.AI
namespace Go.AI.O
open Go Go.RowKit Go.AI
set_option linter.unusedVariables false
set_option linter.unusedSimpArgs false
set_option maxRecDepth 100000
noncomputable section
def c_spec_l6Open (F g : Nat) (a0 : AV) (h : H) : Option R := Go.AI.c_spec_l6Open 20000 20 a0 h
theorem s_spec_l6Open (F g : Nat) : ∀ args h r, u1 (c_spec_l6Open F g) args h = some r → Tri Go.Proofs.Try.prog id_spec_l6Open args h r := Go.AI.s_spec_l6Open 20000 20
def c_spec_l6Rd_pick (F g : Nat) (a0 a1 : AV) (h : H) : Option R := Go.AI.c_spec_l6Rd_pick 20000 20 a0 a1 h
theorem s_spec_l6Rd_pick (F g : Nat) : ∀ args h r, u2 (c_spec_l6Rd_pick F g) args h = some r → Tri Go.Proofs.Try.prog id_spec_l6Rd_pick args h r := Go.AI.s_spec_l6Rd_pick 20000 20
def c_spec_l91Tree (F g : Nat) (a0 a1 : AV) (h : H) : Option R := Go.AI.c_spec_l91Tree 20000 20 a0 a1 h
theorem s_spec_l91Tree (F g : Nat) : ∀ args h r, u2 (c_spec_l91Tree F g) args h = some r → Tri Go.Proofs.Try.prog id_spec_l91Tree args h r := Go.AI.s_spec_l91Tree 20000 20
def c_spec_TreeIn (F g : Nat) (a0 : AV) (h : H) : Option R := Go.AI.T.c_spec_TreeIn F g a0 h
theorem s_spec_TreeIn (F g : Nat) : ∀ args h r, u1 (c_spec_TreeIn F g) args h = some r → Tri Go.Proofs.Try.prog id_spec_TreeIn args h r := Go.AI.T.s_spec_TreeIn F g
def c_spec_l1Sorted (F g : Nat) (a0 : AV) (h : H) : Option R := forgetC (Go.AI.c_spec_l1Sorted 20000 20) a0 h
theorem s_spec_l1Sorted (F g : Nat) : ∀ args h r, u1 (c_spec_l1Sorted F g) args h = some r → Tri Go.Proofs.Try.prog id_spec_l1Sorted args h r := forgetC_sound (Go.AI.s_spec_l1Sorted 20000 20)
end
end Go.AI.O
namespace Go.AI.O
open Go Go.RowKit Go.AI
set_option linter.unusedVariables false
set_option linter.unusedSimpArgs false
set_option maxRecDepth 100000
noncomputable section
-- "loop.example/treenumbers/spec.l91Order"
noncomputable def c_spec_l91Order_j1 (F g : Nat) (vs : List AV) (h : H) : Option R := (fun x4 x5 x6 => aPick x5 x6 (AV.bool false) h fun x7 h => withBool x7 fun t8 => bc t8 (bindR (c_spec_l1Sorted F g x4 h) fun x9 h => some (x9, h)) (some (x4, h))) (hd vs) (hd (tl vs)) (hd (tl (tl vs)))
noncomputable def c_spec_l91Order (F g : Nat) (a0 : AV) (h : H) : Option R := bindR (c_spec_l6Open F g a0 h) fun x1 h => bindR (c_spec_l91Tree F g x1 (AV.int 3 (Int.ofNat 7)) h) fun x2 h => bindR (c_spec_TreeIn F g x2 h) fun x3 h => guardB true x3 (bindR (c_spec_l6Rd_pick F g x1 (AV.int 3 (Int.ofNat 5)) h) fun x10 h => aCmpI (fun a b => ilt b a) x10 (AV.int 3 (Int.ofNat 0)) h fun x11 h => (c_spec_l91Order_j1 F g) [x2, x3, x11] h) ((c_spec_l91Order_j1 F g) [x2, x3, (AV.one .tup (AV.leaf .nil))] h)
noncomputable def A_spec_l91Order : An := (.two .o (.two .o (.two .o (.two (.two (.at_ [4, 11, 14] .o .o) (.two (.two .o .o) .o)) (.two .o .o)))))
noncomputable def b_spec_l91Order : Code := bodyOf Go.Proofs.Try.f116
theorem k_spec_l91Order (F g : Nat) (a0 : AV) (h : H) : callD Go.Proofs.Try.prog (Env.add (Env.add (Env.add (Env.add (Env.add (fun _ _ _ => none : Env) 103 (u1 (c_spec_l6Open F g))) 105 (u2 (c_spec_l91Tree F g))) 25 (u1 (c_spec_TreeIn F g))) 108 (u1 (c_spec_l1Sorted F g))) 104 (u2 (c_spec_l6Rd_pick F g))) 19 F b_spec_l91Order [2] A_spec_l91Order [a0] h = c_spec_l91Order F g a0 h := by kernel_rfl
theorem s_spec_l91Order (F g : Nat) : ∀ args h r, u1 (c_spec_l91Order F g) args h = some r → Tri Go.Proofs.Try.prog 116 args h r := by
  intro args h r e; obtain ⟨a0, rfl, e1⟩ := u1_some e; exact fn_sound Go.Proofs.Try.func116 rfl rfl rfl Go.Proofs.Try.ntmps116 (Sound.add (Sound.add (Sound.add (Sound.add (Sound.add (Sound.none _) (s_spec_l6Open F g)) (s_spec_l91Tree F g)) (s_spec_TreeIn F g)) (s_spec_l1Sorted F g)) (s_spec_l6Rd_pick F g)) ((k_spec_l91Order F g a0 h).trans e1)

end
end Go.AI.O
namespace Go.AI.O
open Go Go.RowKit Go.AI
set_option linter.unusedVariables false
set_option linter.unusedSimpArgs false
set_option maxRecDepth 100000
noncomputable section
/-- One tree's trial: its tree in order is a text of at most as many signs. -/
def okS (l : List Nat) : Bool := bc (Nat.ble (lenL l) 14) (@Option.rec R (fun _ => Bool) false (fun r => r.1.onStr false fun t n => bc (Nat.beq (lenL t) n) (Nat.ble n 14) false) (Go.AI.c_spec_l1Sorted 20000 20 (.str l (lenL l)) H0)) true
theorem sorted_all : allR okS 17 1 1 (fun l => 40 :: l) = true := by kernel_rfl
theorem sorted_ok (F g : Nat) {l : List Nat} (ht : isTree l = true) (hl : l.length ≤ 14) (h : H) : ∃ t, t.length ≤ 14 ∧ c_spec_l1Sorted F g (.str l l.length) h = some (.str t t.length, h) := by
  have hm := isTree_mem ht
  obtain ⟨r, hr, he⟩ := List.mem_map.1 hm
  have h1 := allR_mem okS 17 1 1 (fun l => 40 :: l) sorted_all r hr
  rw [show (40 :: r) = _ from he] at h1
  unfold okS at h1
  rw [lenL_eq, ble_true hl, bc_true] at h1
  cases hc : Go.AI.c_spec_l1Sorted 20000 20 (.str l l.length) H0 with
  | none => rw [hc] at h1; cases h1
  | some q =>
    rw [hc] at h1
    obtain ⟨v, h'⟩ := q
    cases v <;> first | (cases h1; done) | skip
    rename_i t n
    have h1 : bc (Nat.beq (lenL t) n) (Nat.ble n 14) false = true := h1
    cases hn : Nat.beq (lenL t) n with
    | false => rw [hn] at h1; cases h1
    | true =>
      rw [hn, bc_true] at h1
      have hn := Nat.eq_of_beq_eq_true hn
      rw [lenL_eq] at hn
      subst hn
      refine ⟨t, Nat.le_of_ble_eq_true h1, ?_⟩
      show forgetC _ _ _ = _
      unfold forgetC
      rw [hc]; rfl
theorem order_ok {F g : Nat} {a : AV} {c : Nat} {L : List AV} {h : H} (ha : (a = .leaf .nils ∧ c = 0) ∨ a = .osl 0 0 c 1) (h0 : 0 < c → ∃ fl, h.get 0 = .cells fl L) (hb : ∀ i, i < c → ∃ v, L[i]? = some (.int 4 (.ofNat v)) ∧ v < 256) (hn : 1 ≤ h.n) (hlo : 1 ≤ h.lo) :
    ∃ l h', (l.length ≤ 300 ∧ (isTree l = true → l.length ≤ 14)) ∧ c_spec_l91Order F g a h = some (.str l l.length, h') ∧ 1 ≤ h'.lo := by
  obtain ⟨b, m, h1, e1, r1, _⟩ := open_ok (F := 20000) (g := 20) ha h0 hb hn hlo
  obtain ⟨l, p', h2, g1, g2, g3, r2⟩ := tree_ok' (F := 20000) (g := 20) (n := 7) r1 (by omega) (by omega) (by omega)
  have e1 : c_spec_l6Open F g a h = _ := e1
  have g3 : c_spec_l91Tree F g (.ptr h.n 0) (nI 7) h1 = _ := g3
  cases ht : isTree l with
  | false =>
    refine ⟨l, h2, ⟨g1.1, fun h => by rw [ht] at h; cases h⟩, ?_, r2.lo⟩
    delta c_spec_l91Order
    rw [e1, bindR_some', g3, bindR_some', show c_spec_TreeIn F g (.str l l.length) h2 = some (.bool false, h2) from Go.AI.T.spec_bad (lenL_eq l) ht h2, bindR_some', guardB_bool]
    rfl
  | true =>
    have hl := g1.2 ht
    obtain ⟨v, h3, hv, e4, r3, _, _⟩ := r2.pick (F := 20000) (g := 20) (n := 5) (by omega) (by omega)
    have e4 : c_spec_l6Rd_pick F g (.ptr h.n 0) (nI 5) h2 = _ := e4
    obtain ⟨t, ht2, e5⟩ := sorted_ok F g ht (by omega) h3
    by_cases hv0 : 0 < v
    · refine ⟨t, h3, ⟨by omega, fun _ => ht2⟩, ?_, r3.lo⟩
      delta c_spec_l91Order
      rw [e1, bindR_some', g3, bindR_some', show c_spec_TreeIn F g (.str l l.length) h2 = some (.bool true, h2) from Go.AI.T.spec_good (lenL_eq l) ht h2, bindR_some', guardB_bool, show bc (bc true true (bnot true)) _ _ = _ from rfl, e4, bindR_some', gtrN, ble_true (show Nat.succ 0 ≤ v from hv0)]
      delta c_spec_l91Order_j1
      dsimp only [hd_cons, tl_cons]
      rw [aPick_bool, bc_true, withBool_bool, bc_true, e5, bindR_some']; rfl
    · refine ⟨l, h3, ⟨g1.1, fun _ => by omega⟩, ?_, r3.lo⟩
      delta c_spec_l91Order
      rw [e1, bindR_some', g3, bindR_some', show c_spec_TreeIn F g (.str l l.length) h2 = some (.bool true, h2) from Go.AI.T.spec_good (lenL_eq l) ht h2, bindR_some', guardB_bool, show bc (bc true true (bnot true)) _ _ = _ from rfl, e4, bindR_some', gtrN, ble_false (show v < Nat.succ 0 by omega)]
      rfl
end
end Go.AI.O
