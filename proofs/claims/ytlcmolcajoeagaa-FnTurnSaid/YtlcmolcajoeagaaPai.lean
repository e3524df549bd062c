/- A drawn text that is often a tree of pairs. -/
import Derived.Test.YtlcmolcajoeagaaRaw
import Derived.Test.YtlcmolcajoeagaaProg
import Derived.KernelRfl
namespace Go.AI.P0
open Go Go.RowKit Go.AI
set_option linter.unusedVariables false
set_option linter.unusedSimpArgs false
set_option maxRecDepth 100000
noncomputable section
def c_spec_TreeIn (F g : Nat) (a0 : AV) (h : H) : Option R := Go.AI.T.c_spec_TreeIn F g a0 h
theorem s_spec_TreeIn (F g : Nat) : ∀ args h r, u1 (c_spec_TreeIn F g) args h = some r → Tri Go.Proofs.Try.prog id_spec_TreeIn args h r := Go.AI.T.s_spec_TreeIn F g
-- "loop.example/treenumbers/spec.l1End"
noncomputable def c_spec_l1End_j1 (F g : Nat) (kc1 : List AV → H → Option R) (vs : List AV) (h : H) : Option R := (fun x8 x9 x10 => aCmpI ieq x9 (AV.int 3 (Int.ofNat 0)) h fun x11 h => withBool x11 fun t12 => bc t12 (aArith iadd x10 (AV.int 3 (Int.ofNat 1)) h fun x13 h => some (x13, h)) (aCmpI ilt x9 (AV.int 3 (Int.ofNat 0)) h fun x14 h => withBool x14 fun t15 => bc t15 (some ((AV.int 3 (Int.negSucc 0)), h)) (aArith iadd x10 (AV.int 3 (Int.ofNat 1)) h fun x16 h => kc1 [x8, x9, x16] h))) (hd vs) (hd (tl vs)) (hd (tl (tl vs)))
noncomputable def c_spec_l1End_l2 (F g : Nat) : List AV → H → (List AV → H → Option R) → Option R := fun vs h kc1 => (fun x2 x3 x4 => aLenK 0 x2 h fun x5 h => aCmpI ilt x4 x5 h fun x6 h => withBool x6 fun t7 => bc t7 (aIdxStr x2 x4 h fun x17 h => aCmpI ieq x17 (AV.int 4 (Int.ofNat 40)) h fun x18 h => withBool x18 fun t19 => bc t19 (aArith iadd x3 (AV.int 3 (Int.ofNat 1)) h fun x20 h => (c_spec_l1End_j1 F g kc1) [x2, x20, x4] h) (aCmpI ieq x17 (AV.int 4 (Int.ofNat 41)) h fun x21 h => withBool x21 fun t22 => bc t22 (aArith isub x3 (AV.int 3 (Int.ofNat 1)) h fun x23 h => (c_spec_l1End_j1 F g kc1) [x2, x23, x4] h) (some ((AV.int 3 (Int.negSucc 0)), h)))) (some ((AV.int 3 (Int.negSucc 0)), h))) (hd vs) (hd (tl vs)) (hd (tl (tl vs)))
noncomputable def c_spec_l1End (F g : Nat) (a0 a1 : AV) (h : H) : Option R := loopD F (c_spec_l1End_l2 F g) [a0, (AV.int 3 (Int.ofNat 0)), a1] h
noncomputable def A_spec_l1End : An := (.two .o (.two .o (.two (.two .o (.two (.at_ [0, 5, 6] (.two (.two .o (.two .o .o)) (.two (.two (.at_ [0, 5, 6] (.two .o (.two (.two .o (.two .o (.two .o (.two .o (.two .o .o))))) .o)) (.two (.two .o (.two (.two .o .o) .o)) (.two .o (.two (.two .o .o) .o)))) .o) .o)) .o) .o)) (.two .o .o))))
noncomputable def b_spec_l1End : Code := bodyOf Go.Proofs.Try.f113
theorem k_spec_l1End (F g : Nat) (a0 a1 : AV) (h : H) : callD Go.Proofs.Try.prog (fun _ _ _ => none : Env) 31 F b_spec_l1End [4] A_spec_l1End [a0, a1] h = c_spec_l1End F g a0 a1 h := by kernel_rfl
theorem s_spec_l1End (F g : Nat) : ∀ args h r, u2 (c_spec_l1End F g) args h = some r → Tri Go.Proofs.Try.prog 113 args h r := by
  intro args h r e; obtain ⟨a0, a1, rfl, e1⟩ := u2_some e; exact fn_sound Go.Proofs.Try.func113 rfl rfl rfl Go.Proofs.Try.ntmps113 (Sound.none _) ((k_spec_l1End F g a0 a1 h).trans e1)

-- "loop.example/treenumbers/spec.l1Kids"
noncomputable def c_spec_l1Kids_l1 (F g : Nat) : List AV → H → (List AV → H → Option R) → Option R := fun vs h kc2 => (fun x3 x4 x5 => aLenK 0 x3 h fun x6 h => aArith isub x6 (AV.int 3 (Int.ofNat 1)) h fun x7 h => aCmpI ilt x5 x7 h fun x8 h => withBool x8 fun t9 => bc t9 (bindR (c_spec_l1End F g x3 x5 h) fun x10 h => aSliceS x3 (some x5) (some x10) none h fun x11 h => aBuildSlice 1 1 [(0, 1, x11)] h fun x12 h => aAppend 1 16 x4 x12 h fun x13 h => kc2 [x3, x13, x10] h) (some (x4, h))) (hd vs) (hd (tl vs)) (hd (tl (tl vs)))
noncomputable def c_spec_l1Kids (F g : Nat) (a0 : AV) (h : H) : Option R := aBuildSlice 0 1 [] h fun x1 h => loopD F (c_spec_l1Kids_l1 F g) [a0, x1, (AV.int 3 (Int.ofNat 1))] h
noncomputable def A_spec_l1Kids : An := (.two .o (.two .o (.two .o (.two (.two (.at_ [0, 3, 4] (.two (.two .o (.two .o .o)) (.two (.two .o (.two .o .o)) .o)) .o) .o) (.two .o .o)))))
noncomputable def b_spec_l1Kids : Code := bodyOf Go.Proofs.Try.f93
theorem k_spec_l1Kids (F g : Nat) (a0 : AV) (h : H) : callD Go.Proofs.Try.prog (Env.add (fun _ _ _ => none : Env) 113 (u2 (c_spec_l1End F g))) 24 F b_spec_l1Kids [2] A_spec_l1Kids [a0] h = c_spec_l1Kids F g a0 h := by kernel_rfl
theorem s_spec_l1Kids (F g : Nat) : ∀ args h r, u1 (c_spec_l1Kids F g) args h = some r → Tri Go.Proofs.Try.prog 93 args h r := by
  intro args h r e; obtain ⟨a0, rfl, e1⟩ := u1_some e; exact fn_sound Go.Proofs.Try.func93 rfl rfl rfl Go.Proofs.Try.ntmps93 (Sound.add (Sound.none _) (s_spec_l1End F g)) ((k_spec_l1Kids F g a0 h).trans e1)

-- "loop.example/treenumbers/spec.l8Of"
noncomputable def c_spec_l8Of (F g : Nat) : AV → H → Option R := Nat.rec (motive := fun _ => AV → H → Option R) (fun _ _ => none) (fun g self a0 h => aLenK 1 a0 h fun x1 h => aCmpI ieq x1 (AV.int 3 (Int.ofNat 0)) h fun x2 h => withBool x2 fun t3 => bc t3 (some ((AV.str [40, 41] 2), h)) (aIdxAddr 1 a0 (AV.int 3 (Int.ofNat 0)) h fun x4 _ => aLoad x4 h fun x5 _ => bindR (c_spec_l1Kids F g x5 h) fun x6 h => bindR (self x6 h) fun x7 h => aSAdd (AV.str [40] 1) x7 h fun x8 _ => aSliceV 1 a0 (some (AV.int 3 (Int.ofNat 1))) none none h fun x9 _ => bindR (self x9 h) fun x10 h => aSAdd x8 x10 h fun x11 _ => aSAdd x11 (AV.str [41] 1) h fun x12 _ => some (x12, h))) g
noncomputable def A_spec_l8Of : An := (.two .o (.two (.two .o (.two (.two .o .o) .o)) (.two .o .o)))
noncomputable def b_spec_l8Of : Code := bodyOf Go.Proofs.Try.f92
theorem k_spec_l8Of (F g : Nat) (a0 : AV) (h : H) : callD Go.Proofs.Try.prog (Env.add (Env.add (fun _ _ _ => none : Env) 93 (u1 (c_spec_l1Kids F g))) 92 (u1 (c_spec_l8Of F g))) 17 F b_spec_l8Of [2] A_spec_l8Of [a0] h = c_spec_l8Of F (g + 1) a0 h := by kernel_rfl
theorem s_spec_l8Of (F g : Nat) : ∀ args h r, u1 (c_spec_l8Of F g) args h = some r → Tri Go.Proofs.Try.prog 92 args h r := by
  induction g with
  | zero => intro args h r e; obtain ⟨a0, rfl, e⟩ := u1_some e; cases e
  | succ g ih => intro args h r e; obtain ⟨a0, rfl, e1⟩ := u1_some e; exact fn_sound Go.Proofs.Try.func92 rfl rfl rfl Go.Proofs.Try.ntmps92 (Sound.add (Sound.add (Sound.none _) (s_spec_l1Kids F g)) ih) ((k_spec_l8Of F g a0 h).trans e1)

-- "loop.example/treenumbers/spec.l1Done"
noncomputable def c_spec_l1Done (F g : Nat) (a0 : AV) (h : H) : Option R := bindR (c_spec_TreeIn F g a0 h) fun x1 h => aNot x1 h fun x2 h => withBool x2 fun t3 => bc t3 (some (AV.one .tup (AV.cons (AV.str [] 0) (AV.cons (AV.bool false) (AV.leaf .nil))), h)) (some (AV.one .tup (AV.cons a0 (AV.cons (AV.bool true) (AV.leaf .nil))), h))
noncomputable def A_spec_l1Done : An := (.two .o (.two (.two .o (.two (.two .o .o) .o)) (.two .o .o)))
noncomputable def b_spec_l1Done : Code := bodyOf Go.Proofs.Try.f84
theorem k_spec_l1Done (F g : Nat) (a0 : AV) (h : H) : callD Go.Proofs.Try.prog (Env.add (fun _ _ _ => none : Env) 68 (u1 (c_spec_TreeIn F g))) 8 F b_spec_l1Done [2, 3] A_spec_l1Done [a0] h = c_spec_l1Done F g a0 h := by kernel_rfl
theorem s_spec_l1Done (F g : Nat) : ∀ args h r, u1 (c_spec_l1Done F g) args h = some r → Tri Go.Proofs.Try.prog 84 args h r := by
  intro args h r e; obtain ⟨a0, rfl, e1⟩ := u1_some e; exact fn_sound Go.Proofs.Try.func84 rfl rfl rfl Go.Proofs.Try.ntmps84 (Sound.add (Sound.none _) (s_spec_TreeIn F g)) ((k_spec_l1Done F g a0 h).trans e1)

-- "loop.example/treenumbers/spec.PairOf"
noncomputable def c_spec_PairOf (F g : Nat) (a0 : AV) (h : H) : Option R := bindR (c_spec_TreeIn F g a0 h) fun x1 h => aNot x1 h fun x2 h => withBool x2 fun t3 => bc t3 (some (AV.one .tup (AV.cons (AV.str [] 0) (AV.cons (AV.bool false) (AV.leaf .nil))), h)) (bindR (c_spec_l1Kids F g a0 h) fun x4 h => bindR (c_spec_l8Of F g x4 h) fun x5 h => bindR (c_spec_l1Done F g x5 h) fun x6 h => aExtract x6 0 h fun x7 h => aExtract x6 1 h fun x8 h => some (AV.one .tup (AV.cons x7 (AV.cons x8 (AV.leaf .nil))), h))
noncomputable def A_spec_PairOf : An := (.two .o (.two (.two .o (.two (.two .o .o) .o)) (.two .o .o)))
noncomputable def b_spec_PairOf : Code := bodyOf Go.Proofs.Try.f44
theorem k_spec_PairOf (F g : Nat) (a0 : AV) (h : H) : callD Go.Proofs.Try.prog (Env.add (Env.add (Env.add (Env.add (fun _ _ _ => none : Env) 68 (u1 (c_spec_TreeIn F g))) 93 (u1 (c_spec_l1Kids F g))) 92 (u1 (c_spec_l8Of F g))) 84 (u1 (c_spec_l1Done F g))) 13 F b_spec_PairOf [2, 3] A_spec_PairOf [a0] h = c_spec_PairOf F g a0 h := by kernel_rfl
theorem s_spec_PairOf (F g : Nat) : ∀ args h r, u1 (c_spec_PairOf F g) args h = some r → Tri Go.Proofs.Try.prog 44 args h r := by
  intro args h r e; obtain ⟨a0, rfl, e1⟩ := u1_some e; exact fn_sound Go.Proofs.Try.func44 rfl rfl rfl Go.Proofs.Try.ntmps44 (Sound.add (Sound.add (Sound.add (Sound.add (Sound.none _) (s_spec_TreeIn F g)) (s_spec_l1Kids F g)) (s_spec_l8Of F g)) (s_spec_l1Done F g)) ((k_spec_PairOf F g a0 h).trans e1)

end
end Go.AI.P0
namespace Go.AI.Q
open Go Go.RowKit Go.AI
set_option linter.unusedVariables false
set_option linter.unusedSimpArgs false
set_option maxRecDepth 100000
noncomputable section
/-- A call over the empty memory: all but the answer is forgotten. -/
def fgC (c : AV → H → Option R) (a0 : AV) (h : H) : Option R := bc a0.plain (onSome (c a0 H0) fun r => bc r.1.plain (some (r.1, h)) none) none
theorem fgC_sound {P : Program} {f : FuncId} {c : AV → H → Option R} (hs : ∀ args h r, u1 c args h = some r → Tri P f args h r) : ∀ args h r, u1 (fgC c) args h = some r → Tri P f args h r := by
  intro args h r e
  obtain ⟨a0, rfl, e1⟩ := u1_some e
  obtain ⟨h0, e1⟩ := bif_some e1
  obtain ⟨r1, h1, e2⟩ := onSome_some e1
  obtain ⟨h2, e3⟩ := bif_some e2
  cases e3
  exact Tri.forget (hs [a0] H0 r1 h1) (fun a hm => by cases hm with | head => exact h0 | tail _ hm => cases hm) h2 h
def c_spec_PairOf (F g : Nat) (a0 : AV) (h : H) : Option R := fgC (Go.AI.P0.c_spec_PairOf 20000 20) a0 h
theorem s_spec_PairOf (F g : Nat) : ∀ args h r, u1 (c_spec_PairOf F g) args h = some r → Tri Go.Proofs.Try.prog id_spec_PairOf args h r := fgC_sound (Go.AI.P0.s_spec_PairOf 20000 20)
-- "loop.example/treenumbers/spec.l92Pairs"
noncomputable def c_spec_l92Pairs_j1 (F g : Nat) (vs : List AV) (h : H) : Option R := (fun x9 x10 x11 x12 => aPick x11 (AV.bool true) x12 h fun x13 h => withBool x13 fun t14 => bc t14 (bindR (c_spec_l91Tree F g x9 (AV.int 3 (Int.ofNat 6)) h) fun x15 h => some (x15, h)) (some (x10, h))) (hd vs) (hd (tl vs)) (hd (tl (tl vs))) (hd (tl (tl (tl vs))))
noncomputable def c_spec_l92Pairs (F g : Nat) (a0 a1 : AV) (h : H) : Option R := aArith iadd a1 (AV.int 3 (Int.ofNat 1)) h fun x1 h => bindR (c_spec_l6Rd_pick F g a0 x1 h) fun x2 h => aArith iadd (AV.int 3 (Int.ofNat 1)) x2 h fun x3 h => bindR (c_spec_l91Nodes F g a0 x3 h) fun x4 h => bindR (c_spec_PairOf F g x4 h) fun x5 h => aExtract x5 0 h fun x6 h => aExtract x5 1 h fun x7 h => aNot x7 h fun x8 h => guardB false x8 (bindR (c_spec_l6Rd_pick F g a0 (AV.int 3 (Int.ofNat 24)) h) fun x16 h => aCmpI ieq x16 (AV.int 3 (Int.ofNat 0)) h fun x17 h => (c_spec_l92Pairs_j1 F g) [a0, x6, x8, x17] h) ((c_spec_l92Pairs_j1 F g) [a0, x6, x8, (AV.one .tup (AV.leaf .nil))] h)
noncomputable def A_spec_l92Pairs : An := (.two .o (.two .o (.two (.two (.at_ [0, 5, 20, 23] .o .o) (.two (.two .o .o) .o)) (.two .o .o))))
noncomputable def b_spec_l92Pairs : Code := bodyOf Go.Proofs.Try.f121
theorem k_spec_l92Pairs (F g : Nat) (a0 a1 : AV) (h : H) : callD Go.Proofs.Try.prog (Env.add (Env.add (Env.add (Env.add (fun _ _ _ => none : Env) 76 (u2 (c_spec_l6Rd_pick F g))) 110 (u2 (c_spec_l91Nodes F g))) 44 (u1 (c_spec_PairOf F g))) 65 (u2 (c_spec_l91Tree F g))) 28 F b_spec_l92Pairs [4] A_spec_l92Pairs [a0, a1] h = c_spec_l92Pairs F g a0 a1 h := by kernel_rfl
theorem s_spec_l92Pairs (F g : Nat) : ∀ args h r, u2 (c_spec_l92Pairs F g) args h = some r → Tri Go.Proofs.Try.prog 121 args h r := by
  intro args h r e; obtain ⟨a0, a1, rfl, e1⟩ := u2_some e; exact fn_sound Go.Proofs.Try.func121 rfl rfl rfl Go.Proofs.Try.ntmps121 (Sound.add (Sound.add (Sound.add (Sound.add (Sound.none _) (s_spec_l6Rd_pick F g)) (s_spec_l91Nodes F g)) (s_spec_PairOf F g)) (s_spec_l91Tree F g)) ((k_spec_l92Pairs F g a0 a1 h).trans e1)

-- "loop.example/treenumbers/spec.l92One"
noncomputable def c_spec_l92One (F g : Nat) (a0 : AV) (h : H) : Option R := bindR (c_spec_l6Open F g a0 h) fun x1 h => bindR (c_spec_l92Pairs F g x1 (AV.int 3 (Int.ofNat 4)) h) fun x2 h => some (x2, h)
noncomputable def A_spec_l92One : An := (.two .o (.two .o .o))
noncomputable def b_spec_l92One : Code := bodyOf Go.Proofs.Try.f86
theorem k_spec_l92One (F g : Nat) (a0 : AV) (h : H) : callD Go.Proofs.Try.prog (Env.add (Env.add (fun _ _ _ => none : Env) 66 (u1 (c_spec_l6Open F g))) 121 (u2 (c_spec_l92Pairs F g))) 6 F b_spec_l92One [2] A_spec_l92One [a0] h = c_spec_l92One F g a0 h := by kernel_rfl
theorem s_spec_l92One (F g : Nat) : ∀ args h r, u1 (c_spec_l92One F g) args h = some r → Tri Go.Proofs.Try.prog 86 args h r := by
  intro args h r e; obtain ⟨a0, rfl, e1⟩ := u1_some e; exact fn_sound Go.Proofs.Try.func86 rfl rfl rfl Go.Proofs.Try.ntmps86 (Sound.add (Sound.add (Sound.none _) (s_spec_l6Open F g)) (s_spec_l92Pairs F g)) ((k_spec_l92One F g a0 h).trans e1)

end
end Go.AI.Q
namespace Go.AI.Q
open Go Go.RowKit Go.AI
set_option linter.unusedVariables false
set_option linter.unusedSimpArgs false
set_option maxRecDepth 100000
noncomputable section
/-- What PairOf comes to on a small tree: a text of at most 18 signs, and whether there is one. -/
def pairsOk (l : List Nat) : Bool := bc (Nat.ble (lenL l) 10) (@Option.rec R (fun _ => Bool) false (fun r => r.1.onTup false fun a => a.onCons false fun x t => t.onCons false fun b e => x.onStr false fun p n => b.onBool false fun _ => e.onLeaf false fun m => @Leaf.rec (fun _ => Bool) false false false false false false (bc (Nat.beq (lenL p) n) (Nat.ble n 18) false) (fun _ => false) (fun _ _ _ _ => false) (fun _ => false) m) (Go.AI.P0.c_spec_PairOf 20000 20 (.str l (lenL l)) H0)) true
theorem pairs_all : allR pairsOk 17 1 1 (fun l => 40 :: l) = true := by kernel_rfl
theorem pairs_bad {l : List Nat} {n : Nat} (hn : lenL l = n) (ht : isTree l = false) (h : H) : Go.AI.P0.c_spec_PairOf 20000 20 (.str l n) h = some (.one .tup (.cons (.str [] 0) (.cons (.bool false) (.leaf .nil))), h) := by
  delta Go.AI.P0.c_spec_PairOf Go.AI.P0.c_spec_TreeIn
  rw [Go.AI.T.spec_bad hn ht, bindR_some', Go.AI.T.aNot_b, Go.AI.T.bnot_f, withBool_bool, bc_true]
  try rfl
theorem pairs_run {F g : Nat} {l : List Nat} (hl : l.length ≤ 10) (h : H) : ∃ (s : List Nat) (ok : Bool), s.length ≤ 18 ∧ c_spec_PairOf F g (.str l l.length) h = some (.one .tup (.cons (.str s s.length) (.cons (.bool ok) (.leaf .nil))), h) := by
  have hL : lenL l = l.length := lenL_eq l
  cases ht : isTree l with
  | false =>
    refine ⟨[], false, by simp, ?_⟩
    show bc true (onSome (Go.AI.P0.c_spec_PairOf 20000 20 (.str l l.length) H0) fun r => bc r.1.plain (some (r.1, h)) none) none = _
    rw [pairs_bad hL ht]; rfl
  | true =>
    have hm := isTree_mem ht
    obtain ⟨r, hr, he⟩ := List.mem_map.1 hm
    have h1 := allR_mem pairsOk 17 1 1 (fun l => 40 :: l) pairs_all r hr
    rw [show (40 :: r) = l from he] at h1
    unfold pairsOk at h1
    rw [hL, ble_true hl, bc_true] at h1
    show ∃ (s : List Nat) (ok : Bool), s.length ≤ 18 ∧ bc true (onSome (Go.AI.P0.c_spec_PairOf 20000 20 (.str l l.length) H0) fun r => bc r.1.plain (some (r.1, h)) none) none = _
    generalize Go.AI.P0.c_spec_PairOf 20000 20 (.str l l.length) H0 = x at h1 ⊢
    cases x with
    | none => cases h1
    | some r =>
      obtain ⟨v, h'⟩ := r
      cases v <;> try (cases h1; done)
      rename_i t a
      cases t <;> try (cases h1; done)
      cases a <;> try (cases h1; done)
      rename_i x t
      cases t <;> try (cases h1; done)
      rename_i b e
      cases x <;> try (cases h1; done)
      rename_i p n
      cases b <;> try (cases h1; done)
      rename_i ok
      cases e <;> try (cases h1; done)
      rename_i m
      cases m <;> try (cases h1; done)
      have h1 : bc (Nat.beq (lenL p) n) (Nat.ble n 18) false = true := h1
      cases hb : Nat.beq (lenL p) n with
      | false => rw [hb] at h1; cases h1
      | true =>
        rw [hb, bc_true] at h1
        have hb := Nat.eq_of_beq_eq_true hb
        have h1 := Nat.le_of_ble_eq_true h1
        rw [lenL_eq] at hb
        subst hb
        exact ⟨p, ok, h1, rfl⟩
section
variable {F g m Q p : Nat} {b : AV} {L : List AV} {h : H}
theorem pairs_draw (r : Rdr b m L Q p h) (hF : 10000 < F) (hp : p < 50000) : ∃ l p' h', (l.length ≤ 300 ∧ (isTree l = true → l.length ≤ 18)) ∧ p' ≤ p + 900 ∧ c_spec_l92Pairs F g (.ptr Q 0) (nI 4) h = some (.str l l.length, h') ∧ Rdr b m L Q p' h' := by
  obtain ⟨v, h1, hv, e1, r1, _, _⟩ := r.pick (F := F) (g := g) (n := 5) (by omega) (by omega)
  obtain ⟨l, p2, h2, g1, g2, g3, r2⟩ := nodes_ok (F := F) (g := g) (n := 1 + v) r1 hF (by omega) (by omega)
  obtain ⟨s, ok, hs, ep⟩ := pairs_run (F := F) (g := g) (l := l) (by omega) h2
  have big : ∀ (p3 : Nat) (h3 : H), Rdr b m L Q p3 h3 → p3 < 60000 → ∃ l p' h', (l.length ≤ 300 ∧ (isTree l = true → l.length ≤ 18)) ∧ p' ≤ p3 + 300 ∧ c_spec_l91Tree F g (.ptr Q 0) (nI 6) h3 = some (.str l l.length, h') ∧ Rdr b m L Q p' h' := fun p3 h3 r3 hp3 => by
    obtain ⟨l, p', h', k1, k2, k3, k4⟩ := tree_ok' (F := F) (g := g) (n := 6) r3 hF (by omega) (by omega)
    have k1' : l.length ≤ 300 ∧ (isTree l = true → l.length ≤ 12) := k1
    exact ⟨l, p', h', ⟨k1'.1, fun hT => by have := k1'.2 hT; omega⟩, k2, k3, k4⟩
  have hd : c_spec_l92Pairs F g (.ptr Q 0) (nI 4) h = guardB false (.bool (bnot ok)) (bindR (c_spec_l6Rd_pick F g (.ptr Q 0) (nI 24) h2) fun x16 h => aCmpI ieq x16 (nI 0) h fun x17 h => (c_spec_l92Pairs_j1 F g) [.ptr Q 0, .str s s.length, .bool (bnot ok), x17] h) ((c_spec_l92Pairs_j1 F g) [.ptr Q 0, .str s s.length, .bool (bnot ok), (AV.one .tup (AV.leaf .nil))] h2) := by
    delta c_spec_l92Pairs
    rw [show ∀ k : AV → H → Option R, aArith iadd (nI 4) (AV.int 3 (Int.ofNat 1)) h k = k (nI 5) h from fun k => rfl, e1, bindR_some', show AV.int 3 (Int.ofNat 1) = nI 1 from rfl, addN (by omega), g3, bindR_some', ep, bindR_some', aExtract_0, aExtract_1, Go.AI.T.aNot_b]
  rw [hd]
  cases ok with
  | false =>
    obtain ⟨l', p', h', k1, k2, k3, k4⟩ := big p2 h2 r2 (by omega)
    refine ⟨l', p', h', k1, by omega, ?_, k4⟩
    show bindR (c_spec_l91Tree F g (.ptr Q 0) (nI 6) h2) (fun x15 h => some (x15, h)) = _
    rw [k3, bindR_some']
  | true =>
    obtain ⟨v3, h3, hv3, e3, r3, _, _⟩ := r2.pick (F := F) (g := g) (n := 24) (by omega) (by omega)
    have hd2 : guardB false (.bool (bnot true)) (bindR (c_spec_l6Rd_pick F g (.ptr Q 0) (nI 24) h2) fun x16 h => aCmpI ieq x16 (nI 0) h fun x17 h => (c_spec_l92Pairs_j1 F g) [.ptr Q 0, .str s s.length, .bool (bnot true), x17] h) ((c_spec_l92Pairs_j1 F g) [.ptr Q 0, .str s s.length, .bool (bnot true), (AV.one .tup (AV.leaf .nil))] h2) =
        c_spec_l92Pairs_j1 F g [.ptr Q 0, .str s s.length, .bool false, .bool (Nat.beq v3 0)] h3 := by
      show (bindR (c_spec_l6Rd_pick F g (.ptr Q 0) (nI 24) h2) fun x16 h => aCmpI ieq x16 (nI 0) h fun x17 h => (c_spec_l92Pairs_j1 F g) [.ptr Q 0, .str s s.length, .bool false, x17] h) = _
      rw [e3, bindR_some', show nI 0 = AV.int 3 (Int.ofNat 0) from rfl, eqlN]
    rw [hd2]
    cases hz : Nat.beq v3 0 with
    | true =>
      obtain ⟨l', p', h', k1, k2, k3, k4⟩ := big (p2 + 1) h3 r3 (by omega)
      refine ⟨l', p', h', k1, by omega, ?_, k4⟩
      show bindR (c_spec_l91Tree F g (.ptr Q 0) (nI 6) h3) (fun x15 h => some (x15, h)) = _
      rw [k3, bindR_some']
    | false => exact ⟨s, p2 + 1, h3, ⟨by omega, fun _ => hs⟩, by omega, rfl, r3⟩
end
theorem one_ok {F g : Nat} {a : AV} {c : Nat} {L : List AV} {h : H} (hF : 10000 < F) (ha : (a = .leaf .nils ∧ c = 0) ∨ a = .osl 0 0 c 1) (h0 : 0 < c → ∃ fl, h.get 0 = .cells fl L) (hb : ∀ i, i < c → ∃ v, L[i]? = some (.int 4 (.ofNat v)) ∧ v < 256) (hn : 1 ≤ h.n) (hlo : 1 ≤ h.lo) :
    ∃ l h', (l.length ≤ 300 ∧ (isTree l = true → l.length ≤ 18)) ∧ c_spec_l92One F g a h = some (.str l l.length, h') ∧ 1 ≤ h'.lo := by
  obtain ⟨b, m, h1, e1, r1, _⟩ := open_ok (F := F) (g := g) ha h0 hb hn hlo
  obtain ⟨l, p', h2, g1, g2, g3, r2⟩ := pairs_draw (F := F) (g := g) r1 hF (by omega)
  refine ⟨l, h2, g1, ?_, r2.lo⟩
  delta c_spec_l92One
  rw [e1, bindR_some', show AV.int 3 (Int.ofNat 4) = nI 4 from rfl, g3, bindR_some']
end
end Go.AI.Q
