/- The functions that the law FnLevelsCount reaches, as the evaluator reads them. -/
import Derived.Test.YthoidonmlfibfabLcGiv
import Derived.Test.YthoidonmlfibfabProg
import Derived.KernelRfl
namespace Go.AI.T
open Go Go.RowKit Go.AI
set_option linter.unusedVariables false
set_option linter.unusedSimpArgs false
set_option maxRecDepth 100000
noncomputable section
-- "loop.example/treenumbers/spec.DrawLevelsCount"
noncomputable def c_raw_spec_DrawLevelsCount (F g : Nat) (a0 : AV) (h : H) : Option R := bindR (Go.AI.c_spec_l6Open F g a0 h) fun x1 h => bindR (Go.AI.c_spec_l6Rd_pick F g x1 (AV.int 3 (Int.ofNat 14)) h) fun x2 h => some (x2, h)
noncomputable def A_raw_spec_DrawLevelsCount : An := (.two .o (.two .o (.two .o .o)))
noncomputable def b_raw_spec_DrawLevelsCount : Code := bodyOf Go.Proofs.Try.f14
theorem k_raw_spec_DrawLevelsCount (F g : Nat) (a0 : AV) (h : H) : callD Go.Proofs.Try.prog (Env.add (Env.add (fun _ _ _ => none : Env) 51 (u1 (Go.AI.c_spec_l6Open F g))) 52 (u2 (Go.AI.c_spec_l6Rd_pick F g))) 8 F b_raw_spec_DrawLevelsCount [2] A_raw_spec_DrawLevelsCount [a0] h = c_raw_spec_DrawLevelsCount F g a0 h := by kernel_rfl
theorem s_raw_spec_DrawLevelsCount (F g : Nat) : ∀ args h r, u1 (c_raw_spec_DrawLevelsCount F g) args h = some r → Tri Go.Proofs.Try.prog 14 args h r := by
  intro args h r e; obtain ⟨a0, rfl, e1⟩ := u1_some e; exact fn_sound Go.Proofs.Try.func14 rfl rfl rfl Go.Proofs.Try.ntmps14 (Sound.add (Sound.add (Sound.none _) (Go.AI.s_spec_l6Open F g)) (Go.AI.s_spec_l6Rd_pick F g)) ((k_raw_spec_DrawLevelsCount F g a0 h).trans e1)

end
end Go.AI.T
namespace Go.AI.T
open Go Go.RowKit Go.AI
set_option linter.unusedVariables false
set_option linter.unusedSimpArgs false
set_option maxRecDepth 100000
noncomputable section
/-- Does it hold of all numbers less than n? -/
def allB (f : Nat → Bool) (n : Nat) : Bool := @Nat.rec (fun _ => Bool) true (fun k r => bc (f k) r false) n
theorem allB_spec (f : Nat → Bool) : ∀ n, allB f n = true → ∀ v, v < n → f v = true
  | 0, _, v, hv => by omega
  | n + 1, h, v, hv => by
    have h : bc (f n) (allB f n) false = true := h
    cases hf : f n with
    | false => rw [hf] at h; cases h
    | true =>
      rw [hf, bc_true] at h
      by_cases hn : v = n
      · subst hn; exact hf
      · exact allB_spec f n h v (by omega)
def c_spec_DrawLevelsCount (F g : Nat) (a0 : AV) (h : H) : Option R := quietC (c_raw_spec_DrawLevelsCount 20000 20) a0 h
theorem s_spec_DrawLevelsCount (F g : Nat) : ∀ args h r, u1 (c_spec_DrawLevelsCount F g) args h = some r → Tri Go.Proofs.Try.prog id_spec_DrawLevelsCount args h r := quietC_sound (s_raw_spec_DrawLevelsCount 20000 20)
theorem draw_FnLevelsCount (F g : Nat) {a0 : AV} {n : Nat} {L : List AV} {B : Blk} (ha : (a0 = .leaf .nils ∧ n = 0) ∨ a0 = .osl 0 0 n 1) (hB : 0 < n → B = .cells 2 L) (hb : ∀ i, i < n → ∃ v, L[i]? = some (.int 4 (.ofNat v)) ∧ v < 256) :
    ∃ v, v < 14 ∧ c_spec_DrawLevelsCount F g a0 (hCode B) = some (nI v, hCode B) := by
  obtain ⟨b, m, h1, e1, r1, _⟩ := open_ok (F := 20000) (g := 20) (h := hCode B) ha (fun hn => ⟨2, hB hn⟩) hb (Nat.le_refl _) (Nat.le_refl _)
  obtain ⟨v, h2, hv, e2, r2, _, _⟩ := r1.pick (F := 20000) (g := 20) (n := 14) (by omega) (by omega)
  refine ⟨v, by omega, quietC_ok (h' := h2) ?_ rfl r2.lo⟩
  delta c_raw_spec_DrawLevelsCount
  rw [show (hCode B).mark = hCode B from rfl, e1, bindR_some', e2, bindR_some']
end
end Go.AI.T
namespace Go.AI.T
open Go Go.RowKit Go.AI
set_option linter.unusedVariables false
set_option linter.unusedSimpArgs false
set_option maxRecDepth 100000
noncomputable section
-- "loop.example/treenumbers/spec.l6In"
noncomputable def c_spec_l6In_j1 (F g : Nat) (vs : List AV) (h : H) : Option R := (fun x2 x3 => aPick x2 x3 (AV.bool false) h fun x4 h => some (x4, h)) (hd vs) (hd (tl vs))
noncomputable def c_spec_l6In (F g : Nat) (a0 a1 a2 : AV) (h : H) : Option R := aCmpI (fun a b => ile b a) a0 a1 h fun x1 h => guardB true x1 (aCmpI ile a0 a2 h fun x5 h => (c_spec_l6In_j1 F g) [x1, x5] h) ((c_spec_l6In_j1 F g) [x1, (AV.one .tup (AV.leaf .nil))] h)
noncomputable def A_spec_l6In : An := (.two .o (.two (.at_ [10, 13] .o .o) .o))
noncomputable def b_spec_l6In : Code := bodyOf Go.Proofs.Try.f54
theorem k_spec_l6In (F g : Nat) (a0 a1 a2 : AV) (h : H) : callD Go.Proofs.Try.prog (fun _ _ _ => none : Env) 15 F b_spec_l6In [6] A_spec_l6In [a0, a1, a2] h = c_spec_l6In F g a0 a1 a2 h := by kernel_rfl
theorem s_spec_l6In (F g : Nat) : ∀ args h r, u3 (c_spec_l6In F g) args h = some r → Tri Go.Proofs.Try.prog 54 args h r := by
  intro args h r e; obtain ⟨a0, a1, a2, rfl, e1⟩ := u3_some e; exact fn_sound Go.Proofs.Try.func54 rfl rfl rfl Go.Proofs.Try.ntmps54 (Sound.none _) ((k_spec_l6In F g a0 a1 a2 h).trans e1)

-- "loop.example/treenumbers/spec.LevelsCount"
noncomputable def c_spec_LevelsCount_j1 (F g : Nat) (kc19 : List AV → H → Option R) (vs : List AV) (h : H) : Option R := (fun x29 x30 x31 x32 x33 x34 x35 => aArith iadd x35 (AV.int 3 (Int.ofNat 1)) h fun x36 h => kc19 [x29, x30, x31, x32, x33, x34, x36] h) (hd vs) (hd (tl vs)) (hd (tl (tl vs))) (hd (tl (tl (tl vs)))) (hd (tl (tl (tl (tl vs))))) (hd (tl (tl (tl (tl (tl vs)))))) (hd (tl (tl (tl (tl (tl (tl vs)))))))
noncomputable def c_spec_LevelsCount_l2 (F g : Nat) (kc11 : List AV → H → Option R) : List AV → H → (List AV → H → Option R) → Option R := fun vs h kc19 => (fun x20 x21 x22 x23 x24 x25 x26 => aCmpI ile x26 x24 h fun x27 h => withBool x27 fun t28 => bc t28 (aRem x24 x26 h fun x37 h => aCmpI ieq x37 (AV.int 3 (Int.ofNat 0)) h fun x38 h => withBool x38 fun t39 => bc t39 (aIdxAddr 1 x21 x26 h fun x40 h => aLoad x40 h fun x41 h => aArith imul x26 x41 h fun x42 h => aArith iadd x25 x42 h fun x43 h => (c_spec_LevelsCount_j1 F g kc19) [x20, x21, x22, x23, x24, x43, x26] h) ((c_spec_LevelsCount_j1 F g kc19) [x20, x21, x22, x23, x24, x25, x26] h)) (aArith isub x22 x24 h fun x44 h => aArith iadd x44 (AV.int 3 (Int.ofNat 1)) h fun x45 h => aIdxAddr 1 x21 x45 h fun x46 h => aLoad x46 h fun x47 h => aArith imul x25 x47 h fun x48 h => aArith iadd x23 x48 h fun x49 h => aArith iadd x24 (AV.int 3 (Int.ofNat 1)) h fun x50 h => kc11 [x20, x21, x22, x49, x50] h)) (hd vs) (hd (tl vs)) (hd (tl (tl vs))) (hd (tl (tl (tl vs)))) (hd (tl (tl (tl (tl vs))))) (hd (tl (tl (tl (tl (tl vs)))))) (hd (tl (tl (tl (tl (tl (tl vs)))))))
noncomputable def c_spec_LevelsCount_l3 (F g : Nat) (kc5 : List AV → H → Option R) : List AV → H → (List AV → H → Option R) → Option R := fun vs h kc11 => (fun x12 x13 x14 x15 x16 => aCmpI ile x16 x14 h fun x17 h => withBool x17 fun t18 => bc t18 (loopD F (c_spec_LevelsCount_l2 F g kc11) [x12, x13, x14, x15, x16, (AV.int 3 (Int.ofNat 0)), (AV.int 3 (Int.ofNat 1))] h) (aQuo x15 x14 h fun x51 h => aBuildSlice 1 1 [(0, 1, x51)] h fun x52 h => aAppend 1 8 x13 x52 h fun x53 h => aArith iadd x14 (AV.int 3 (Int.ofNat 1)) h fun x54 h => kc5 [x12, x53, x54] h)) (hd vs) (hd (tl vs)) (hd (tl (tl vs))) (hd (tl (tl (tl vs)))) (hd (tl (tl (tl (tl vs)))))
noncomputable def c_spec_LevelsCount_l4 (F g : Nat) : List AV → H → (List AV → H → Option R) → Option R := fun vs h kc5 => (fun x6 x7 x8 => aCmpI ilt x8 x6 h fun x9 h => withBool x9 fun t10 => bc t10 (loopD F (c_spec_LevelsCount_l3 F g kc5) [x6, x7, x8, (AV.int 3 (Int.ofNat 0)), (AV.int 3 (Int.ofNat 1))] h) (aIdxAddr 1 x7 x6 h fun x55 h => aLoad x55 h fun x56 h => some (AV.one .tup (AV.cons x56 (AV.cons (AV.bool true) (AV.leaf .nil))), h))) (hd vs) (hd (tl vs)) (hd (tl (tl vs)))
noncomputable def c_spec_LevelsCount (F g : Nat) (a0 : AV) (h : H) : Option R := bindR (c_spec_l6In F g a0 (AV.int 3 (Int.ofNat 1)) (AV.int 3 (Int.ofNat 12)) h) fun x1 h => aNot x1 h fun x2 h => withBool x2 fun t3 => bc t3 (some (AV.one .tup (AV.cons (AV.int 3 (Int.ofNat 0)) (AV.cons (AV.bool false) (AV.leaf .nil))), h)) (aBuildSlice 2 1 [(0, 1, (AV.int 3 (Int.ofNat 0))), (1, 1, (AV.int 3 (Int.ofNat 1)))] h fun x4 h => loopD F (c_spec_LevelsCount_l4 F g) [a0, x4, (AV.int 3 (Int.ofNat 1))] h)
noncomputable def A_spec_LevelsCount : An := (.two .o (.two (.two .o (.two (.two .o .o) .o)) (.two .o (.two (.two .o (.two (.at_ [0, 4, 5] (.two (.two .o (.two .o .o)) (.two (.two (.two .o (.two (.two .o (.two (.at_ [0, 4, 5, 6, 7] (.two (.two .o (.two .o .o)) (.two (.two (.two .o (.two (.two .o (.two (.at_ [0, 4, 5, 6, 7, 8, 9] (.two (.two .o (.two .o .o)) (.at_ [0, 4, 5, 6, 7, 8, 9] (.two (.two .o (.two .o .o)) .o) .o)) .o) .o)) .o)) .o) .o)) .o) .o)) .o)) .o) .o)) .o) .o)) (.two .o .o)))))
noncomputable def b_spec_LevelsCount : Code := bodyOf Go.Proofs.Try.f16
theorem k_spec_LevelsCount (F g : Nat) (a0 : AV) (h : H) : callD Go.Proofs.Try.prog (Env.add (fun _ _ _ => none : Env) 54 (u3 (c_spec_l6In F g))) 62 F b_spec_LevelsCount [2, 3] A_spec_LevelsCount [a0] h = c_spec_LevelsCount F g a0 h := by kernel_rfl
theorem s_spec_LevelsCount (F g : Nat) : ∀ args h r, u1 (c_spec_LevelsCount F g) args h = some r → Tri Go.Proofs.Try.prog 16 args h r := by
  intro args h r e; obtain ⟨a0, rfl, e1⟩ := u1_some e; exact fn_sound Go.Proofs.Try.func16 rfl rfl rfl Go.Proofs.Try.ntmps16 (Sound.add (Sound.none _) (s_spec_l6In F g)) ((k_spec_LevelsCount F g a0 h).trans e1)

-- "loop.example/treenumbers/impl.LevelsPlane"
noncomputable def c_impl_LevelsPlane_l1 (F g : Nat) (kc8 : List AV → H → Option R) : List AV → H → (List AV → H → Option R) → Option R := fun vs h kc14 => (fun x15 x16 x17 x18 x19 => aCmpI ilt x19 x17 h fun x20 h => withBool x20 fun t21 => bc t21 (aIdxAddr 1 x16 x19 h fun x22 _ => aLoad x22 h fun x23 _ => aArith isub x17 x19 h fun x24 _ => aIdxAddr 1 x16 x24 h fun x25 _ => aLoad x25 h fun x26 _ => aArith imul x23 x26 h fun x27 _ => aArith iadd x18 x27 h fun x28 _ => aArith iadd x19 (AV.int 3 (Int.ofNat 1)) h fun x29 h => kc14 [x15, x16, x17, x28, x29] h) (aBuildSlice 1 1 [(0, 1, x18)] h fun x30 h => aAppend 1 8 x16 x30 h fun x31 h => aArith iadd x17 (AV.int 3 (Int.ofNat 1)) h fun x32 h => kc8 [x15, x31, x32] h)) (hd vs) (hd (tl vs)) (hd (tl (tl vs))) (hd (tl (tl (tl vs)))) (hd (tl (tl (tl (tl vs)))))
noncomputable def c_impl_LevelsPlane_l2 (F g : Nat) : List AV → H → (List AV → H → Option R) → Option R := fun vs h kc8 => (fun x9 x10 x11 => aCmpI ile x11 x9 h fun x12 h => withBool x12 fun t13 => bc t13 (loopD F (c_impl_LevelsPlane_l1 F g kc8) [x9, x10, x11, (AV.int 3 (Int.ofNat 0)), (AV.int 3 (Int.ofNat 1))] h) (aIdxAddr 1 x10 x9 h fun x33 h => aLoad x33 h fun x34 h => some (AV.one .tup (AV.cons x34 (AV.cons (AV.bool true) (AV.leaf .nil))), h))) (hd vs) (hd (tl vs)) (hd (tl (tl vs)))
noncomputable def c_impl_LevelsPlane_j3 (F g : Nat) (vs : List AV) (h : H) : Option R := (fun x2 x3 x4 => aPick x3 (AV.bool true) x4 h fun x5 h => withBool x5 fun t6 => bc t6 (some (AV.one .tup (AV.cons (AV.int 3 (Int.ofNat 0)) (AV.cons (AV.bool false) (AV.leaf .nil))), h)) (aBuildSlice 2 1 [(0, 1, (AV.int 3 (Int.ofNat 0))), (1, 1, (AV.int 3 (Int.ofNat 1)))] h fun x7 h => loopD F (c_impl_LevelsPlane_l2 F g) [x2, x7, (AV.int 3 (Int.ofNat 2))] h)) (hd vs) (hd (tl vs)) (hd (tl (tl vs)))
noncomputable def c_impl_LevelsPlane (F g : Nat) (a0 : AV) (h : H) : Option R := aCmpI ilt a0 (AV.int 3 (Int.ofNat 1)) h fun x1 h => guardB false x1 (aCmpI (fun a b => ilt b a) a0 (AV.int 3 (Int.ofNat 12)) h fun x35 h => (c_impl_LevelsPlane_j3 F g) [a0, x1, x35] h) ((c_impl_LevelsPlane_j3 F g) [a0, x1, (AV.one .tup (AV.leaf .nil))] h)
noncomputable def A_impl_LevelsPlane : An := (.two .o (.two (.two (.at_ [0, 10, 12] .o .o) (.two (.two .o .o) .o)) (.two .o (.two (.two .o (.two (.at_ [0, 4, 5] (.two (.two .o (.two .o .o)) (.two (.two (.two .o (.two (.two .o (.two (.at_ [0, 4, 5, 6, 7] (.two (.two .o (.two .o .o)) (.two (.two .o .o) .o)) .o) .o)) .o)) .o) .o)) .o) .o)) (.two .o .o)))))
noncomputable def b_impl_LevelsPlane : Code := bodyOf Go.Proofs.Try.f17
theorem k_impl_LevelsPlane (F g : Nat) (a0 : AV) (h : H) : callD Go.Proofs.Try.prog (fun _ _ _ => none : Env) 46 F b_impl_LevelsPlane [2, 3] A_impl_LevelsPlane [a0] h = c_impl_LevelsPlane F g a0 h := by kernel_rfl
theorem s_impl_LevelsPlane (F g : Nat) : ∀ args h r, u1 (c_impl_LevelsPlane F g) args h = some r → Tri Go.Proofs.Try.prog 17 args h r := by
  intro args h r e; obtain ⟨a0, rfl, e1⟩ := u1_some e; exact fn_sound Go.Proofs.Try.func17 rfl rfl rfl Go.Proofs.Try.ntmps17 (Sound.none _) ((k_impl_LevelsPlane F g a0 h).trans e1)

-- "loop.example/treenumbers/laws.FnLevelsCount"
noncomputable def c_laws_FnLevelsCount_j1 (F g : Nat) (vs : List AV) (h : H) : Option R := (fun x30 x31 => aPick x30 x31 (AV.bool false) h fun x32 h => some (x32, h)) (hd vs) (hd (tl vs))
noncomputable def c_laws_FnLevelsCount_j2 (F g : Nat) (vs : List AV) (h : H) : Option R := (fun x54 x55 => aPick x54 x55 (AV.bool false) h fun x56 h => some (x56, h)) (hd vs) (hd (tl vs))
noncomputable def c_laws_FnLevelsCount_j3 (F g : Nat) (vs : List AV) (h : H) : Option R := (fun x51 x52 x53 => guardB true x51 (aPick x52 (AV.bool true) x53 h fun x57 h => (c_laws_FnLevelsCount_j2 F g) [x51, x57] h) ((c_laws_FnLevelsCount_j2 F g) [x51, (AV.one .tup (AV.leaf .nil))] h)) (hd vs) (hd (tl vs)) (hd (tl (tl vs)))
noncomputable def c_laws_FnLevelsCount_j4 (F g : Nat) (vs : List AV) (h : H) : Option R := (fun x47 x48 x49 x50 => guardB false x50 (aCmpI ile x48 x47 h fun x58 h => (c_laws_FnLevelsCount_j3 F g) [x49, x50, x58] h) ((c_laws_FnLevelsCount_j3 F g) [x49, x50, (AV.one .tup (AV.leaf .nil))] h)) (hd vs) (hd (tl vs)) (hd (tl (tl vs))) (hd (tl (tl (tl vs))))
noncomputable def c_laws_FnLevelsCount_j5 (F g : Nat) (vs : List AV) (h : H) : Option R := (fun x41 x42 x43 x44 x45 => aPick x44 x45 (AV.bool false) h fun x46 h => guardB true x46 (aNot x43 h fun x59 h => (c_laws_FnLevelsCount_j4 F g) [x41, x42, x46, x59] h) ((c_laws_FnLevelsCount_j4 F g) [x41, x42, x46, (AV.one .tup (AV.leaf .nil))] h)) (hd vs) (hd (tl vs)) (hd (tl (tl vs))) (hd (tl (tl (tl vs)))) (hd (tl (tl (tl (tl vs)))))
noncomputable def c_laws_FnLevelsCount_j6 (F g : Nat) (vs : List AV) (h : H) : Option R := (fun x20 x21 x22 x23 x24 x25 x26 => aPick x25 (AV.bool true) x26 h fun x27 h => withBool x27 fun t28 => bc t28 (aEq false 0 x22 x24 h fun x29 h => guardB true x29 (aCmpI ieq x21 x23 h fun x33 h => (c_laws_FnLevelsCount_j1 F g) [x29, x33] h) ((c_laws_FnLevelsCount_j1 F g) [x29, (AV.one .tup (AV.leaf .nil))] h)) (bindR (c_impl_LevelsPlane F g x20 h) fun x34 h => aExtract x34 0 h fun x35 h => aExtract x34 1 h fun x36 h => aArith isub x20 (AV.int 3 (Int.ofNat 1)) h fun x37 h => bindR (c_impl_LevelsCount F g x37 h) fun x38 h => aExtract x38 0 h fun x39 h => aExtract x38 1 h fun x40 h => guardB true x36 (aCmpI ile x21 x35 h fun x60 h => (c_laws_FnLevelsCount_j5 F g) [x21, x39, x40, x36, x60] h) ((c_laws_FnLevelsCount_j5 F g) [x21, x39, x40, x36, (AV.one .tup (AV.leaf .nil))] h))) (hd vs) (hd (tl vs)) (hd (tl (tl vs))) (hd (tl (tl (tl vs)))) (hd (tl (tl (tl (tl vs))))) (hd (tl (tl (tl (tl (tl vs)))))) (hd (tl (tl (tl (tl (tl (tl vs)))))))
noncomputable def c_laws_FnLevelsCount_j7 (F g : Nat) (vs : List AV) (h : H) : Option R := (fun x12 x13 x14 x15 x16 x17 x18 => aPick x17 (AV.bool true) x18 h fun x19 h => guardB false x19 (aNot x14 h fun x61 h => (c_laws_FnLevelsCount_j6 F g) [x12, x13, x14, x15, x16, x19, x61] h) ((c_laws_FnLevelsCount_j6 F g) [x12, x13, x14, x15, x16, x19, (AV.one .tup (AV.leaf .nil))] h)) (hd vs) (hd (tl vs)) (hd (tl (tl vs))) (hd (tl (tl (tl vs)))) (hd (tl (tl (tl (tl vs))))) (hd (tl (tl (tl (tl (tl vs)))))) (hd (tl (tl (tl (tl (tl (tl vs)))))))
noncomputable def c_laws_FnLevelsCount_r8 (F g : Nat) (x4 : AV) (h : H) : Option R := bindR (c_impl_LevelsCount F g x4 h) fun x5 h => aExtract x5 0 h fun x6 h => aExtract x5 1 h fun x7 h => bindR (c_spec_LevelsCount F g x4 h) fun x8 h => aExtract x8 0 h fun x9 h => aExtract x8 1 h fun x10 h => aEq true 0 x7 x10 h fun x11 h => guardB false x11 (aCmpI (fun a b => bnot (ieq a b)) x6 x9 h fun x62 h => (c_laws_FnLevelsCount_j7 F g) [x4, x6, x7, x9, x10, x11, x62] h) ((c_laws_FnLevelsCount_j7 F g) [x4, x6, x7, x9, x10, x11, (AV.one .tup (AV.leaf .nil))] h)
noncomputable def c_laws_FnLevelsCount (F g : Nat) (a0 : AV) (h : H) : Option R := aLenK 1 a0 h fun x1 h => aCmpI (fun a b => ilt b a) x1 (AV.int 3 (Int.ofNat 1048576)) h fun x2 h => withBool x2 fun t3 => bc t3 (some ((AV.bool true), h)) (bindR (c_spec_DrawLevelsCount F g a0 h) fun x4 h => c_laws_FnLevelsCount_r8 F g x4 h)
noncomputable def A_laws_FnLevelsCount : An := (.two .o (.two (.two .o (.two (.two .o .o) .o)) (.two .o (.two .o (.two .o (.two (.two (.at_ [3, 4, 5, 6, 7, 30, 33] .o (.at_ [3, 4, 5, 6, 7, 35, 37] .o .o)) (.two (.two (.at_ [42, 45] .o .o) .o) .o)) (.two .o (.two .o (.two (.at_ [4, 10, 11, 59, 62] .o (.at_ [4, 10, 64, 67] .o (.at_ [64, 67, 70] .o (.at_ [64, 71] .o .o)))) .o)))))))))
noncomputable def b_laws_FnLevelsCount : Code := bodyOf Go.Proofs.Try.f3
theorem k_laws_FnLevelsCount (F g : Nat) (a0 : AV) (h : H) : callD Go.Proofs.Try.prog (Env.add (Env.add (Env.add (Env.add (fun _ _ _ => none : Env) 14 (u1 (c_spec_DrawLevelsCount F g))) 15 (u1 (c_impl_LevelsCount F g))) 16 (u1 (c_spec_LevelsCount F g))) 17 (u1 (c_impl_LevelsPlane F g))) 73 F b_laws_FnLevelsCount [2] A_laws_FnLevelsCount [a0] h = c_laws_FnLevelsCount F g a0 h := by kernel_rfl
theorem s_laws_FnLevelsCount (F g : Nat) : ∀ args h r, u1 (c_laws_FnLevelsCount F g) args h = some r → Tri Go.Proofs.Try.prog 3 args h r := by
  intro args h r e; obtain ⟨a0, rfl, e1⟩ := u1_some e; exact fn_sound Go.Proofs.Try.func3 rfl rfl rfl Go.Proofs.Try.ntmps3 (Sound.add (Sound.add (Sound.add (Sound.add (Sound.none _) (s_spec_DrawLevelsCount F g)) (s_impl_LevelsCount F g)) (s_spec_LevelsCount F g)) (s_impl_LevelsPlane F g)) ((k_laws_FnLevelsCount F g a0 h).trans e1)

end
end Go.AI.T
