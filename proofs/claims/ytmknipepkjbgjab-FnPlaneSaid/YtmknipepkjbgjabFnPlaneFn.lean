/- The functions that the law FnPlane reaches, as the evaluator reads them. -/
import Derived.Test.YtmknipepkjbgjabRaw
import Derived.Test.YtmknipepkjbgjabProg
import Derived.KernelRfl
namespace Go.AI
open Go Go.RowKit Go.AI
set_option linter.unusedVariables false
set_option linter.unusedSimpArgs false
set_option maxRecDepth 100000
noncomputable section
-- "loop.example/treenumbers/spec.DrawLevelsPlane"
noncomputable def c_spec_DrawLevelsPlane (F g : Nat) (a0 : AV) (h : H) : Option R := bindR (c_spec_l6Open F g a0 h) fun x1 h => bindR (c_spec_l6Rd_pick F g x1 (AV.int 3 (Int.ofNat 14)) h) fun x2 h => some (x2, h)
noncomputable def A_spec_DrawLevelsPlane : An := (.two .o (.two .o (.two .o .o)))
noncomputable def b_spec_DrawLevelsPlane : Code := bodyOf Go.Proofs.Try.f65
theorem k_spec_DrawLevelsPlane (F g : Nat) (a0 : AV) (h : H) : callD Go.Proofs.Try.prog (Env.add (Env.add (fun _ _ _ => none : Env) 84 (u1 (c_spec_l6Open F g))) 85 (u2 (c_spec_l6Rd_pick F g))) 8 F b_spec_DrawLevelsPlane [2] A_spec_DrawLevelsPlane [a0] h = c_spec_DrawLevelsPlane F g a0 h := by kernel_rfl
theorem s_spec_DrawLevelsPlane (F g : Nat) : ∀ args h r, u1 (c_spec_DrawLevelsPlane F g) args h = some r → Tri Go.Proofs.Try.prog 65 args h r := by
  intro args h r e; obtain ⟨a0, rfl, e1⟩ := u1_some e; exact fn_sound Go.Proofs.Try.func65 rfl rfl rfl Go.Proofs.Try.ntmps65 (Sound.add (Sound.add (Sound.none _) (s_spec_l6Open F g)) (s_spec_l6Rd_pick F g)) ((k_spec_DrawLevelsPlane F g a0 h).trans e1)

end
end Go.AI
namespace Go.AI.T
open Go Go.RowKit Go.AI
set_option linter.unusedVariables false
set_option linter.unusedSimpArgs false
set_option maxRecDepth 100000
noncomputable section
def c_spec_DrawLevelsPlane (F g : Nat) (a0 : AV) (h : H) : Option R := quietC (Go.AI.c_spec_DrawLevelsPlane 20000 20) a0 h
theorem s_spec_DrawLevelsPlane (F g : Nat) : ∀ args h r, u1 (c_spec_DrawLevelsPlane F g) args h = some r → Tri Go.Proofs.Try.prog id_spec_DrawLevelsPlane args h r := quietC_sound (Go.AI.s_spec_DrawLevelsPlane 20000 20)
theorem draw_FnPlane (F g : Nat) {a0 : AV} {n : Nat} {L : List AV} {B : Blk} (ha : (a0 = .leaf .nils ∧ n = 0) ∨ a0 = .osl 0 0 n 1) (hB : 0 < n → B = .cells 2 L) (hb : ∀ i, i < n → ∃ v, L[i]? = some (.int 4 (.ofNat v)) ∧ v < 256) :
    ∃ v, v < 14 ∧ c_spec_DrawLevelsPlane F g a0 (hCode B) = some (nI v, hCode B) := by
  obtain ⟨b, m, h1, e1, r1, _⟩ := open_ok (F := 20000) (g := 20) (h := hCode B) ha (fun hn => ⟨2, hB hn⟩) hb (Nat.le_refl _) (Nat.le_refl _)
  obtain ⟨v, h2, hv, e2, r2, _, _⟩ := r1.pick (F := 20000) (g := 20) (n := 14) (by omega) (by omega)
  refine ⟨v, by omega, quietC_ok (h' := h2) ?_ rfl r2.lo⟩
  show bindR (Go.AI.c_spec_l6Open 20000 20 a0 (hCode B)) _ = _
  rw [e1, bindR_some', e2, bindR_some']
end
end Go.AI.T
namespace Go.AI.T
open Go Go.RowKit Go.AI
set_option linter.unusedVariables false
set_option linter.unusedSimpArgs false
set_option maxRecDepth 100000
noncomputable section
-- "loop.example/treenumbers/impl.LevelsPlane"
noncomputable def c_impl_LevelsPlane_l1 (F g : Nat) (kc8 : List AV → H → Option R) : List AV → H → (List AV → H → Option R) → Option R := fun vs h kc14 => (fun x15 x16 x17 x18 x19 => aCmpI ilt x19 x17 h fun x20 h => withBool x20 fun t21 => bc t21 (aIdxAddr 1 x16 x19 h fun x22 _ => aLoad x22 h fun x23 _ => aArith isub x17 x19 h fun x24 _ => aIdxAddr 1 x16 x24 h fun x25 _ => aLoad x25 h fun x26 _ => aArith imul x23 x26 h fun x27 _ => aArith iadd x18 x27 h fun x28 _ => aArith iadd x19 (AV.int 3 (Int.ofNat 1)) h fun x29 h => kc14 [x15, x16, x17, x28, x29] h) (aBuildSlice 1 1 [(0, 1, x18)] h fun x30 h => aAppend 1 8 x16 x30 h fun x31 h => aArith iadd x17 (AV.int 3 (Int.ofNat 1)) h fun x32 h => kc8 [x15, x31, x32] h)) (hd vs) (hd (tl vs)) (hd (tl (tl vs))) (hd (tl (tl (tl vs)))) (hd (tl (tl (tl (tl vs)))))
noncomputable def c_impl_LevelsPlane_l2 (F g : Nat) : List AV → H → (List AV → H → Option R) → Option R := fun vs h kc8 => (fun x9 x10 x11 => aCmpI ile x11 x9 h fun x12 h => withBool x12 fun t13 => bc t13 (loopD F (c_impl_LevelsPlane_l1 F g kc8) [x9, x10, x11, (AV.int 3 (Int.ofNat 0)), (AV.int 3 (Int.ofNat 1))] h) (aIdxAddr 1 x10 x9 h fun x33 h => aLoad x33 h fun x34 h => some (AV.one .tup (AV.cons x34 (AV.cons (AV.bool true) (AV.leaf .nil))), h))) (hd vs) (hd (tl vs)) (hd (tl (tl vs)))
noncomputable def c_impl_LevelsPlane_j3 (F g : Nat) (vs : List AV) (h : H) : Option R := (fun x2 x3 x4 => aPick x3 (AV.bool true) x4 h fun x5 h => withBool x5 fun t6 => bc t6 (some (AV.one .tup (AV.cons (AV.int 3 (Int.ofNat 0)) (AV.cons (AV.bool false) (AV.leaf .nil))), h)) (aBuildSlice 2 1 [(0, 1, (AV.int 3 (Int.ofNat 0))), (1, 1, (AV.int 3 (Int.ofNat 1)))] h fun x7 h => loopD F (c_impl_LevelsPlane_l2 F g) [x2, x7, (AV.int 3 (Int.ofNat 2))] h)) (hd vs) (hd (tl vs)) (hd (tl (tl vs)))
noncomputable def c_impl_LevelsPlane (F g : Nat) (a0 : AV) (h : H) : Option R := aCmpI ilt a0 (AV.int 3 (Int.ofNat 1)) h fun x1 h => guardB false x1 (aCmpI (fun a b => ilt b a) a0 (AV.int 3 (Int.ofNat 12)) h fun x35 h => (c_impl_LevelsPlane_j3 F g) [a0, x1, x35] h) ((c_impl_LevelsPlane_j3 F g) [a0, x1, (AV.one .tup (AV.leaf .nil))] h)
noncomputable def A_impl_LevelsPlane : An := (.two .o (.two (.two (.at_ [0, 10, 12] .o .o) (.two (.two .o .o) .o)) (.two .o (.two (.two .o (.two (.at_ [0, 4, 5] (.two (.two .o (.two .o .o)) (.two (.two (.two .o (.two (.two .o (.two (.at_ [0, 4, 5, 6, 7] (.two (.two .o (.two .o .o)) (.two (.two .o .o) .o)) .o) .o)) .o)) .o) .o)) .o) .o)) (.two .o .o)))))
noncomputable def b_impl_LevelsPlane : Code := bodyOf Go.Proofs.Try.f66
theorem k_impl_LevelsPlane (F g : Nat) (a0 : AV) (h : H) : callD Go.Proofs.Try.prog (fun _ _ _ => none : Env) 46 F b_impl_LevelsPlane [2, 3] A_impl_LevelsPlane [a0] h = c_impl_LevelsPlane F g a0 h := by kernel_rfl
theorem s_impl_LevelsPlane (F g : Nat) : ∀ args h r, u1 (c_impl_LevelsPlane F g) args h = some r → Tri Go.Proofs.Try.prog 66 args h r := by
  intro args h r e; obtain ⟨a0, rfl, e1⟩ := u1_some e; exact fn_sound Go.Proofs.Try.func66 rfl rfl rfl Go.Proofs.Try.ntmps66 (Sound.none _) ((k_impl_LevelsPlane F g a0 h).trans e1)

-- "loop.example/treenumbers/spec.l6In"
noncomputable def c_spec_l6In_j1 (F g : Nat) (vs : List AV) (h : H) : Option R := (fun x2 x3 => aPick x2 x3 (AV.bool false) h fun x4 h => some (x4, h)) (hd vs) (hd (tl vs))
noncomputable def c_spec_l6In (F g : Nat) (a0 a1 a2 : AV) (h : H) : Option R := aCmpI (fun a b => ile b a) a0 a1 h fun x1 h => guardB true x1 (aCmpI ile a0 a2 h fun x5 h => (c_spec_l6In_j1 F g) [x1, x5] h) ((c_spec_l6In_j1 F g) [x1, (AV.one .tup (AV.leaf .nil))] h)
noncomputable def A_spec_l6In : An := (.two .o (.two (.at_ [10, 13] .o .o) .o))
noncomputable def b_spec_l6In : Code := bodyOf Go.Proofs.Try.f101
theorem k_spec_l6In (F g : Nat) (a0 a1 a2 : AV) (h : H) : callD Go.Proofs.Try.prog (fun _ _ _ => none : Env) 15 F b_spec_l6In [6] A_spec_l6In [a0, a1, a2] h = c_spec_l6In F g a0 a1 a2 h := by kernel_rfl
theorem s_spec_l6In (F g : Nat) : ∀ args h r, u3 (c_spec_l6In F g) args h = some r → Tri Go.Proofs.Try.prog 101 args h r := by
  intro args h r e; obtain ⟨a0, a1, a2, rfl, e1⟩ := u3_some e; exact fn_sound Go.Proofs.Try.func101 rfl rfl rfl Go.Proofs.Try.ntmps101 (Sound.none _) ((k_spec_l6In F g a0 a1 a2 h).trans e1)

-- "loop.example/treenumbers/spec.LevelsPlane"
noncomputable def c_spec_LevelsPlane_l1 (F g : Nat) : List AV → H → (List AV → H → Option R) → Option R := fun vs h kc4 => (fun x5 x6 x7 => aCmpI ilt x7 x5 h fun x8 h => withBool x8 fun t9 => bc t9 (aArith imul (AV.int 3 (Int.ofNat 4)) x7 h fun x10 h => aArith isub x10 (AV.int 3 (Int.ofNat 2)) h fun x11 h => aArith imul x6 x11 h fun x12 h => aArith iadd x7 (AV.int 3 (Int.ofNat 1)) h fun x13 h => aQuo x12 x13 h fun x14 h => aArith iadd x7 (AV.int 3 (Int.ofNat 1)) h fun x15 h => kc4 [x5, x14, x15] h) (some (AV.one .tup (AV.cons x6 (AV.cons (AV.bool true) (AV.leaf .nil))), h))) (hd vs) (hd (tl vs)) (hd (tl (tl vs)))
noncomputable def c_spec_LevelsPlane (F g : Nat) (a0 : AV) (h : H) : Option R := bindR (c_spec_l6In F g a0 (AV.int 3 (Int.ofNat 1)) (AV.int 3 (Int.ofNat 12)) h) fun x1 h => aNot x1 h fun x2 h => withBool x2 fun t3 => bc t3 (some (AV.one .tup (AV.cons (AV.int 3 (Int.ofNat 0)) (AV.cons (AV.bool false) (AV.leaf .nil))), h)) (loopD F (c_spec_LevelsPlane_l1 F g) [a0, (AV.int 3 (Int.ofNat 1)), (AV.int 3 (Int.ofNat 1))] h)
noncomputable def A_spec_LevelsPlane : An := (.two .o (.two (.two .o (.two (.two .o .o) .o)) (.two .o (.two (.two .o (.two (.at_ [0, 4, 5] (.two (.two .o (.two .o .o)) (.two (.two .o .o) .o)) .o) .o)) (.two .o .o)))))
noncomputable def b_spec_LevelsPlane : Code := bodyOf Go.Proofs.Try.f67
theorem k_spec_LevelsPlane (F g : Nat) (a0 : AV) (h : H) : callD Go.Proofs.Try.prog (Env.add (fun _ _ _ => none : Env) 101 (u3 (c_spec_l6In F g))) 23 F b_spec_LevelsPlane [2, 3] A_spec_LevelsPlane [a0] h = c_spec_LevelsPlane F g a0 h := by kernel_rfl
theorem s_spec_LevelsPlane (F g : Nat) : ∀ args h r, u1 (c_spec_LevelsPlane F g) args h = some r → Tri Go.Proofs.Try.prog 67 args h r := by
  intro args h r e; obtain ⟨a0, rfl, e1⟩ := u1_some e; exact fn_sound Go.Proofs.Try.func67 rfl rfl rfl Go.Proofs.Try.ntmps67 (Sound.add (Sound.none _) (s_spec_l6In F g)) ((k_spec_LevelsPlane F g a0 h).trans e1)

-- "loop.example/treenumbers/laws.FnPlane"
noncomputable def c_laws_FnPlane_j1 (F g : Nat) (vs : List AV) (h : H) : Option R := (fun x30 x31 => aPick x30 x31 (AV.bool false) h fun x32 h => some (x32, h)) (hd vs) (hd (tl vs))
noncomputable def c_laws_FnPlane_j2 (F g : Nat) (kc34 : List AV → H → Option R) (vs : List AV) (h : H) : Option R := (fun x49 x50 x51 x52 x53 x54 x55 x56 => aPick x55 (AV.bool true) x56 h fun x57 h => withBool x57 fun t58 => bc t58 (some ((AV.bool false), h)) (aArith imul x53 x54 h fun x59 h => aArith iadd x51 x59 h fun x60 h => aArith iadd x52 (AV.int 3 (Int.ofNat 1)) h fun x61 h => kc34 [x49, x50, x60, x61] h)) (hd vs) (hd (tl vs)) (hd (tl (tl vs))) (hd (tl (tl (tl vs)))) (hd (tl (tl (tl (tl vs))))) (hd (tl (tl (tl (tl (tl vs)))))) (hd (tl (tl (tl (tl (tl (tl vs))))))) (hd (tl (tl (tl (tl (tl (tl (tl vs))))))))
noncomputable def c_laws_FnPlane_j3 (F g : Nat) (vs : List AV) (h : H) : Option R := (fun x77 x78 => aPick x77 (AV.bool true) x78 h fun x79 h => some (x79, h)) (hd vs) (hd (tl vs))
noncomputable def c_laws_FnPlane_j4 (F g : Nat) (vs : List AV) (h : H) : Option R := (fun x74 x75 x76 => guardB false x74 (aPick x75 x76 (AV.bool false) h fun x80 h => (c_laws_FnPlane_j3 F g) [x74, x80] h) ((c_laws_FnPlane_j3 F g) [x74, (AV.one .tup (AV.leaf .nil))] h)) (hd vs) (hd (tl vs)) (hd (tl (tl vs)))
noncomputable def c_laws_FnPlane_j5 (F g : Nat) (vs : List AV) (h : H) : Option R := (fun x70 x71 x72 x73 => guardB true x73 (aCmpI ieq x71 x70 h fun x81 h => (c_laws_FnPlane_j4 F g) [x72, x73, x81] h) ((c_laws_FnPlane_j4 F g) [x72, x73, (AV.one .tup (AV.leaf .nil))] h)) (hd vs) (hd (tl vs)) (hd (tl (tl vs))) (hd (tl (tl (tl vs))))
noncomputable def c_laws_FnPlane_j6 (F g : Nat) (vs : List AV) (h : H) : Option R := (fun x64 x65 x66 x67 x68 => aPick x67 x68 (AV.bool false) h fun x69 h => guardB false x69 (aCmpI (fun a b => ilt b a) x64 (AV.int 3 (Int.ofNat 1)) h fun x82 h => (c_laws_FnPlane_j5 F g) [x65, x66, x69, x82] h) ((c_laws_FnPlane_j5 F g) [x65, x66, x69, (AV.one .tup (AV.leaf .nil))] h)) (hd vs) (hd (tl vs)) (hd (tl (tl vs))) (hd (tl (tl (tl vs)))) (hd (tl (tl (tl (tl vs)))))
noncomputable def c_laws_FnPlane_l7 (F g : Nat) : List AV → H → (List AV → H → Option R) → Option R := fun vs h kc34 => (fun x35 x36 x37 x38 => aCmpI ilt x38 x35 h fun x39 h => withBool x39 fun t40 => bc t40 (bindR (c_impl_LevelsPlane F g x38 h) fun x41 h => aExtract x41 0 h fun x42 h => aExtract x41 1 h fun x43 h => aArith isub x35 x38 h fun x44 h => bindR (c_impl_LevelsPlane F g x44 h) fun x45 h => aExtract x45 0 h fun x46 h => aExtract x45 1 h fun x47 h => aNot x43 h fun x48 h => guardB false x48 (aNot x47 h fun x62 h => (c_laws_FnPlane_j2 F g kc34) [x35, x36, x37, x38, x42, x46, x48, x62] h) ((c_laws_FnPlane_j2 F g kc34) [x35, x36, x37, x38, x42, x46, x48, (AV.one .tup (AV.leaf .nil))] h)) (aCmpI ieq x35 (AV.int 3 (Int.ofNat 1)) h fun x63 h => guardB true x63 (aCmpI ieq x36 (AV.int 3 (Int.ofNat 1)) h fun x83 h => (c_laws_FnPlane_j6 F g) [x35, x36, x37, x63, x83] h) ((c_laws_FnPlane_j6 F g) [x35, x36, x37, x63, (AV.one .tup (AV.leaf .nil))] h))) (hd vs) (hd (tl vs)) (hd (tl (tl vs))) (hd (tl (tl (tl vs))))
noncomputable def c_laws_FnPlane_j8 (F g : Nat) (vs : List AV) (h : H) : Option R := (fun x20 x21 x22 x23 x24 x25 x26 => aPick x25 (AV.bool true) x26 h fun x27 h => withBool x27 fun t28 => bc t28 (aEq false 0 x22 x24 h fun x29 h => guardB true x29 (aCmpI ieq x21 x23 h fun x33 h => (c_laws_FnPlane_j1 F g) [x29, x33] h) ((c_laws_FnPlane_j1 F g) [x29, (AV.one .tup (AV.leaf .nil))] h)) (loopD F (c_laws_FnPlane_l7 F g) [x20, x21, (AV.int 3 (Int.ofNat 0)), (AV.int 3 (Int.ofNat 1))] h)) (hd vs) (hd (tl vs)) (hd (tl (tl vs))) (hd (tl (tl (tl vs)))) (hd (tl (tl (tl (tl vs))))) (hd (tl (tl (tl (tl (tl vs)))))) (hd (tl (tl (tl (tl (tl (tl vs)))))))
noncomputable def c_laws_FnPlane_j9 (F g : Nat) (vs : List AV) (h : H) : Option R := (fun x12 x13 x14 x15 x16 x17 x18 => aPick x17 (AV.bool true) x18 h fun x19 h => guardB false x19 (aNot x14 h fun x84 h => (c_laws_FnPlane_j8 F g) [x12, x13, x14, x15, x16, x19, x84] h) ((c_laws_FnPlane_j8 F g) [x12, x13, x14, x15, x16, x19, (AV.one .tup (AV.leaf .nil))] h)) (hd vs) (hd (tl vs)) (hd (tl (tl vs))) (hd (tl (tl (tl vs)))) (hd (tl (tl (tl (tl vs))))) (hd (tl (tl (tl (tl (tl vs)))))) (hd (tl (tl (tl (tl (tl (tl vs)))))))
noncomputable def c_laws_FnPlane_r10 (F g : Nat) (x4 : AV) (h : H) : Option R := bindR (c_impl_LevelsPlane F g x4 h) fun x5 h => aExtract x5 0 h fun x6 h => aExtract x5 1 h fun x7 h => bindR (c_spec_LevelsPlane F g x4 h) fun x8 h => aExtract x8 0 h fun x9 h => aExtract x8 1 h fun x10 h => aEq true 0 x7 x10 h fun x11 h => guardB false x11 (aCmpI (fun a b => bnot (ieq a b)) x6 x9 h fun x85 h => (c_laws_FnPlane_j9 F g) [x4, x6, x7, x9, x10, x11, x85] h) ((c_laws_FnPlane_j9 F g) [x4, x6, x7, x9, x10, x11, (AV.one .tup (AV.leaf .nil))] h)
noncomputable def c_laws_FnPlane (F g : Nat) (a0 : AV) (h : H) : Option R := aLenK 1 a0 h fun x1 h => aCmpI (fun a b => ilt b a) x1 (AV.int 3 (Int.ofNat 1048576)) h fun x2 h => withBool x2 fun t3 => bc t3 (some ((AV.bool true), h)) (bindR (c_spec_DrawLevelsPlane F g a0 h) fun x4 h => c_laws_FnPlane_r10 F g x4 h)
noncomputable def A_laws_FnPlane : An := (.two .o (.two (.two .o (.two (.two .o .o) .o)) (.two .o (.two .o (.two .o (.two (.two (.at_ [3, 4, 5, 6, 7, 32, 35] .o (.at_ [3, 4, 5, 6, 7, 37, 39] .o .o)) (.two (.two (.at_ [44, 47] .o .o) .o) .o)) (.two .o (.two (.two .o (.two (.at_ [3, 4, 8, 9] (.two (.two .o (.two .o .o)) (.two (.two (.two .o (.two .o (.two (.two (.at_ [3, 4, 8, 9, 10, 12, 68, 70] .o .o) (.two (.two .o .o) .o)) .o))) .o) .o)) .o) .o)) (.two (.at_ [3, 4, 8, 79, 81] .o (.at_ [4, 8, 83, 86] .o (.at_ [83, 86, 89] .o (.at_ [83, 90] .o .o)))) .o)))))))))
noncomputable def b_laws_FnPlane : Code := bodyOf Go.Proofs.Try.f17
theorem k_laws_FnPlane (F g : Nat) (a0 : AV) (h : H) : callD Go.Proofs.Try.prog (Env.add (Env.add (Env.add (fun _ _ _ => none : Env) 65 (u1 (c_spec_DrawLevelsPlane F g))) 66 (u1 (c_impl_LevelsPlane F g))) 67 (u1 (c_spec_LevelsPlane F g))) 92 F b_laws_FnPlane [2] A_laws_FnPlane [a0] h = c_laws_FnPlane F g a0 h := by kernel_rfl
theorem s_laws_FnPlane (F g : Nat) : ∀ args h r, u1 (c_laws_FnPlane F g) args h = some r → Tri Go.Proofs.Try.prog 17 args h r := by
  intro args h r e; obtain ⟨a0, rfl, e1⟩ := u1_some e; exact fn_sound Go.Proofs.Try.func17 rfl rfl rfl Go.Proofs.Try.ntmps17 (Sound.add (Sound.add (Sound.add (Sound.none _) (s_spec_DrawLevelsPlane F g)) (s_impl_LevelsPlane F g)) (s_spec_LevelsPlane F g)) ((k_laws_FnPlane F g a0 h).trans e1)

end
end Go.AI.T
