/- The functions that the law FnStreamLengths reaches, as the evaluator reads them. -/
import Derived.Test.YtfafaadfnhhfhaaRaw
import Derived.Test.YtfafaadfnhhfhaaProg
import Derived.KernelRfl
namespace Go.AI
open Go Go.RowKit Go.AI
set_option linter.unusedVariables false
set_option linter.unusedSimpArgs false
set_option maxRecDepth 100000
noncomputable section
-- "loop.example/treenumbers/spec.DrawStreamLengths"
noncomputable def c_spec_DrawStreamLengths (F g : Nat) (a0 : AV) (h : H) : Option R := bindR (c_spec_l91Some F g a0 h) fun x1 h => some (x1, h)
noncomputable def A_spec_DrawStreamLengths : An := (.two .o (.two .o .o))
noncomputable def b_spec_DrawStreamLengths : Code := bodyOf Go.Proofs.Try.f78
theorem k_spec_DrawStreamLengths (F g : Nat) (a0 : AV) (h : H) : callD Go.Proofs.Try.prog (Env.add (fun _ _ _ => none : Env) 90 (u1 (c_spec_l91Some F g))) 5 F b_spec_DrawStreamLengths [2] A_spec_DrawStreamLengths [a0] h = c_spec_DrawStreamLengths F g a0 h := by kernel_rfl
theorem s_spec_DrawStreamLengths (F g : Nat) : ∀ args h r, u1 (c_spec_DrawStreamLengths F g) args h = some r → Tri Go.Proofs.Try.prog 78 args h r := by
  intro args h r e; obtain ⟨a0, rfl, e1⟩ := u1_some e; exact fn_sound Go.Proofs.Try.func78 rfl rfl rfl Go.Proofs.Try.ntmps78 (Sound.add (Sound.none _) (s_spec_l91Some F g)) ((k_spec_DrawStreamLengths F g a0 h).trans e1)

end
end Go.AI
namespace Go.AI.T
open Go Go.RowKit Go.AI
set_option linter.unusedVariables false
set_option linter.unusedSimpArgs false
set_option maxRecDepth 100000
noncomputable section
def c_spec_DrawStreamLengths (F g : Nat) (a0 : AV) (h : H) : Option R := quietC (Go.AI.c_spec_DrawStreamLengths 20000 20) a0 h
theorem s_spec_DrawStreamLengths (F g : Nat) : ∀ args h r, u1 (c_spec_DrawStreamLengths F g) args h = some r → Tri Go.Proofs.Try.prog id_spec_DrawStreamLengths args h r := quietC_sound (Go.AI.s_spec_DrawStreamLengths 20000 20)
theorem draw_FnStreamLengths (F g : Nat) {a0 : AV} {n : Nat} {L : List AV} {B : Blk} (ha : (a0 = .leaf .nils ∧ n = 0) ∨ a0 = .osl 0 0 n 1) (hB : 0 < n → B = .cells 2 L) (hb : ∀ i, i < n → ∃ v, L[i]? = some (.int 4 (.ofNat v)) ∧ v < 256) :
    ∃ l, (l.length ≤ 300 ∧ (isTree l = true → l.length ≤ 16)) ∧ c_spec_DrawStreamLengths F g a0 (hCode B) = some (.str l l.length, hCode B) := by
  obtain ⟨l, h', hl, e, hlo⟩ := some_ok (F := 20000) (g := 20) (h := hCode B) (by omega) ha (fun hn => ⟨2, hB hn⟩) hb (Nat.le_refl _) (Nat.le_refl _)
  refine ⟨l, hl, quietC_ok (h' := h') ?_ rfl hlo⟩
  show bindR (Go.AI.c_spec_l91Some 20000 20 a0 (hCode B)) _ = _
  rw [e]; rfl
end
end Go.AI.T
namespace Go.AI.T
open Go Go.RowKit Go.AI
set_option linter.unusedVariables false
set_option linter.unusedSimpArgs false
set_option maxRecDepth 100000
noncomputable section
-- "math/bits.Len32"
noncomputable def c_math_bits_Len32_j1 (F g : Nat) (vs : List AV) (h : H) : Option R := (fun x3 x4 => aConvI 4 x3 h fun x5 h => aIdxStr (AV.str [0, 1, 2, 2, 3, 3, 3, 3, 4, 4, 4, 4, 4, 4, 4, 4, 5, 5, 5, 5, 5, 5, 5, 5, 5, 5, 5, 5, 5, 5, 5, 5, 6, 6, 6, 6, 6, 6, 6, 6, 6, 6, 6, 6, 6, 6, 6, 6, 6, 6, 6, 6, 6, 6, 6, 6, 6, 6, 6, 6, 6, 6, 6, 6, 7, 7, 7, 7, 7, 7, 7, 7, 7, 7, 7, 7, 7, 7, 7, 7, 7, 7, 7, 7, 7, 7, 7, 7, 7, 7, 7, 7, 7, 7, 7, 7, 7, 7, 7, 7, 7, 7, 7, 7, 7, 7, 7, 7, 7, 7, 7, 7, 7, 7, 7, 7, 7, 7, 7, 7, 7, 7, 7, 7, 7, 7, 7, 7, 8, 8, 8, 8, 8, 8, 8, 8, 8, 8, 8, 8, 8, 8, 8, 8, 8, 8, 8, 8, 8, 8, 8, 8, 8, 8, 8, 8, 8, 8, 8, 8, 8, 8, 8, 8, 8, 8, 8, 8, 8, 8, 8, 8, 8, 8, 8, 8, 8, 8, 8, 8, 8, 8, 8, 8, 8, 8, 8, 8, 8, 8, 8, 8, 8, 8, 8, 8, 8, 8, 8, 8, 8, 8, 8, 8, 8, 8, 8, 8, 8, 8, 8, 8, 8, 8, 8, 8, 8, 8, 8, 8, 8, 8, 8, 8, 8, 8, 8, 8, 8, 8, 8, 8, 8, 8, 8, 8, 8, 8, 8, 8, 8, 8, 8, 8, 8, 8, 8, 8, 8, 8, 8, 8, 8, 8, 8, 8] 256) x5 h fun x6 h => aConvI 3 x6 h fun x7 h => aArith iadd x4 x7 h fun x8 h => some (x8, h)) (hd vs) (hd (tl vs))
noncomputable def c_math_bits_Len32_j2 (F g : Nat) (vs : List AV) (h : H) : Option R := (fun x1 x2 => aCmpI (fun a b => ile b a) x1 (AV.int 6 (Int.ofNat 256)) h fun x9 h => withBool x9 fun t10 => bc t10 (aShr x1 (AV.int 7 (Int.ofNat 8)) h fun x11 h => aArith iadd x2 (AV.int 3 (Int.ofNat 8)) h fun x12 h => (c_math_bits_Len32_j1 F g) [x11, x12] h) ((c_math_bits_Len32_j1 F g) [x1, x2] h)) (hd vs) (hd (tl vs))
noncomputable def c_math_bits_Len32 (F g : Nat) (a0 : AV) (h : H) : Option R := aCmpI (fun a b => ile b a) a0 (AV.int 6 (Int.ofNat 65536)) h fun x13 h => withBool x13 fun t14 => bc t14 (aShr a0 (AV.int 7 (Int.ofNat 16)) h fun x15 h => (c_math_bits_Len32_j2 F g) [x15, (AV.int 3 (Int.ofNat 16))] h) ((c_math_bits_Len32_j2 F g) [a0, (AV.int 3 (Int.ofNat 0))] h)
noncomputable def A_math_bits_Len32 : An := (.two .o (.at_ [0, 2] (.two .o (.two (.two .o .o) .o)) (.at_ [0, 2] (.two .o (.two (.two .o .o) .o)) (.two .o .o))))
noncomputable def b_math_bits_Len32 : Code := bodyOf Go.Proofs.Try.f176
theorem k_math_bits_Len32 (F g : Nat) (a0 : AV) (h : H) : callD Go.Proofs.Try.prog (fun _ _ _ => none : Env) 19 F b_math_bits_Len32 [2] A_math_bits_Len32 [a0] h = c_math_bits_Len32 F g a0 h := by kernel_rfl
theorem s_math_bits_Len32 (F g : Nat) : ∀ args h r, u1 (c_math_bits_Len32 F g) args h = some r → Tri Go.Proofs.Try.prog 176 args h r := by
  intro args h r e; obtain ⟨a0, rfl, e1⟩ := u1_some e; exact fn_sound Go.Proofs.Try.func176 rfl rfl rfl Go.Proofs.Try.ntmps176 (Sound.none _) ((k_math_bits_Len32 F g a0 h).trans e1)

-- "math/bits.Len64"
noncomputable def c_math_bits_Len64_j1 (F g : Nat) (vs : List AV) (h : H) : Option R := (fun x5 x6 => aConvI 4 x5 h fun x7 h => aIdxStr (AV.str [0, 1, 2, 2, 3, 3, 3, 3, 4, 4, 4, 4, 4, 4, 4, 4, 5, 5, 5, 5, 5, 5, 5, 5, 5, 5, 5, 5, 5, 5, 5, 5, 6, 6, 6, 6, 6, 6, 6, 6, 6, 6, 6, 6, 6, 6, 6, 6, 6, 6, 6, 6, 6, 6, 6, 6, 6, 6, 6, 6, 6, 6, 6, 6, 7, 7, 7, 7, 7, 7, 7, 7, 7, 7, 7, 7, 7, 7, 7, 7, 7, 7, 7, 7, 7, 7, 7, 7, 7, 7, 7, 7, 7, 7, 7, 7, 7, 7, 7, 7, 7, 7, 7, 7, 7, 7, 7, 7, 7, 7, 7, 7, 7, 7, 7, 7, 7, 7, 7, 7, 7, 7, 7, 7, 7, 7, 7, 7, 8, 8, 8, 8, 8, 8, 8, 8, 8, 8, 8, 8, 8, 8, 8, 8, 8, 8, 8, 8, 8, 8, 8, 8, 8, 8, 8, 8, 8, 8, 8, 8, 8, 8, 8, 8, 8, 8, 8, 8, 8, 8, 8, 8, 8, 8, 8, 8, 8, 8, 8, 8, 8, 8, 8, 8, 8, 8, 8, 8, 8, 8, 8, 8, 8, 8, 8, 8, 8, 8, 8, 8, 8, 8, 8, 8, 8, 8, 8, 8, 8, 8, 8, 8, 8, 8, 8, 8, 8, 8, 8, 8, 8, 8, 8, 8, 8, 8, 8, 8, 8, 8, 8, 8, 8, 8, 8, 8, 8, 8, 8, 8, 8, 8, 8, 8, 8, 8, 8, 8, 8, 8, 8, 8, 8, 8, 8, 8] 256) x7 h fun x8 h => aConvI 3 x8 h fun x9 h => aArith iadd x6 x9 h fun x10 h => some (x10, h)) (hd vs) (hd (tl vs))
noncomputable def c_math_bits_Len64_j2 (F g : Nat) (vs : List AV) (h : H) : Option R := (fun x3 x4 => aCmpI (fun a b => ile b a) x3 (AV.int 7 (Int.ofNat 256)) h fun x11 h => withBool x11 fun t12 => bc t12 (aShr x3 (AV.int 7 (Int.ofNat 8)) h fun x13 h => aArith iadd x4 (AV.int 3 (Int.ofNat 8)) h fun x14 h => (c_math_bits_Len64_j1 F g) [x13, x14] h) ((c_math_bits_Len64_j1 F g) [x3, x4] h)) (hd vs) (hd (tl vs))
noncomputable def c_math_bits_Len64_j3 (F g : Nat) (vs : List AV) (h : H) : Option R := (fun x1 x2 => aCmpI (fun a b => ile b a) x1 (AV.int 7 (Int.ofNat 65536)) h fun x15 h => withBool x15 fun t16 => bc t16 (aShr x1 (AV.int 7 (Int.ofNat 16)) h fun x17 h => aArith iadd x2 (AV.int 3 (Int.ofNat 16)) h fun x18 h => (c_math_bits_Len64_j2 F g) [x17, x18] h) ((c_math_bits_Len64_j2 F g) [x1, x2] h)) (hd vs) (hd (tl vs))
noncomputable def c_math_bits_Len64 (F g : Nat) (a0 : AV) (h : H) : Option R := aCmpI (fun a b => ile b a) a0 (AV.int 7 (Int.ofNat 4294967296)) h fun x19 h => withBool x19 fun t20 => bc t20 (aShr a0 (AV.int 7 (Int.ofNat 32)) h fun x21 h => (c_math_bits_Len64_j3 F g) [x21, (AV.int 3 (Int.ofNat 32))] h) ((c_math_bits_Len64_j3 F g) [a0, (AV.int 3 (Int.ofNat 0))] h)
noncomputable def A_math_bits_Len64 : An := (.two .o (.at_ [0, 2] (.two .o (.two (.two .o .o) .o)) (.at_ [0, 2] (.two .o (.two (.two .o .o) .o)) (.at_ [0, 2] (.two .o (.two (.two .o .o) .o)) (.two .o .o)))))
noncomputable def b_math_bits_Len64 : Code := bodyOf Go.Proofs.Try.f177
theorem k_math_bits_Len64 (F g : Nat) (a0 : AV) (h : H) : callD Go.Proofs.Try.prog (fun _ _ _ => none : Env) 25 F b_math_bits_Len64 [2] A_math_bits_Len64 [a0] h = c_math_bits_Len64 F g a0 h := by kernel_rfl
theorem s_math_bits_Len64 (F g : Nat) : ∀ args h r, u1 (c_math_bits_Len64 F g) args h = some r → Tri Go.Proofs.Try.prog 177 args h r := by
  intro args h r e; obtain ⟨a0, rfl, e1⟩ := u1_some e; exact fn_sound Go.Proofs.Try.func177 rfl rfl rfl Go.Proofs.Try.ntmps177 (Sound.none _) ((k_math_bits_Len64 F g a0 h).trans e1)

-- "math/bits.Len"
noncomputable def c_math_bits_Len (F g : Nat) (a0 : AV) (h : H) : Option R := withBool (AV.bool false) fun t1 => bc t1 (aConvI 6 a0 h fun x2 h => bindR (c_math_bits_Len32 F g x2 h) fun x3 h => some (x3, h)) (bindR (c_math_bits_Len64 F g a0 h) fun x4 h => some (x4, h))
noncomputable def A_math_bits_Len : An := (.two .o (.two (.two (.two .o .o) .o) (.two .o .o)))
noncomputable def b_math_bits_Len : Code := bodyOf Go.Proofs.Try.f156
theorem k_math_bits_Len (F g : Nat) (a0 : AV) (h : H) : callD Go.Proofs.Try.prog (Env.add (Env.add (fun _ _ _ => none : Env) 176 (u1 (c_math_bits_Len32 F g))) 177 (u1 (c_math_bits_Len64 F g))) 8 F b_math_bits_Len [2] A_math_bits_Len [a0] h = c_math_bits_Len F g a0 h := by kernel_rfl
theorem s_math_bits_Len (F g : Nat) : ∀ args h r, u1 (c_math_bits_Len F g) args h = some r → Tri Go.Proofs.Try.prog 156 args h r := by
  intro args h r e; obtain ⟨a0, rfl, e1⟩ := u1_some e; exact fn_sound Go.Proofs.Try.func156 rfl rfl rfl Go.Proofs.Try.ntmps156 (Sound.add (Sound.add (Sound.none _) (s_math_bits_Len32 F g)) (s_math_bits_Len64 F g)) ((k_math_bits_Len F g a0 h).trans e1)

-- "cmp.isNaN[int]"
noncomputable def c_cmp_isNaN_46f8 (F g : Nat) (a0 : AV) (h : H) : Option R := aCmpI (fun a b => bnot (ieq a b)) a0 a0 h fun x1 h => some (x1, h)
noncomputable def A_cmp_isNaN_46f8 : An := (.two .o (.two .o .o))
noncomputable def b_cmp_isNaN_46f8 : Code := bodyOf Go.Proofs.Try.f165
theorem k_cmp_isNaN_46f8 (F g : Nat) (a0 : AV) (h : H) : callD Go.Proofs.Try.prog (fun _ _ _ => none : Env) 6 F b_cmp_isNaN_46f8 [2] A_cmp_isNaN_46f8 [a0] h = c_cmp_isNaN_46f8 F g a0 h := by kernel_rfl
theorem s_cmp_isNaN_46f8 (F g : Nat) : ∀ args h r, u1 (c_cmp_isNaN_46f8 F g) args h = some r → Tri Go.Proofs.Try.prog 165 args h r := by
  intro args h r e; obtain ⟨a0, rfl, e1⟩ := u1_some e; exact fn_sound Go.Proofs.Try.func165 rfl rfl rfl Go.Proofs.Try.ntmps165 (Sound.none _) ((k_cmp_isNaN_46f8 F g a0 h).trans e1)

-- "cmp.Less[int]"
noncomputable def c_cmp_Less_46f8_j1 (F g : Nat) (vs : List AV) (h : H) : Option R := (fun x7 x8 => aPick x7 (AV.bool true) x8 h fun x9 h => some (x9, h)) (hd vs) (hd (tl vs))
noncomputable def c_cmp_Less_46f8_j2 (F g : Nat) (vs : List AV) (h : H) : Option R := (fun x2 x3 x4 x5 => aPick x4 x5 (AV.bool false) h fun x6 h => guardB false x6 (aCmpI ilt x2 x3 h fun x10 h => (c_cmp_Less_46f8_j1 F g) [x6, x10] h) ((c_cmp_Less_46f8_j1 F g) [x6, (AV.one .tup (AV.leaf .nil))] h)) (hd vs) (hd (tl vs)) (hd (tl (tl vs))) (hd (tl (tl (tl vs))))
noncomputable def c_cmp_Less_46f8 (F g : Nat) (a0 a1 : AV) (h : H) : Option R := bindR (c_cmp_isNaN_46f8 F g a0 h) fun x1 h => guardB true x1 (bindR (c_cmp_isNaN_46f8 F g a1 h) fun x11 h => aNot x11 h fun x12 h => (c_cmp_Less_46f8_j2 F g) [a0, a1, x1, x12] h) ((c_cmp_Less_46f8_j2 F g) [a0, a1, x1, (AV.one .tup (AV.leaf .nil))] h)
noncomputable def A_cmp_Less_46f8 : An := (.two .o (.two (.at_ [0, 1, 7, 10] .o (.at_ [12, 15] .o .o)) .o))
noncomputable def b_cmp_Less_46f8 : Code := bodyOf Go.Proofs.Try.f196
theorem k_cmp_Less_46f8 (F g : Nat) (a0 a1 : AV) (h : H) : callD Go.Proofs.Try.prog (Env.add (fun _ _ _ => none : Env) 165 (u1 (c_cmp_isNaN_46f8 F g))) 17 F b_cmp_Less_46f8 [4] A_cmp_Less_46f8 [a0, a1] h = c_cmp_Less_46f8 F g a0 a1 h := by kernel_rfl
theorem s_cmp_Less_46f8 (F g : Nat) : ∀ args h r, u2 (c_cmp_Less_46f8 F g) args h = some r → Tri Go.Proofs.Try.prog 196 args h r := by
  intro args h r e; obtain ⟨a0, a1, rfl, e1⟩ := u2_some e; exact fn_sound Go.Proofs.Try.func196 rfl rfl rfl Go.Proofs.Try.ntmps196 (Sound.add (Sound.none _) (s_cmp_isNaN_46f8 F g)) ((k_cmp_Less_46f8 F g a0 a1 h).trans e1)

-- "slices.insertionSortOrdered[int]"
noncomputable def c_slices_insertionSortOrdered_46f8_j1 (F g : Nat) (kc2 : List AV → H → Option R) (kc9 : List AV → H → Option R) (vs : List AV) (h : H) : Option R := (fun x16 x17 x18 x19 x20 x21 x22 => aPick x21 x22 (AV.bool false) h fun x23 _ => withBool x23 fun t24 => bc t24 (aArith isub x20 (AV.int 3 (Int.ofNat 1)) h fun x25 _ => aArith isub x20 (AV.int 3 (Int.ofNat 1)) h fun x26 _ => aIdxAddr 1 x16 x26 h fun x27 _ => aLoad x27 h fun x28 _ => aIdxAddr 1 x16 x20 h fun x29 _ => aLoad x29 h fun x30 _ => aIdxAddr 1 x16 x20 h fun x31 _ => aStore x31 x28 h fun x32 h => aIdxAddr 1 x16 x25 h fun x33 _ => aStore x33 x30 h fun x34 h => aArith isub x20 (AV.int 3 (Int.ofNat 1)) h fun x35 h => kc9 [x16, x17, x18, x19, x35] h) (aArith iadd x19 (AV.int 3 (Int.ofNat 1)) h fun x36 h => kc2 [x16, x17, x18, x36] h)) (hd vs) (hd (tl vs)) (hd (tl (tl vs))) (hd (tl (tl (tl vs)))) (hd (tl (tl (tl (tl vs))))) (hd (tl (tl (tl (tl (tl vs)))))) (hd (tl (tl (tl (tl (tl (tl vs)))))))
noncomputable def c_slices_insertionSortOrdered_46f8_l2 (F g : Nat) (kc2 : List AV → H → Option R) : List AV → H → (List AV → H → Option R) → Option R := fun vs h kc9 => (fun x10 x11 x12 x13 x14 => aCmpI (fun a b => ilt b a) x14 x11 h fun x15 _ => guardB true x15 (aIdxAddr 1 x10 x14 h fun x37 _ => aLoad x37 h fun x38 _ => aArith isub x14 (AV.int 3 (Int.ofNat 1)) h fun x39 _ => aIdxAddr 1 x10 x39 h fun x40 _ => aLoad x40 h fun x41 _ => bindR (c_cmp_Less_46f8 F g x38 x41 h) fun x42 h => (c_slices_insertionSortOrdered_46f8_j1 F g kc2 kc9) [x10, x11, x12, x13, x14, x15, x42] h) ((c_slices_insertionSortOrdered_46f8_j1 F g kc2 kc9) [x10, x11, x12, x13, x14, x15, (AV.one .tup (AV.leaf .nil))] h)) (hd vs) (hd (tl vs)) (hd (tl (tl vs))) (hd (tl (tl (tl vs)))) (hd (tl (tl (tl (tl vs)))))
noncomputable def c_slices_insertionSortOrdered_46f8_l3 (F g : Nat) : List AV → H → (List AV → H → Option R) → Option R := fun vs h kc2 => (fun x3 x4 x5 x6 => aCmpI ilt x6 x5 h fun x7 h => withBool x7 fun t8 => bc t8 (loopD F (c_slices_insertionSortOrdered_46f8_l2 F g kc2) [x3, x4, x5, x6, x6] h) (some (AV.one .tup (AV.leaf .nil), h))) (hd vs) (hd (tl vs)) (hd (tl (tl vs))) (hd (tl (tl (tl vs))))
noncomputable def c_slices_insertionSortOrdered_46f8 (F g : Nat) (a0 a1 a2 : AV) (h : H) : Option R := aArith iadd a1 (AV.int 3 (Int.ofNat 1)) h fun x1 h => loopD F (c_slices_insertionSortOrdered_46f8_l3 F g) [a0, a1, a2, x1] h
noncomputable def A_slices_insertionSortOrdered_46f8 : An := (.two .o (.two (.at_ [0, 1, 2, 6] (.two (.two .o (.two .o .o)) (.two (.two (.two .o (.two (.at_ [0, 1, 2, 6, 7] (.two (.two (.at_ [0, 1, 2, 6, 7, 19, 29] .o .o) (.two .o .o)) (.two (.two .o .o) .o)) .o) .o)) .o) .o)) .o) .o))
noncomputable def b_slices_insertionSortOrdered_46f8 : Code := bodyOf Go.Proofs.Try.f190
theorem k_slices_insertionSortOrdered_46f8 (F g : Nat) (a0 a1 a2 : AV) (h : H) : callD Go.Proofs.Try.prog (Env.add (fun _ _ _ => none : Env) 196 (u2 (c_cmp_Less_46f8 F g))) 49 F b_slices_insertionSortOrdered_46f8 [] A_slices_insertionSortOrdered_46f8 [a0, a1, a2] h = c_slices_insertionSortOrdered_46f8 F g a0 a1 a2 h := by kernel_rfl
theorem s_slices_insertionSortOrdered_46f8 (F g : Nat) : ∀ args h r, u3 (c_slices_insertionSortOrdered_46f8 F g) args h = some r → Tri Go.Proofs.Try.prog 190 args h r := by
  intro args h r e; obtain ⟨a0, a1, a2, rfl, e1⟩ := u3_some e; exact fn_sound Go.Proofs.Try.func190 rfl rfl rfl Go.Proofs.Try.ntmps190 (Sound.add (Sound.none _) (s_cmp_Less_46f8 F g)) ((k_slices_insertionSortOrdered_46f8 F g a0 a1 a2 h).trans e1)

-- "slices.pdqsortOrdered[int]"
noncomputable def c_slices_pdqsortOrdered_46f8_j1 (F g : Nat) (vs : List AV) (h : H) : Option R := (fun x14 x15 x16 x17 x18 x19 x20 => none) (hd vs) (hd (tl vs)) (hd (tl (tl vs))) (hd (tl (tl (tl vs)))) (hd (tl (tl (tl (tl vs))))) (hd (tl (tl (tl (tl (tl vs)))))) (hd (tl (tl (tl (tl (tl (tl vs)))))))
noncomputable def c_slices_pdqsortOrdered_46f8_l2 (F g : Nat) : List AV → H → (List AV → H → Option R) → Option R := fun vs h kc1 => (fun x2 x3 x4 x5 x6 x7 => aArith isub x4 x3 h fun x8 h => aCmpI ile x8 (AV.int 3 (Int.ofNat 12)) h fun x9 h => withBool x9 fun t10 => bc t10 (bindR (c_slices_insertionSortOrdered_46f8 F g x2 x3 x4 h) fun x11 h => some (AV.one .tup (AV.leaf .nil), h)) (aCmpI ieq x5 (AV.int 3 (Int.ofNat 0)) h fun x12 h => withBool x12 fun t13 => bc t13 (none) (aNot x6 h fun x21 h => withBool x21 fun t22 => bc t22 (none) ((c_slices_pdqsortOrdered_46f8_j1 F g) [x2, x3, x4, x5, x6, x7, x8] h)))) (hd vs) (hd (tl vs)) (hd (tl (tl vs))) (hd (tl (tl (tl vs)))) (hd (tl (tl (tl (tl vs))))) (hd (tl (tl (tl (tl (tl vs))))))
noncomputable def c_slices_pdqsortOrdered_46f8 (F g : Nat) (a0 a1 a2 a3 : AV) (h : H) : Option R := loopD F (c_slices_pdqsortOrdered_46f8_l2 F g) [a0, a1, a2, a3, (AV.bool true), (AV.bool true)] h
noncomputable def A_slices_pdqsortOrdered_46f8 : An := (.two .o (.two .o (.two (.at_ [0, 1, 2, 3, 8, 9] (.two (.two .o (.two (.two .o (.two (.two .o .o) .o)) (.two (.two .o (.two (.two .o .o) .o)) (.at_ [0, 1, 2, 3, 8, 9, 10] (.two .o (.two (.two .o .o) .o)) (.two .o (.at_ [0, 1, 2, 3, 8, 9, 10, 11, 12] (.two .o (.two (.two .o (.two .o .o)) .o)) (.at_ [0, 1, 2, 3, 8, 9, 10, 11] (.two (.at_ [0, 1, 2, 3, 8, 9, 10, 11, 12, 62, 63] .o (.at_ [0, 1, 2, 3, 8, 9, 10, 11, 65, 67] .o .o)) (.two (.two .o (.two .o .o)) .o)) (.two (.two (.at_ [0, 1, 2, 3, 8, 9, 10, 11, 75, 86] .o .o) (.two (.two .o (.two .o .o)) .o)) (.two .o (.two .o (.two .o (.two .o (.two .o (.two (.two .o (.two .o .o)) (.two .o (.two .o .o)))))))))))))))) .o) .o) .o)))
noncomputable def b_slices_pdqsortOrdered_46f8 : Code := bodyOf Go.Proofs.Try.f182
theorem k_slices_pdqsortOrdered_46f8 (F g : Nat) (a0 a1 a2 a3 : AV) (h : H) : callD Go.Proofs.Try.prog (Env.add (fun _ _ _ => none : Env) 190 (u3 (c_slices_insertionSortOrdered_46f8 F g))) 134 F b_slices_pdqsortOrdered_46f8 [] A_slices_pdqsortOrdered_46f8 [a0, a1, a2, a3] h = c_slices_pdqsortOrdered_46f8 F g a0 a1 a2 a3 h := by kernel_rfl
theorem s_slices_pdqsortOrdered_46f8 (F g : Nat) : ∀ args h r, u4 (c_slices_pdqsortOrdered_46f8 F g) args h = some r → Tri Go.Proofs.Try.prog 182 args h r := by
  intro args h r e; obtain ⟨a0, a1, a2, a3, rfl, e1⟩ := u4_some e; exact fn_sound Go.Proofs.Try.func182 rfl rfl rfl Go.Proofs.Try.ntmps182 (Sound.add (Sound.none _) (s_slices_insertionSortOrdered_46f8 F g)) ((k_slices_pdqsortOrdered_46f8 F g a0 a1 a2 a3 h).trans e1)

-- "slices.Sort[[]int,int]"
noncomputable def c_slices_Sort_fd8e (F g : Nat) (a0 : AV) (h : H) : Option R := aLenK 1 a0 h fun x1 h => aConvI 7 x1 h fun x2 h => bindR (c_math_bits_Len F g x2 h) fun x3 h => bindR (c_slices_pdqsortOrdered_46f8 F g a0 (AV.int 3 (Int.ofNat 0)) x1 x3 h) fun x4 h => some (AV.one .tup (AV.leaf .nil), h)
noncomputable def A_slices_Sort_fd8e : An := (.two .o .o)
noncomputable def b_slices_Sort_fd8e : Code := bodyOf Go.Proofs.Try.f161
theorem k_slices_Sort_fd8e (F g : Nat) (a0 : AV) (h : H) : callD Go.Proofs.Try.prog (Env.add (Env.add (fun _ _ _ => none : Env) 156 (u1 (c_math_bits_Len F g))) 182 (u4 (c_slices_pdqsortOrdered_46f8 F g))) 11 F b_slices_Sort_fd8e [] A_slices_Sort_fd8e [a0] h = c_slices_Sort_fd8e F g a0 h := by kernel_rfl
theorem s_slices_Sort_fd8e (F g : Nat) : ∀ args h r, u1 (c_slices_Sort_fd8e F g) args h = some r → Tri Go.Proofs.Try.prog 161 args h r := by
  intro args h r e; obtain ⟨a0, rfl, e1⟩ := u1_some e; exact fn_sound Go.Proofs.Try.func161 rfl rfl rfl Go.Proofs.Try.ntmps161 (Sound.add (Sound.add (Sound.none _) (s_math_bits_Len F g)) (s_slices_pdqsortOrdered_46f8 F g)) ((k_slices_Sort_fd8e F g a0 h).trans e1)

-- "slices.Reverse[[]int,int]"
noncomputable def c_slices_Reverse_fd8e_l1 (F g : Nat) : List AV → H → (List AV → H → Option R) → Option R := fun vs h kc3 => (fun x4 x5 x6 => aCmpI ilt x5 x6 h fun x7 h => withBool x7 fun t8 => bc t8 (aIdxAddr 1 x4 x6 h fun x9 _ => aLoad x9 h fun x10 _ => aIdxAddr 1 x4 x5 h fun x11 _ => aLoad x11 h fun x12 _ => aIdxAddr 1 x4 x5 h fun x13 _ => aStore x13 x10 h fun x14 h => aIdxAddr 1 x4 x6 h fun x15 _ => aStore x15 x12 h fun x16 h => aArith iadd x5 (AV.int 3 (Int.ofNat 1)) h fun x17 h => aArith isub x6 (AV.int 3 (Int.ofNat 1)) h fun x18 h => kc3 [x4, x17, x18] h) (some (AV.one .tup (AV.leaf .nil), h))) (hd vs) (hd (tl vs)) (hd (tl (tl vs)))
noncomputable def c_slices_Reverse_fd8e (F g : Nat) (a0 : AV) (h : H) : Option R := aLenK 1 a0 h fun x1 h => aArith isub x1 (AV.int 3 (Int.ofNat 1)) h fun x2 h => loopD F (c_slices_Reverse_fd8e_l1 F g) [a0, (AV.int 3 (Int.ofNat 0)), x2] h
noncomputable def A_slices_Reverse_fd8e : An := (.two .o (.two (.at_ [0, 2, 3] (.two (.two .o (.two .o .o)) (.two (.two .o .o) .o)) .o) .o))
noncomputable def b_slices_Reverse_fd8e : Code := bodyOf Go.Proofs.Try.f162
theorem k_slices_Reverse_fd8e (F g : Nat) (a0 : AV) (h : H) : callD Go.Proofs.Try.prog (fun _ _ _ => none : Env) 28 F b_slices_Reverse_fd8e [] A_slices_Reverse_fd8e [a0] h = c_slices_Reverse_fd8e F g a0 h := by kernel_rfl
theorem s_slices_Reverse_fd8e (F g : Nat) : ∀ args h r, u1 (c_slices_Reverse_fd8e F g) args h = some r → Tri Go.Proofs.Try.prog 162 args h r := by
  intro args h r e; obtain ⟨a0, rfl, e1⟩ := u1_some e; exact fn_sound Go.Proofs.Try.func162 rfl rfl rfl Go.Proofs.Try.ntmps162 (Sound.none _) ((k_slices_Reverse_fd8e F g a0 h).trans e1)

-- "(*loop.example/treenumbers/impl.node).ofChildren"
noncomputable abbrev D_impl_node_ofChildren (F g : Nat) (E : Env) : Env := E
noncomputable abbrev G_impl_node_ofChildren (F g : Nat) (E : Env) : Env := (Env.add (Env.add (D_impl_node_ofChildren F g E) 161 (u1 (c_slices_Sort_fd8e F g))) 162 (u1 (c_slices_Reverse_fd8e F g)))
noncomputable def c_impl_node_ofChildren_l1 (F g : Nat) (E : Env) : List AV → H → (List AV → H → Option R) → Option R := fun vs h kc6 => (fun x7 x8 x9 x10 x11 => aCmpI ilt x11 x10 h fun x12 h => withBool x12 fun t13 => bc t13 (aIdxAddr 1 x9 x11 h fun x14 h => aLoad x14 h fun x15 h => dCall (G_impl_node_ofChildren F g E) x7 [x15] h fun x16 h => aBuildSlice 1 1 [(0, 1, x16)] h fun x17 h => aAppend 1 8 x8 x17 h fun x18 h => aArith iadd x11 (AV.int 3 (Int.ofNat 1)) h fun x19 h => kc6 [x7, x18, x9, x10, x19] h) (bindR (c_slices_Sort_fd8e F g x8 h) fun x20 h => bindR (c_slices_Reverse_fd8e F g x8 h) fun x21 h => some (x8, h))) (hd vs) (hd (tl vs)) (hd (tl (tl vs))) (hd (tl (tl (tl vs)))) (hd (tl (tl (tl (tl vs)))))
noncomputable def c_impl_node_ofChildren (F g : Nat) (E : Env) (a0 a1 : AV) (h : H) : Option R := aBuildSlice 0 1 [] h fun x1 h => aNilCheck a0 h fun x2 h => aField 2 x2 h fun x3 h => aLoad x3 h fun x4 h => aLenK 1 x4 h fun x5 h => loopD F (c_impl_node_ofChildren_l1 F g E) [a1, x1, x4, x5, (AV.int 3 (Int.ofNat 0))] h
noncomputable def A_impl_node_ofChildren : An := (.two .o (.two .o (.two (.two .o (.two (.at_ [1, 5, 12, 13, 14] (.two .o (.two (.two .o .o) (.two (.two (.two .o .o) .o) .o))) .o) .o)) (.two .o (.two .o (.two .o .o))))))
noncomputable def b_impl_node_ofChildren : Code := bodyOf Go.Proofs.Try.f147
theorem k_impl_node_ofChildren (F g : Nat) (E : Env) (a0 a1 : AV) (h : H) : callD Go.Proofs.Try.prog (G_impl_node_ofChildren F g E) 30 F b_impl_node_ofChildren [4] A_impl_node_ofChildren [a0, a1] h = c_impl_node_ofChildren F g E a0 a1 h := by kernel_rfl
theorem s_impl_node_ofChildren (F g : Nat) (E : Env) (hE : Sound Go.Proofs.Try.prog E) : ∀ args h r, u2 (c_impl_node_ofChildren F g E) args h = some r → Tri Go.Proofs.Try.prog 147 args h r := by
  intro args h r e; obtain ⟨a0, a1, rfl, e1⟩ := u2_some e; exact fn_sound Go.Proofs.Try.func147 rfl rfl rfl Go.Proofs.Try.ntmps147 (Sound.add (Sound.add hE (s_slices_Sort_fd8e F g)) (s_slices_Reverse_fd8e F g)) ((k_impl_node_ofChildren F g E a0 a1 h).trans e1)

-- "(*loop.example/treenumbers/impl.node).streamOrder"
noncomputable abbrev D_impl_node_streamOrder (F g : Nat) (self : AV → H → Option R) : Env := (Env.add (fun _ _ _ => none : Env) 124 (u1 self))
noncomputable def c_impl_node_streamOrder_j1 (F g : Nat) (vs : List AV) (h : H) : Option R := (fun x7 x8 x9 => aPick x8 x9 (AV.bool false) h fun x10 _ => withBool x10 fun t11 => bc t11 (aIdxAddr 1 x7 (AV.int 3 (Int.ofNat 0)) h fun x12 h => aLoad x12 h fun x13 h => aArith iadd x13 (AV.int 3 (Int.ofNat 1)) h fun x14 h => some (x14, h)) (aIdxAddr 1 x7 (AV.int 3 (Int.ofNat 0)) h fun x15 h => aLoad x15 h fun x16 h => some (x16, h))) (hd vs) (hd (tl vs)) (hd (tl (tl vs)))
noncomputable def c_impl_node_streamOrder (F g : Nat) : AV → H → Option R := Nat.rec (motive := fun _ => AV → H → Option R) (fun _ _ => none) (fun g self a0 h => bindR (c_impl_node_ofChildren F g (D_impl_node_streamOrder F g self) a0 (AV.func (.func 124) (AV.leaf .nil) (AV.leaf .nil)) h) fun x1 h => aLenK 1 x1 h fun x2 h => aCmpI ieq x2 (AV.int 3 (Int.ofNat 0)) h fun x3 h => withBool x3 fun t4 => bc t4 (some ((AV.int 3 (Int.ofNat 1)), h)) (aLenK 1 x1 h fun x5 _ => aCmpI (fun a b => ilt b a) x5 (AV.int 3 (Int.ofNat 1)) h fun x6 _ => guardB true x6 (aIdxAddr 1 x1 (AV.int 3 (Int.ofNat 0)) h fun x17 _ => aLoad x17 h fun x18 _ => aIdxAddr 1 x1 (AV.int 3 (Int.ofNat 1)) h fun x19 _ => aLoad x19 h fun x20 _ => aCmpI ieq x18 x20 h fun x21 _ => (c_impl_node_streamOrder_j1 F g) [x1, x6, x21] h) ((c_impl_node_streamOrder_j1 F g) [x1, x6, (AV.one .tup (AV.leaf .nil))] h))) g
noncomputable def A_impl_node_streamOrder : An := (.two .o (.two .o (.two (.two .o (.two (.two .o .o) (.two (.at_ [3, 17, 24] .o .o) (.two (.two .o .o) (.two .o .o))))) .o)))
noncomputable def b_impl_node_streamOrder : Code := bodyOf Go.Proofs.Try.f124
theorem k_impl_node_streamOrder (F g : Nat) (a0 : AV) (h : H) : callD Go.Proofs.Try.prog (Env.add (D_impl_node_streamOrder F g (c_impl_node_streamOrder F g)) 147 (u2 (c_impl_node_ofChildren F g (D_impl_node_streamOrder F g (c_impl_node_streamOrder F g))))) 30 F b_impl_node_streamOrder [2] A_impl_node_streamOrder [a0] h = c_impl_node_streamOrder F (g + 1) a0 h := by kernel_rfl
theorem s_impl_node_streamOrder (F g : Nat) : ∀ args h r, u1 (c_impl_node_streamOrder F g) args h = some r → Tri Go.Proofs.Try.prog 124 args h r := by
  induction g with
  | zero => intro args h r e; obtain ⟨a0, rfl, e⟩ := u1_some e; cases e
  | succ g ih => intro args h r e; obtain ⟨a0, rfl, e1⟩ := u1_some e; exact fn_sound Go.Proofs.Try.func124 rfl rfl rfl Go.Proofs.Try.ntmps124 (Sound.add (Sound.add (Sound.none _) ih) (s_impl_node_ofChildren F g (D_impl_node_streamOrder F g (c_impl_node_streamOrder F g)) (Sound.add (Sound.none _) ih))) ((k_impl_node_streamOrder F g a0 h).trans e1)

-- "(*loop.example/treenumbers/impl.node).nodes"
noncomputable def c_impl_node_nodes_l1 (F g : Nat) (self : AV → H → Option R) : List AV → H → (List AV → H → Option R) → Option R := fun vs h kc6 => (fun x7 x8 x9 x10 => aCmpI ilt x10 x9 h fun x11 h => withBool x11 fun t12 => bc t12 (aIdxAddr 1 x8 x10 h fun x13 h => aLoad x13 h fun x14 h => bindR (self x14 h) fun x15 h => aAppend 1 8 x7 x15 h fun x16 h => aArith iadd x10 (AV.int 3 (Int.ofNat 1)) h fun x17 h => kc6 [x16, x8, x9, x17] h) (some (x7, h))) (hd vs) (hd (tl vs)) (hd (tl (tl vs))) (hd (tl (tl (tl vs))))
noncomputable def c_impl_node_nodes (F g : Nat) : AV → H → Option R := Nat.rec (motive := fun _ => AV → H → Option R) (fun _ _ => none) (fun g self a0 h => aBuildSlice 1 1 [(0, 1, a0)] h fun x1 h => aNilCheck a0 h fun x2 h => aField 2 x2 h fun x3 h => aLoad x3 h fun x4 h => aLenK 1 x4 h fun x5 h => loopD F (c_impl_node_nodes_l1 F g self) [x1, x4, x5, (AV.int 3 (Int.ofNat 0))] h) g
noncomputable def A_impl_node_nodes : An := (.two .o (.two .o (.two (.two .o (.two (.at_ [3, 11, 12, 13] (.two .o (.two (.two .o .o) (.two (.two (.two .o .o) .o) .o))) .o) .o)) (.two .o .o))))
noncomputable def b_impl_node_nodes : Code := bodyOf Go.Proofs.Try.f95
theorem k_impl_node_nodes (F g : Nat) (a0 : AV) (h : H) : callD Go.Proofs.Try.prog (Env.add (fun _ _ _ => none : Env) 95 (u1 (c_impl_node_nodes F g))) 23 F b_impl_node_nodes [2] A_impl_node_nodes [a0] h = c_impl_node_nodes F (g + 1) a0 h := by kernel_rfl
theorem s_impl_node_nodes (F g : Nat) : ∀ args h r, u1 (c_impl_node_nodes F g) args h = some r → Tri Go.Proofs.Try.prog 95 args h r := by
  induction g with
  | zero => intro args h r e; obtain ⟨a0, rfl, e⟩ := u1_some e; cases e
  | succ g ih => intro args h r e; obtain ⟨a0, rfl, e1⟩ := u1_some e; exact fn_sound Go.Proofs.Try.func95 rfl rfl rfl Go.Proofs.Try.ntmps95 (Sound.add (Sound.none _) ih) ((k_impl_node_nodes F g a0 h).trans e1)

-- "slices.Index[[]int,int]"
noncomputable def c_slices_Index_fd8e_l1 (F g : Nat) : List AV → H → (List AV → H → Option R) → Option R := fun vs h kc2 => (fun x3 x4 x5 x6 => aCmpI ilt x6 x5 h fun x7 h => withBool x7 fun t8 => bc t8 (aIdxAddr 1 x3 x6 h fun x9 h => aLoad x9 h fun x10 h => aCmpI ieq x4 x10 h fun x11 h => withBool x11 fun t12 => bc t12 (some (x6, h)) (aArith iadd x6 (AV.int 3 (Int.ofNat 1)) h fun x13 h => kc2 [x3, x4, x5, x13] h)) (some ((AV.int 3 (Int.negSucc 0)), h))) (hd vs) (hd (tl vs)) (hd (tl (tl vs))) (hd (tl (tl (tl vs))))
noncomputable def c_slices_Index_fd8e (F g : Nat) (a0 a1 : AV) (h : H) : Option R := aLenK 1 a0 h fun x1 h => loopD F (c_slices_Index_fd8e_l1 F g) [a0, a1, x1, (AV.int 3 (Int.ofNat 0))] h
noncomputable def A_slices_Index_fd8e : An := (.two .o (.two (.two .o (.two (.at_ [0, 1, 7, 8] (.two .o (.two (.two .o .o) (.two (.two (.two .o (.two .o (.two (.two .o .o) .o))) .o) .o))) .o) .o)) (.two .o .o)))
noncomputable def b_slices_Index_fd8e : Code := bodyOf Go.Proofs.Try.f199
theorem k_slices_Index_fd8e (F g : Nat) (a0 a1 : AV) (h : H) : callD Go.Proofs.Try.prog (fun _ _ _ => none : Env) 19 F b_slices_Index_fd8e [4] A_slices_Index_fd8e [a0, a1] h = c_slices_Index_fd8e F g a0 a1 h := by kernel_rfl
theorem s_slices_Index_fd8e (F g : Nat) : ∀ args h r, u2 (c_slices_Index_fd8e F g) args h = some r → Tri Go.Proofs.Try.prog 199 args h r := by
  intro args h r e; obtain ⟨a0, a1, rfl, e1⟩ := u2_some e; exact fn_sound Go.Proofs.Try.func199 rfl rfl rfl Go.Proofs.Try.ntmps199 (Sound.none _) ((k_slices_Index_fd8e F g a0 a1 h).trans e1)

-- "slices.Contains[[]int,int]"
noncomputable def c_slices_Contains_fd8e (F g : Nat) (a0 a1 : AV) (h : H) : Option R := bindR (c_slices_Index_fd8e F g a0 a1 h) fun x1 h => aCmpI (fun a b => ile b a) x1 (AV.int 3 (Int.ofNat 0)) h fun x2 h => some (x2, h)
noncomputable def A_slices_Contains_fd8e : An := (.two .o (.two .o .o))
noncomputable def b_slices_Contains_fd8e : Code := bodyOf Go.Proofs.Try.f183
theorem k_slices_Contains_fd8e (F g : Nat) (a0 a1 : AV) (h : H) : callD Go.Proofs.Try.prog (Env.add (fun _ _ _ => none : Env) 199 (u2 (c_slices_Index_fd8e F g))) 9 F b_slices_Contains_fd8e [4] A_slices_Contains_fd8e [a0, a1] h = c_slices_Contains_fd8e F g a0 a1 h := by kernel_rfl
theorem s_slices_Contains_fd8e (F g : Nat) : ∀ args h r, u2 (c_slices_Contains_fd8e F g) args h = some r → Tri Go.Proofs.Try.prog 183 args h r := by
  intro args h r e; obtain ⟨a0, a1, rfl, e1⟩ := u2_some e; exact fn_sound Go.Proofs.Try.func183 rfl rfl rfl Go.Proofs.Try.ntmps183 (Sound.add (Sound.none _) (s_slices_Index_fd8e F g)) ((k_slices_Contains_fd8e F g a0 a1 h).trans e1)

-- "(*loop.example/treenumbers/impl.node).beginsStream"
noncomputable abbrev D_impl_node_beginsStream (F g : Nat) : Env := (Env.add (fun _ _ _ => none : Env) 124 (u1 (c_impl_node_streamOrder F g)))
noncomputable def c_impl_node_beginsStream (F g : Nat) (a0 : AV) (h : H) : Option R := bindR (c_impl_node_ofChildren F g (D_impl_node_beginsStream F g) a0 (AV.func (.func 124) (AV.leaf .nil) (AV.leaf .nil)) h) fun x1 h => bindR (c_impl_node_streamOrder F g a0 h) fun x2 h => bindR (c_slices_Contains_fd8e F g x1 x2 h) fun x3 h => aNot x3 h fun x4 h => some (x4, h)
noncomputable def A_impl_node_beginsStream : An := (.two .o (.two .o .o))
noncomputable def b_impl_node_beginsStream : Code := bodyOf Go.Proofs.Try.f163
theorem k_impl_node_beginsStream (F g : Nat) (a0 : AV) (h : H) : callD Go.Proofs.Try.prog (Env.add (Env.add (Env.add (D_impl_node_beginsStream F g) 147 (u2 (c_impl_node_ofChildren F g (D_impl_node_beginsStream F g)))) 124 (u1 (c_impl_node_streamOrder F g))) 183 (u2 (c_slices_Contains_fd8e F g))) 9 F b_impl_node_beginsStream [2] A_impl_node_beginsStream [a0] h = c_impl_node_beginsStream F g a0 h := by kernel_rfl
theorem s_impl_node_beginsStream (F g : Nat) : ∀ args h r, u1 (c_impl_node_beginsStream F g) args h = some r → Tri Go.Proofs.Try.prog 163 args h r := by
  intro args h r e; obtain ⟨a0, rfl, e1⟩ := u1_some e; exact fn_sound Go.Proofs.Try.func163 rfl rfl rfl Go.Proofs.Try.ntmps163 (Sound.add (Sound.add (Sound.add (Sound.add (Sound.none _) (s_impl_node_streamOrder F g)) (s_impl_node_ofChildren F g (D_impl_node_beginsStream F g) (Sound.add (Sound.none _) (s_impl_node_streamOrder F g)))) (s_impl_node_streamOrder F g)) (s_slices_Contains_fd8e F g)) ((k_impl_node_beginsStream F g a0 h).trans e1)

-- "(*loop.example/treenumbers/impl.node).streams"
noncomputable def c_impl_node_streams_j1 (F g : Nat) (kc4 : List AV → H → Option R) (vs : List AV) (h : H) : Option R := (fun x11 x12 x13 x14 => aArith iadd x14 (AV.int 3 (Int.ofNat 1)) h fun x15 h => kc4 [x11, x12, x13, x15] h) (hd vs) (hd (tl vs)) (hd (tl (tl vs))) (hd (tl (tl (tl vs))))
noncomputable def c_impl_node_streams_l2 (F g : Nat) : List AV → H → (List AV → H → Option R) → Option R := fun vs h kc4 => (fun x5 x6 x7 x8 => aCmpI ilt x8 x7 h fun x9 h => withBool x9 fun t10 => bc t10 (aIdxAddr 1 x6 x8 h fun x16 h => aLoad x16 h fun x17 h => bindR (c_impl_node_beginsStream F g x17 h) fun x18 h => withBool x18 fun t19 => bc t19 (aBuild [(AV.leaf .nilp)] [(0, 1, x17)] h fun x20 h => aBuildSlice 1 1 [(0, 1, x20)] h fun x21 h => aAppend 1 8 x5 x21 h fun x22 h => (c_impl_node_streams_j1 F g kc4) [x22, x6, x7, x8] h) ((c_impl_node_streams_j1 F g kc4) [x5, x6, x7, x8] h)) (some (x5, h))) (hd vs) (hd (tl vs)) (hd (tl (tl vs))) (hd (tl (tl (tl vs))))
noncomputable def c_impl_node_streams (F g : Nat) (a0 : AV) (h : H) : Option R := aBuildSlice 0 1 [] h fun x1 h => bindR (c_impl_node_nodes F g a0 h) fun x2 h => aLenK 1 x2 h fun x3 h => loopD F (c_impl_node_streams_l2 F g) [x1, x2, x3, (AV.int 3 (Int.ofNat 0))] h
noncomputable def A_impl_node_streams : An := (.two .o (.two .o (.two (.two .o (.two (.at_ [3, 8, 9, 10] (.two .o (.two (.two .o .o) (.at_ [3, 8, 9, 10] (.two (.two .o (.two .o (.two .o .o))) .o) .o))) .o) .o)) (.two .o .o))))
noncomputable def b_impl_node_streams : Code := bodyOf Go.Proofs.Try.f148
theorem k_impl_node_streams (F g : Nat) (a0 : AV) (h : H) : callD Go.Proofs.Try.prog (Env.add (Env.add (fun _ _ _ => none : Env) 95 (u1 (c_impl_node_nodes F g))) 163 (u1 (c_impl_node_beginsStream F g))) 23 F b_impl_node_streams [2] A_impl_node_streams [a0] h = c_impl_node_streams F g a0 h := by kernel_rfl
theorem s_impl_node_streams (F g : Nat) : ∀ args h r, u1 (c_impl_node_streams F g) args h = some r → Tri Go.Proofs.Try.prog 148 args h r := by
  intro args h r e; obtain ⟨a0, rfl, e1⟩ := u1_some e; exact fn_sound Go.Proofs.Try.func148 rfl rfl rfl Go.Proofs.Try.ntmps148 (Sound.add (Sound.add (Sound.none _) (s_impl_node_nodes F g)) (s_impl_node_beginsStream F g)) ((k_impl_node_streams F g a0 h).trans e1)

-- "loop.example/treenumbers/impl.sumsByOrder"
noncomputable abbrev D_impl_sumsByOrder (F g : Nat) (E : Env) : Env := E
noncomputable abbrev G_impl_sumsByOrder (F g : Nat) (E : Env) : Env := (Env.add (Env.add (Env.add (D_impl_sumsByOrder F g E) 91 (u1 (c_impl_readTree F g))) 124 (u1 (c_impl_node_streamOrder F g))) 148 (u1 (c_impl_node_streams F g)))
noncomputable def c_impl_sumsByOrder_l1 (F g : Nat) (E : Env) : List AV → H → (List AV → H → Option R) → Option R := fun vs h kc10 => (fun x11 x12 x13 x14 x15 => aCmpI ilt x15 x14 h fun x16 h => withBool x16 fun t17 => bc t17 (aIdxAddr 1 x13 x15 h fun x18 h => aLoadN 1 x18 h fun x19 h => aAlloc [(AV.leaf .nilp)] h fun x20 h => aStoreN 1 x20 x19 h fun x21 h => aField 0 x20 h fun x22 _ => aLoad x22 h fun x23 _ => bindF (c_impl_node_streamOrder F g x23 h.mark) h fun x24 _ => aArith isub x24 (AV.int 3 (Int.ofNat 1)) h fun x25 _ => aIdxAddr 1 x12 x25 h fun x26 _ => aLoad x26 h fun x27 _ => aLoadN 1 x20 h fun x28 _ => dCallF (G_impl_sumsByOrder F g E) x11 [x28] h fun x29 _ => aArith iadd x27 x29 h fun x30 _ => aIdxAddr 1 x12 x25 h fun x31 _ => aStore x31 x30 h fun x32 h => aArith iadd x15 (AV.int 3 (Int.ofNat 1)) h fun x33 h => kc10 [x11, x12, x13, x14, x33] h) (some (AV.one .tup (AV.cons x12 (AV.cons (AV.bool true) (AV.leaf .nil))), h))) (hd vs) (hd (tl vs)) (hd (tl (tl vs))) (hd (tl (tl (tl vs)))) (hd (tl (tl (tl (tl vs)))))
noncomputable def c_impl_sumsByOrder (F g : Nat) (E : Env) (a0 a1 : AV) (h : H) : Option R := bindR (c_impl_readTree F g a0 h) fun x1 h => aExtract x1 0 h fun x2 h => aExtract x1 1 h fun x3 h => aNot x3 h fun x4 h => withBool x4 fun t5 => bc t5 (some (AV.one .tup (AV.cons (AV.leaf .nils) (AV.cons (AV.bool false) (AV.leaf .nil))), h)) (bindR (c_impl_node_streamOrder F g x2 h) fun x6 h => aMake 8 [(AV.int 3 (Int.ofNat 0))] x6 x6 h fun x7 h => bindR (c_impl_node_streams F g x2 h) fun x8 h => aLenK 1 x8 h fun x9 h => loopD F (c_impl_sumsByOrder_l1 F g E) [a1, x7, x8, x9, (AV.int 3 (Int.ofNat 0))] h)
noncomputable def A_impl_sumsByOrder : An := (.two .o (.two .o (.two (.two .o (.two (.two .o .o) .o)) (.two .o (.two (.two .o (.two (.at_ [1, 8, 22, 23, 24] (.two .o (.two (.two .o .o) (.two (.two (.two .o .o) .o) .o))) .o) .o)) (.two .o .o))))))
noncomputable def b_impl_sumsByOrder : Code := bodyOf Go.Proofs.Try.f127
theorem k_impl_sumsByOrder (F g : Nat) (E : Env) (a0 a1 : AV) (h : H) : callD Go.Proofs.Try.prog (G_impl_sumsByOrder F g E) 42 F b_impl_sumsByOrder [4, 5] A_impl_sumsByOrder [a0, a1] h = c_impl_sumsByOrder F g E a0 a1 h := by kernel_rfl
theorem s_impl_sumsByOrder (F g : Nat) (E : Env) (hE : Sound Go.Proofs.Try.prog E) : ∀ args h r, u2 (c_impl_sumsByOrder F g E) args h = some r → Tri Go.Proofs.Try.prog 127 args h r := by
  intro args h r e; obtain ⟨a0, a1, rfl, e1⟩ := u2_some e; exact fn_sound Go.Proofs.Try.func127 rfl rfl rfl Go.Proofs.Try.ntmps127 (Sound.add (Sound.add (Sound.add hE (s_impl_readTree F g)) (s_impl_node_streamOrder F g)) (s_impl_node_streams F g)) ((k_impl_sumsByOrder F g E a0 a1 h).trans e1)

-- "(loop.example/treenumbers/impl.stream).length"
noncomputable def c_impl_stream_length_j1 (F g : Nat) (kc7 : List AV → H → Option R) (vs : List AV) (h : H) : Option R := (fun x12 x13 x14 x15 x16 => aPick x15 x16 (AV.bool false) h fun x17 _ => withBool x17 fun t18 => bc t18 (aArith iadd x13 (AV.int 3 (Int.ofNat 1)) h fun x19 h => aNilCheck x14 h fun x20 h => aField 1 x20 h fun x21 h => aLoad x21 h fun x22 h => kc7 [x12, x19, x22] h) (some (x13, h))) (hd vs) (hd (tl vs)) (hd (tl (tl vs))) (hd (tl (tl (tl vs)))) (hd (tl (tl (tl (tl vs)))))
noncomputable def c_impl_stream_length_l2 (F g : Nat) : List AV → H → (List AV → H → Option R) → Option R := fun vs h kc7 => (fun x8 x9 x10 => aEq true 1 x10 (AV.leaf .nilp) h fun x11 _ => guardB true x11 (bindF (c_impl_node_streamOrder F g x10 h.mark) h fun x23 _ => aField 0 x8 h fun x24 _ => aLoad x24 h fun x25 _ => bindF (c_impl_node_streamOrder F g x25 h.mark) h fun x26 _ => aCmpI ieq x23 x26 h fun x27 _ => (c_impl_stream_length_j1 F g kc7) [x8, x9, x10, x11, x27] h) ((c_impl_stream_length_j1 F g kc7) [x8, x9, x10, x11, (AV.one .tup (AV.leaf .nil))] h)) (hd vs) (hd (tl vs)) (hd (tl (tl vs)))
noncomputable def c_impl_stream_length (F g : Nat) (a0 : AV) (h : H) : Option R := aBox a0 h fun x1 h => aField 0 x1 h fun x2 h => aLoad x2 h fun x3 h => aNilCheck x3 h fun x4 h => aField 1 x4 h fun x5 h => aLoad x5 h fun x6 h => loopD F (c_impl_stream_length_l2 F g) [x1, (AV.int 3 (Int.ofNat 1)), x6] h
noncomputable def A_impl_stream_length : An := (.two .o (.two .o (.two (.two .o (.two (.at_ [1, 3, 4] (.two (.two (.at_ [1, 3, 4, 12, 18] .o .o) (.two .o .o)) (.two (.two .o .o) .o)) .o) .o)) (.two .o .o))))
noncomputable def b_impl_stream_length : Code := bodyOf Go.Proofs.Try.f128
theorem k_impl_stream_length (F g : Nat) (a0 : AV) (h : H) : callD Go.Proofs.Try.prog (Env.add (fun _ _ _ => none : Env) 124 (u1 (c_impl_node_streamOrder F g))) 27 F b_impl_stream_length [2] A_impl_stream_length [a0] h = c_impl_stream_length F g a0 h := by kernel_rfl
theorem s_impl_stream_length (F g : Nat) : ∀ args h r, u1 (c_impl_stream_length F g) args h = some r → Tri Go.Proofs.Try.prog 128 args h r := by
  intro args h r e; obtain ⟨a0, rfl, e1⟩ := u1_some e; exact fn_sound Go.Proofs.Try.func128 rfl rfl rfl Go.Proofs.Try.ntmps128 (Sound.add (Sound.none _) (s_impl_node_streamOrder F g)) ((k_impl_stream_length F g a0 h).trans e1)

-- "loop.example/treenumbers/impl.StreamLengths"
noncomputable abbrev D_impl_StreamLengths (F g : Nat) : Env := (Env.add (fun _ _ _ => none : Env) 128 (u1 (c_impl_stream_length F g)))
noncomputable def c_impl_StreamLengths (F g : Nat) (a0 : AV) (h : H) : Option R := bindR (c_impl_sumsByOrder F g (D_impl_StreamLengths F g) a0 (AV.func (.func 128) (AV.leaf .nil) (AV.leaf .nil)) h) fun x1 h => aExtract x1 0 h fun x2 h => aExtract x1 1 h fun x3 h => some (AV.one .tup (AV.cons x2 (AV.cons x3 (AV.leaf .nil))), h)
noncomputable def A_impl_StreamLengths : An := (.two .o (.two .o .o))
noncomputable def b_impl_StreamLengths : Code := bodyOf Go.Proofs.Try.f79
theorem k_impl_StreamLengths (F g : Nat) (a0 : AV) (h : H) : callD Go.Proofs.Try.prog (Env.add (D_impl_StreamLengths F g) 127 (u2 (c_impl_sumsByOrder F g (D_impl_StreamLengths F g)))) 8 F b_impl_StreamLengths [2, 3] A_impl_StreamLengths [a0] h = c_impl_StreamLengths F g a0 h := by kernel_rfl
theorem s_impl_StreamLengths (F g : Nat) : ∀ args h r, u1 (c_impl_StreamLengths F g) args h = some r → Tri Go.Proofs.Try.prog 79 args h r := by
  intro args h r e; obtain ⟨a0, rfl, e1⟩ := u1_some e; exact fn_sound Go.Proofs.Try.func79 rfl rfl rfl Go.Proofs.Try.ntmps79 (Sound.add (Sound.add (Sound.none _) (s_impl_stream_length F g)) (s_impl_sumsByOrder F g (D_impl_StreamLengths F g) (Sound.add (Sound.none _) (s_impl_stream_length F g)))) ((k_impl_StreamLengths F g a0 h).trans e1)

-- "loop.example/treenumbers/spec.l1Opens"
noncomputable def c_spec_l1Opens_j1 (F g : Nat) (kc2 : List AV → H → Option R) (vs : List AV) (h : H) : Option R := (fun x9 x10 x11 => aArith iadd x11 (AV.int 3 (Int.ofNat 1)) h fun x12 h => kc2 [x9, x10, x12] h) (hd vs) (hd (tl vs)) (hd (tl (tl vs)))
noncomputable def c_spec_l1Opens_l2 (F g : Nat) : List AV → H → (List AV → H → Option R) → Option R := fun vs h kc2 => (fun x3 x4 x5 => aLenK 0 x3 h fun x6 h => aCmpI ilt x5 x6 h fun x7 h => withBool x7 fun t8 => bc t8 (aIdxStr x3 x5 h fun x13 h => aCmpI ieq x13 (AV.int 4 (Int.ofNat 40)) h fun x14 h => withBool x14 fun t15 => bc t15 (aBuildSlice 1 1 [(0, 1, x5)] h fun x16 h => aAppend 1 8 x4 x16 h fun x17 h => (c_spec_l1Opens_j1 F g kc2) [x3, x17, x5] h) ((c_spec_l1Opens_j1 F g kc2) [x3, x4, x5] h)) (some (x4, h))) (hd vs) (hd (tl vs)) (hd (tl (tl vs)))
noncomputable def c_spec_l1Opens (F g : Nat) (a0 : AV) (h : H) : Option R := aBuildSlice 0 1 [] h fun x1 h => loopD F (c_spec_l1Opens_l2 F g) [a0, x1, (AV.int 3 (Int.ofNat 0))] h
noncomputable def A_spec_l1Opens : An := (.two .o (.two .o (.two (.two .o (.two (.at_ [0, 3, 4] (.two (.two .o (.two .o .o)) (.at_ [0, 3, 4] (.two (.two .o (.two .o .o)) .o) .o)) .o) .o)) (.two .o .o))))
noncomputable def b_spec_l1Opens : Code := bodyOf Go.Proofs.Try.f164
theorem k_spec_l1Opens (F g : Nat) (a0 : AV) (h : H) : callD Go.Proofs.Try.prog (fun _ _ _ => none : Env) 21 F b_spec_l1Opens [2] A_spec_l1Opens [a0] h = c_spec_l1Opens F g a0 h := by kernel_rfl
theorem s_spec_l1Opens (F g : Nat) : ∀ args h r, u1 (c_spec_l1Opens F g) args h = some r → Tri Go.Proofs.Try.prog 164 args h r := by
  intro args h r e; obtain ⟨a0, rfl, e1⟩ := u1_some e; exact fn_sound Go.Proofs.Try.func164 rfl rfl rfl Go.Proofs.Try.ntmps164 (Sound.none _) ((k_spec_l1Opens F g a0 h).trans e1)

-- "loop.example/treenumbers/spec.l1End"
noncomputable def c_spec_l1End_j1 (F g : Nat) (kc1 : List AV → H → Option R) (vs : List AV) (h : H) : Option R := (fun x8 x9 x10 => aCmpI ieq x9 (AV.int 3 (Int.ofNat 0)) h fun x11 h => withBool x11 fun t12 => bc t12 (aArith iadd x10 (AV.int 3 (Int.ofNat 1)) h fun x13 h => some (x13, h)) (aCmpI ilt x9 (AV.int 3 (Int.ofNat 0)) h fun x14 h => withBool x14 fun t15 => bc t15 (some ((AV.int 3 (Int.negSucc 0)), h)) (aArith iadd x10 (AV.int 3 (Int.ofNat 1)) h fun x16 h => kc1 [x8, x9, x16] h))) (hd vs) (hd (tl vs)) (hd (tl (tl vs)))
noncomputable def c_spec_l1End_l2 (F g : Nat) : List AV → H → (List AV → H → Option R) → Option R := fun vs h kc1 => (fun x2 x3 x4 => aLenK 0 x2 h fun x5 h => aCmpI ilt x4 x5 h fun x6 h => withBool x6 fun t7 => bc t7 (aIdxStr x2 x4 h fun x17 h => aCmpI ieq x17 (AV.int 4 (Int.ofNat 40)) h fun x18 h => withBool x18 fun t19 => bc t19 (aArith iadd x3 (AV.int 3 (Int.ofNat 1)) h fun x20 h => (c_spec_l1End_j1 F g kc1) [x2, x20, x4] h) (aCmpI ieq x17 (AV.int 4 (Int.ofNat 41)) h fun x21 h => withBool x21 fun t22 => bc t22 (aArith isub x3 (AV.int 3 (Int.ofNat 1)) h fun x23 h => (c_spec_l1End_j1 F g kc1) [x2, x23, x4] h) (some ((AV.int 3 (Int.negSucc 0)), h)))) (some ((AV.int 3 (Int.negSucc 0)), h))) (hd vs) (hd (tl vs)) (hd (tl (tl vs)))
noncomputable def c_spec_l1End (F g : Nat) (a0 a1 : AV) (h : H) : Option R := loopD F (c_spec_l1End_l2 F g) [a0, (AV.int 3 (Int.ofNat 0)), a1] h
noncomputable def A_spec_l1End : An := (.two .o (.two .o (.two (.two .o (.two (.at_ [0, 5, 6] (.two (.two .o (.two .o .o)) (.two (.two (.at_ [0, 5, 6] (.two .o (.two (.two .o (.two .o (.two .o (.two .o (.two .o .o))))) .o)) (.two (.two .o (.two (.two .o .o) .o)) (.two .o (.two (.two .o .o) .o)))) .o) .o)) .o) .o)) (.two .o .o))))
noncomputable def b_spec_l1End : Code := bodyOf Go.Proofs.Try.f92
theorem k_spec_l1End (F g : Nat) (a0 a1 : AV) (h : H) : callD Go.Proofs.Try.prog (fun _ _ _ => none : Env) 31 F b_spec_l1End [4] A_spec_l1End [a0, a1] h = c_spec_l1End F g a0 a1 h := by kernel_rfl
theorem s_spec_l1End (F g : Nat) : ∀ args h r, u2 (c_spec_l1End F g) args h = some r → Tri Go.Proofs.Try.prog 92 args h r := by
  intro args h r e; obtain ⟨a0, a1, rfl, e1⟩ := u2_some e; exact fn_sound Go.Proofs.Try.func92 rfl rfl rfl Go.Proofs.Try.ntmps92 (Sound.none _) ((k_spec_l1End F g a0 a1 h).trans e1)

-- "loop.example/treenumbers/spec.l1Part"
noncomputable def c_spec_l1Part (F g : Nat) (a0 a1 : AV) (h : H) : Option R := bindR (c_spec_l1Opens F g a0 h) fun x1 h => aIdxAddr 1 x1 a1 h fun x2 h => aLoad x2 h fun x3 h => bindR (c_spec_l1End F g a0 x3 h) fun x4 h => aSliceS a0 (some x3) (some x4) none h fun x5 h => some (x5, h)
noncomputable def A_spec_l1Part : An := (.two .o (.two .o (.two .o .o)))
noncomputable def b_spec_l1Part : Code := bodyOf Go.Proofs.Try.f149
theorem k_spec_l1Part (F g : Nat) (a0 a1 : AV) (h : H) : callD Go.Proofs.Try.prog (Env.add (Env.add (fun _ _ _ => none : Env) 164 (u1 (c_spec_l1Opens F g))) 92 (u2 (c_spec_l1End F g))) 17 F b_spec_l1Part [4] A_spec_l1Part [a0, a1] h = c_spec_l1Part F g a0 a1 h := by kernel_rfl
theorem s_spec_l1Part (F g : Nat) : ∀ args h r, u2 (c_spec_l1Part F g) args h = some r → Tri Go.Proofs.Try.prog 149 args h r := by
  intro args h r e; obtain ⟨a0, a1, rfl, e1⟩ := u2_some e; exact fn_sound Go.Proofs.Try.func149 rfl rfl rfl Go.Proofs.Try.ntmps149 (Sound.add (Sound.add (Sound.none _) (s_spec_l1Opens F g)) (s_spec_l1End F g)) ((k_spec_l1Part F g a0 a1 h).trans e1)

-- "loop.example/treenumbers/spec.l1Kids"
noncomputable def c_spec_l1Kids_l1 (F g : Nat) : List AV → H → (List AV → H → Option R) → Option R := fun vs h kc2 => (fun x3 x4 x5 => aLenK 0 x3 h fun x6 h => aArith isub x6 (AV.int 3 (Int.ofNat 1)) h fun x7 h => aCmpI ilt x5 x7 h fun x8 h => withBool x8 fun t9 => bc t9 (bindR (c_spec_l1End F g x3 x5 h) fun x10 h => aSliceS x3 (some x5) (some x10) none h fun x11 h => aBuildSlice 1 1 [(0, 1, x11)] h fun x12 h => aAppend 1 16 x4 x12 h fun x13 h => kc2 [x3, x13, x10] h) (some (x4, h))) (hd vs) (hd (tl vs)) (hd (tl (tl vs)))
noncomputable def c_spec_l1Kids (F g : Nat) (a0 : AV) (h : H) : Option R := aBuildSlice 0 1 [] h fun x1 h => loopD F (c_spec_l1Kids_l1 F g) [a0, x1, (AV.int 3 (Int.ofNat 1))] h
noncomputable def A_spec_l1Kids : An := (.two .o (.two .o (.two .o (.two (.two (.at_ [0, 3, 4] (.two (.two .o (.two .o .o)) (.two (.two .o (.two .o .o)) .o)) .o) .o) (.two .o .o)))))
noncomputable def b_spec_l1Kids : Code := bodyOf Go.Proofs.Try.f102
theorem k_spec_l1Kids (F g : Nat) (a0 : AV) (h : H) : callD Go.Proofs.Try.prog (Env.add (fun _ _ _ => none : Env) 92 (u2 (c_spec_l1End F g))) 24 F b_spec_l1Kids [2] A_spec_l1Kids [a0] h = c_spec_l1Kids F g a0 h := by kernel_rfl
theorem s_spec_l1Kids (F g : Nat) : ∀ args h r, u1 (c_spec_l1Kids F g) args h = some r → Tri Go.Proofs.Try.prog 102 args h r := by
  intro args h r e; obtain ⟨a0, rfl, e1⟩ := u1_some e; exact fn_sound Go.Proofs.Try.func102 rfl rfl rfl Go.Proofs.Try.ntmps102 (Sound.add (Sound.none _) (s_spec_l1End F g)) ((k_spec_l1Kids F g a0 h).trans e1)

-- "loop.example/treenumbers/spec.l5Order"
noncomputable def c_spec_l5Order_j1 (F g : Nat) (kc2 : List AV → H → Option R) (vs : List AV) (h : H) : Option R := (fun x10 x11 x12 x13 => aArith iadd x13 (AV.int 3 (Int.ofNat 1)) h fun x14 h => kc2 [x10, x11, x12, x14] h) (hd vs) (hd (tl vs)) (hd (tl (tl vs))) (hd (tl (tl (tl vs))))
noncomputable def c_spec_l5Order_j2 (F g : Nat) (kc2 : List AV → H → Option R) (vs : List AV) (h : H) : Option R := (fun x18 x19 x20 x21 x22 => aCmpI (fun a b => ilt b a) x22 x19 h fun x23 h => withBool x23 fun t24 => bc t24 ((c_spec_l5Order_j1 F g kc2) [x18, x22, (AV.bool false), x21] h) ((c_spec_l5Order_j1 F g kc2) [x18, x19, x20, x21] h)) (hd vs) (hd (tl vs)) (hd (tl (tl vs))) (hd (tl (tl (tl vs)))) (hd (tl (tl (tl (tl vs)))))
noncomputable def c_spec_l5Order_j3 (F g : Nat) (vs : List AV) (h : H) : Option R := (fun x28 x29 x30 => aPick x29 (AV.bool true) x30 h fun x31 h => withBool x31 fun t32 => bc t32 (aArith iadd x28 (AV.int 3 (Int.ofNat 1)) h fun x33 h => some (x33, h)) (some (x28, h))) (hd vs) (hd (tl vs)) (hd (tl (tl vs)))
noncomputable def c_spec_l5Order_l4 (F g : Nat) (self : AV → H → Option R) : List AV → H → (List AV → H → Option R) → Option R := fun vs h kc2 => (fun x3 x4 x5 x6 => aLenK 1 x3 h fun x7 h => aCmpI ilt x6 x7 h fun x8 h => withBool x8 fun t9 => bc t9 (aIdxAddr 1 x3 x6 h fun x15 h => aLoad x15 h fun x16 h => bindR (self x16 h) fun x17 h => aCmpI ieq x17 x4 h fun x25 h => withBool x25 fun t26 => bc t26 ((c_spec_l5Order_j2 F g kc2) [x3, x4, (AV.bool true), x6, x17] h) ((c_spec_l5Order_j2 F g kc2) [x3, x4, x5, x6, x17] h)) (aCmpI ieq x4 (AV.int 3 (Int.ofNat 0)) h fun x27 h => guardB false x27 ((c_spec_l5Order_j3 F g) [x4, x27, x5] h) ((c_spec_l5Order_j3 F g) [x4, x27, (AV.one .tup (AV.leaf .nil))] h))) (hd vs) (hd (tl vs)) (hd (tl (tl vs))) (hd (tl (tl (tl vs))))
noncomputable def c_spec_l5Order (F g : Nat) : AV → H → Option R := Nat.rec (motive := fun _ => AV → H → Option R) (fun _ _ => none) (fun g self a0 h => bindR (c_spec_l1Kids F g a0 h) fun x1 h => loopD F (c_spec_l5Order_l4 F g self) [x1, (AV.int 3 (Int.ofNat 0)), (AV.bool false), (AV.int 3 (Int.ofNat 0))] h) g
noncomputable def A_spec_l5Order : An := (.two .o (.two .o (.two .o (.two .o (.two (.two .o (.two (.at_ [3, 4, 5, 6] (.two (.two .o (.two .o .o)) (.at_ [3, 4, 5, 6] (.two (.two .o (.at_ [3, 4, 5, 6, 7] (.two .o (.two .o .o)) (.two .o (.two (.two .o .o) .o)))) .o) .o)) .o) .o)) (.two (.two (.at_ [4, 30, 31] .o .o) (.two (.two .o .o) .o)) (.two .o .o)))))))
noncomputable def b_spec_l5Order : Code := bodyOf Go.Proofs.Try.f125
theorem k_spec_l5Order (F g : Nat) (a0 : AV) (h : H) : callD Go.Proofs.Try.prog (Env.add (Env.add (fun _ _ _ => none : Env) 102 (u1 (c_spec_l1Kids F g))) 125 (u1 (c_spec_l5Order F g))) 36 F b_spec_l5Order [2] A_spec_l5Order [a0] h = c_spec_l5Order F (g + 1) a0 h := by kernel_rfl
theorem s_spec_l5Order (F g : Nat) : ∀ args h r, u1 (c_spec_l5Order F g) args h = some r → Tri Go.Proofs.Try.prog 125 args h r := by
  induction g with
  | zero => intro args h r e; obtain ⟨a0, rfl, e⟩ := u1_some e; cases e
  | succ g ih => intro args h r e; obtain ⟨a0, rfl, e1⟩ := u1_some e; exact fn_sound Go.Proofs.Try.func125 rfl rfl rfl Go.Proofs.Try.ntmps125 (Sound.add (Sound.add (Sound.none _) (s_spec_l1Kids F g)) ih) ((k_spec_l5Order F g a0 h).trans e1)

-- "loop.example/treenumbers/spec.l5Orders"
noncomputable def c_spec_l5Orders_l1 (F g : Nat) : List AV → H → (List AV → H → Option R) → Option R := fun vs h kc2 => (fun x3 x4 x5 => aLenK 0 x3 h fun x6 h => aQuo x6 (AV.int 3 (Int.ofNat 2)) h fun x7 h => aCmpI ilt x5 x7 h fun x8 h => withBool x8 fun t9 => bc t9 (bindR (c_spec_l1Part F g x3 x5 h) fun x10 h => bindR (c_spec_l5Order F g x10 h) fun x11 h => aBuildSlice 1 1 [(0, 1, x11)] h fun x12 h => aAppend 1 8 x4 x12 h fun x13 h => aArith iadd x5 (AV.int 3 (Int.ofNat 1)) h fun x14 h => kc2 [x3, x13, x14] h) (some (x4, h))) (hd vs) (hd (tl vs)) (hd (tl (tl vs)))
noncomputable def c_spec_l5Orders (F g : Nat) (a0 : AV) (h : H) : Option R := aBuildSlice 0 1 [] h fun x1 h => loopD F (c_spec_l5Orders_l1 F g) [a0, x1, (AV.int 3 (Int.ofNat 0))] h
noncomputable def A_spec_l5Orders : An := (.two .o (.two .o (.two (.two .o (.two (.at_ [0, 3, 4] (.two (.two .o (.two .o .o)) (.two (.two .o .o) .o)) .o) .o)) (.two .o .o))))
noncomputable def b_spec_l5Orders : Code := bodyOf Go.Proofs.Try.f129
theorem k_spec_l5Orders (F g : Nat) (a0 : AV) (h : H) : callD Go.Proofs.Try.prog (Env.add (Env.add (fun _ _ _ => none : Env) 149 (u2 (c_spec_l1Part F g))) 125 (u1 (c_spec_l5Order F g))) 21 F b_spec_l5Orders [2] A_spec_l5Orders [a0] h = c_spec_l5Orders F g a0 h := by kernel_rfl
theorem s_spec_l5Orders (F g : Nat) : ∀ args h r, u1 (c_spec_l5Orders F g) args h = some r → Tri Go.Proofs.Try.prog 129 args h r := by
  intro args h r e; obtain ⟨a0, rfl, e1⟩ := u1_some e; exact fn_sound Go.Proofs.Try.func129 rfl rfl rfl Go.Proofs.Try.ntmps129 (Sound.add (Sound.add (Sound.none _) (s_spec_l1Part F g)) (s_spec_l5Order F g)) ((k_spec_l5Orders F g a0 h).trans e1)

-- "loop.example/treenumbers/spec.StreamLengths"
noncomputable def c_spec_StreamLengths_l1 (F g : Nat) : List AV → H → (List AV → H → Option R) → Option R := fun vs h kc9 => (fun x10 x11 x12 => aLenK 1 x10 h fun x13 h => aCmpI ilt x12 x13 h fun x14 h => withBool x14 fun t15 => bc t15 (aIdxAddr 1 x10 x12 h fun x16 _ => aLoad x16 h fun x17 _ => aArith isub x17 (AV.int 3 (Int.ofNat 1)) h fun x18 _ => aIdxAddr 1 x10 x12 h fun x19 _ => aLoad x19 h fun x20 _ => aArith isub x20 (AV.int 3 (Int.ofNat 1)) h fun x21 _ => aIdxAddr 1 x11 x21 h fun x22 _ => aLoad x22 h fun x23 _ => aArith iadd x23 (AV.int 3 (Int.ofNat 1)) h fun x24 _ => aIdxAddr 1 x11 x18 h fun x25 _ => aStore x25 x24 h fun x26 h => aArith iadd x12 (AV.int 3 (Int.ofNat 1)) h fun x27 h => kc9 [x10, x11, x27] h) (some (AV.one .tup (AV.cons x11 (AV.cons (AV.bool true) (AV.leaf .nil))), h))) (hd vs) (hd (tl vs)) (hd (tl (tl vs)))
noncomputable def c_spec_StreamLengths (F g : Nat) (a0 : AV) (h : H) : Option R := bindR (c_spec_TreeIn F g a0 h) fun x1 h => aNot x1 h fun x2 h => withBool x2 fun t3 => bc t3 (aBuildSlice 0 1 [] h fun x4 h => some (AV.one .tup (AV.cons x4 (AV.cons (AV.bool false) (AV.leaf .nil))), h)) (bindR (c_spec_l5Orders F g a0 h) fun x5 h => aIdxAddr 1 x5 (AV.int 3 (Int.ofNat 0)) h fun x6 h => aLoad x6 h fun x7 h => aMake 8 [(AV.int 3 (Int.ofNat 0))] x7 x7 h fun x8 h => loopD F (c_spec_StreamLengths_l1 F g) [x5, x8, (AV.int 3 (Int.ofNat 0))] h)
noncomputable def A_spec_StreamLengths : An := (.two .o (.two (.two .o (.two (.two .o .o) .o)) (.two .o (.two .o (.two (.two .o (.two (.at_ [4, 5, 6] (.two (.two .o (.two .o .o)) (.two (.two .o .o) .o)) .o) .o)) (.two .o .o))))))
noncomputable def b_spec_StreamLengths : Code := bodyOf Go.Proofs.Try.f80
theorem k_spec_StreamLengths (F g : Nat) (a0 : AV) (h : H) : callD Go.Proofs.Try.prog (Env.add (Env.add (fun _ _ _ => none : Env) 25 (u1 (c_spec_TreeIn F g))) 129 (u1 (c_spec_l5Orders F g))) 40 F b_spec_StreamLengths [2, 3] A_spec_StreamLengths [a0] h = c_spec_StreamLengths F g a0 h := by kernel_rfl
theorem s_spec_StreamLengths (F g : Nat) : ∀ args h r, u1 (c_spec_StreamLengths F g) args h = some r → Tri Go.Proofs.Try.prog 80 args h r := by
  intro args h r e; obtain ⟨a0, rfl, e1⟩ := u1_some e; exact fn_sound Go.Proofs.Try.func80 rfl rfl rfl Go.Proofs.Try.ntmps80 (Sound.add (Sound.add (Sound.none _) (s_spec_TreeIn F g)) (s_spec_l5Orders F g)) ((k_spec_StreamLengths F g a0 h).trans e1)

-- "loop.example/treenumbers/laws.sameInts"
noncomputable def c_laws_sameInts_l1 (F g : Nat) : List AV → H → (List AV → H → Option R) → Option R := fun vs h kc5 => (fun x6 x7 x8 => aLenK 1 x6 h fun x9 h => aCmpI ilt x8 x9 h fun x10 h => withBool x10 fun t11 => bc t11 (aIdxAddr 1 x6 x8 h fun x12 _ => aLoad x12 h fun x13 _ => aIdxAddr 1 x7 x8 h fun x14 _ => aLoad x14 h fun x15 _ => aCmpI (fun a b => bnot (ieq a b)) x13 x15 h fun x16 _ => withBool x16 fun t17 => bc t17 (some ((AV.bool false), h)) (aArith iadd x8 (AV.int 3 (Int.ofNat 1)) h fun x18 h => kc5 [x6, x7, x18] h)) (some ((AV.bool true), h))) (hd vs) (hd (tl vs)) (hd (tl (tl vs)))
noncomputable def c_laws_sameInts (F g : Nat) (a0 a1 : AV) (h : H) : Option R := aLenK 1 a0 h fun x1 h => aLenK 1 a1 h fun x2 h => aCmpI (fun a b => bnot (ieq a b)) x1 x2 h fun x3 h => withBool x3 fun t4 => bc t4 (some ((AV.bool false), h)) (loopD F (c_laws_sameInts_l1 F g) [a0, a1, (AV.int 3 (Int.ofNat 0))] h)
noncomputable def A_laws_sameInts : An := (.two .o (.two (.two .o (.two (.two .o .o) .o)) (.two (.two .o (.two (.at_ [0, 1, 5] (.two (.two .o (.two .o .o)) (.two (.two (.two .o (.two (.two .o .o) .o)) .o) .o)) .o) .o)) (.two .o .o))))
noncomputable def b_laws_sameInts : Code := bodyOf Go.Proofs.Try.f55
theorem k_laws_sameInts (F g : Nat) (a0 a1 : AV) (h : H) : callD Go.Proofs.Try.prog (fun _ _ _ => none : Env) 26 F b_laws_sameInts [4] A_laws_sameInts [a0, a1] h = c_laws_sameInts F g a0 a1 h := by kernel_rfl
theorem s_laws_sameInts (F g : Nat) : ∀ args h r, u2 (c_laws_sameInts F g) args h = some r → Tri Go.Proofs.Try.prog 55 args h r := by
  intro args h r e; obtain ⟨a0, a1, rfl, e1⟩ := u2_some e; exact fn_sound Go.Proofs.Try.func55 rfl rfl rfl Go.Proofs.Try.ntmps55 (Sound.none _) ((k_laws_sameInts F g a0 a1 h).trans e1)

-- "loop.example/treenumbers/impl.TreeNodes"
noncomputable def c_impl_TreeNodes (F g : Nat) (a0 : AV) (h : H) : Option R := bindR (c_impl_readTree F g a0 h) fun x1 h => aExtract x1 0 h fun x2 h => aExtract x1 1 h fun x3 h => aNot x3 h fun x4 h => withBool x4 fun t5 => bc t5 (some (AV.one .tup (AV.cons (AV.int 3 (Int.ofNat 0)) (AV.cons (AV.bool false) (AV.leaf .nil))), h)) (bindR (c_impl_node_nodes F g x2 h) fun x6 h => aLenK 1 x6 h fun x7 h => some (AV.one .tup (AV.cons x7 (AV.cons (AV.bool true) (AV.leaf .nil))), h))
noncomputable def A_impl_TreeNodes : An := (.two .o (.two .o (.two (.two .o (.two (.two .o .o) .o)) (.two .o .o))))
noncomputable def b_impl_TreeNodes : Code := bodyOf Go.Proofs.Try.f29
theorem k_impl_TreeNodes (F g : Nat) (a0 : AV) (h : H) : callD Go.Proofs.Try.prog (Env.add (Env.add (fun _ _ _ => none : Env) 91 (u1 (c_impl_readTree F g))) 95 (u1 (c_impl_node_nodes F g))) 16 F b_impl_TreeNodes [2, 3] A_impl_TreeNodes [a0] h = c_impl_TreeNodes F g a0 h := by kernel_rfl
theorem s_impl_TreeNodes (F g : Nat) : ∀ args h r, u1 (c_impl_TreeNodes F g) args h = some r → Tri Go.Proofs.Try.prog 29 args h r := by
  intro args h r e; obtain ⟨a0, rfl, e1⟩ := u1_some e; exact fn_sound Go.Proofs.Try.func29 rfl rfl rfl Go.Proofs.Try.ntmps29 (Sound.add (Sound.add (Sound.none _) (s_impl_readTree F g)) (s_impl_node_nodes F g)) ((k_impl_TreeNodes F g a0 h).trans e1)

-- "loop.example/treenumbers/impl.StreamCounts$1"
noncomputable def c_impl_StreamCounts_d1 (F g : Nat) (a0 : AV) (h : H) : Option R := aBox a0 h fun x1 h => some ((AV.int 3 (Int.ofNat 1)), h)
noncomputable def A_impl_StreamCounts_d1 : An := (.two .o (.two .o .o))
noncomputable def b_impl_StreamCounts_d1 : Code := bodyOf Go.Proofs.Try.f130
theorem k_impl_StreamCounts_d1 (F g : Nat) (a0 : AV) (h : H) : callD Go.Proofs.Try.prog (fun _ _ _ => none : Env) 3 F b_impl_StreamCounts_d1 [2] A_impl_StreamCounts_d1 [a0] h = c_impl_StreamCounts_d1 F g a0 h := by kernel_rfl
theorem s_impl_StreamCounts_d1 (F g : Nat) : ∀ args h r, u1 (c_impl_StreamCounts_d1 F g) args h = some r → Tri Go.Proofs.Try.prog 130 args h r := by
  intro args h r e; obtain ⟨a0, rfl, e1⟩ := u1_some e; exact fn_sound Go.Proofs.Try.func130 rfl rfl rfl Go.Proofs.Try.ntmps130 (Sound.none _) ((k_impl_StreamCounts_d1 F g a0 h).trans e1)

-- "loop.example/treenumbers/impl.StreamCounts"
noncomputable abbrev D_impl_StreamCounts (F g : Nat) : Env := (Env.add (fun _ _ _ => none : Env) 130 (u1 (c_impl_StreamCounts_d1 F g)))
noncomputable def c_impl_StreamCounts (F g : Nat) (a0 : AV) (h : H) : Option R := bindR (c_impl_sumsByOrder F g (D_impl_StreamCounts F g) a0 (AV.func (.func 130) (AV.leaf .nil) (AV.leaf .nil)) h) fun x1 h => aExtract x1 0 h fun x2 h => aExtract x1 1 h fun x3 h => some (AV.one .tup (AV.cons x2 (AV.cons x3 (AV.leaf .nil))), h)
noncomputable def A_impl_StreamCounts : An := (.two .o (.two .o .o))
noncomputable def b_impl_StreamCounts : Code := bodyOf Go.Proofs.Try.f81
theorem k_impl_StreamCounts (F g : Nat) (a0 : AV) (h : H) : callD Go.Proofs.Try.prog (Env.add (D_impl_StreamCounts F g) 127 (u2 (c_impl_sumsByOrder F g (D_impl_StreamCounts F g)))) 8 F b_impl_StreamCounts [2, 3] A_impl_StreamCounts [a0] h = c_impl_StreamCounts F g a0 h := by kernel_rfl
theorem s_impl_StreamCounts (F g : Nat) : ∀ args h r, u1 (c_impl_StreamCounts F g) args h = some r → Tri Go.Proofs.Try.prog 81 args h r := by
  intro args h r e; obtain ⟨a0, rfl, e1⟩ := u1_some e; exact fn_sound Go.Proofs.Try.func81 rfl rfl rfl Go.Proofs.Try.ntmps81 (Sound.add (Sound.add (Sound.none _) (s_impl_StreamCounts_d1 F g)) (s_impl_sumsByOrder F g (D_impl_StreamCounts F g) (Sound.add (Sound.none _) (s_impl_StreamCounts_d1 F g)))) ((k_impl_StreamCounts F g a0 h).trans e1)

-- "loop.example/treenumbers/laws.total"
noncomputable def c_laws_total_l1 (F g : Nat) : List AV → H → (List AV → H → Option R) → Option R := fun vs h kc1 => (fun x2 x3 x4 => aLenK 1 x2 h fun x5 h => aCmpI ilt x4 x5 h fun x6 h => withBool x6 fun t7 => bc t7 (aIdxAddr 1 x2 x4 h fun x8 h => aLoad x8 h fun x9 h => aArith iadd x3 x9 h fun x10 h => aArith iadd x4 (AV.int 3 (Int.ofNat 1)) h fun x11 h => kc1 [x2, x10, x11] h) (some (x3, h))) (hd vs) (hd (tl vs)) (hd (tl (tl vs)))
noncomputable def c_laws_total (F g : Nat) (a0 : AV) (h : H) : Option R := loopD F (c_laws_total_l1 F g) [a0, (AV.int 3 (Int.ofNat 0)), (AV.int 3 (Int.ofNat 0))] h
noncomputable def A_laws_total : An := (.two .o (.two .o (.two (.two .o (.two (.at_ [0, 3, 4] (.two (.two .o (.two .o .o)) (.two (.two .o .o) .o)) .o) .o)) (.two .o .o))))
noncomputable def b_laws_total : Code := bodyOf Go.Proofs.Try.f72
theorem k_laws_total (F g : Nat) (a0 : AV) (h : H) : callD Go.Proofs.Try.prog (fun _ _ _ => none : Env) 18 F b_laws_total [2] A_laws_total [a0] h = c_laws_total F g a0 h := by kernel_rfl
theorem s_laws_total (F g : Nat) : ∀ args h r, u1 (c_laws_total F g) args h = some r → Tri Go.Proofs.Try.prog 72 args h r := by
  intro args h r e; obtain ⟨a0, rfl, e1⟩ := u1_some e; exact fn_sound Go.Proofs.Try.func72 rfl rfl rfl Go.Proofs.Try.ntmps72 (Sound.none _) ((k_laws_total F g a0 h).trans e1)

-- "loop.example/treenumbers/laws.FnStreamLengths"
noncomputable def c_laws_FnStreamLengths_j1 (F g : Nat) (vs : List AV) (h : H) : Option R := (fun x30 x31 => aPick x30 x31 (AV.bool false) h fun x32 h => some (x32, h)) (hd vs) (hd (tl vs))
noncomputable def c_laws_FnStreamLengths_j2 (F g : Nat) (vs : List AV) (h : H) : Option R := (fun x77 x78 => aPick x77 x78 (AV.bool false) h fun x79 h => some (x79, h)) (hd vs) (hd (tl vs))
noncomputable def c_laws_FnStreamLengths_j3 (F g : Nat) (vs : List AV) (h : H) : Option R := (fun x72 x73 x74 x75 => aPick x74 x75 (AV.bool false) h fun x76 h => guardB true x76 (aLenK 1 x73 h fun x80 h => aLenK 1 x72 h fun x81 h => aCmpI ieq x80 x81 h fun x82 h => (c_laws_FnStreamLengths_j2 F g) [x76, x82] h) ((c_laws_FnStreamLengths_j2 F g) [x76, (AV.one .tup (AV.leaf .nil))] h)) (hd vs) (hd (tl vs)) (hd (tl (tl vs))) (hd (tl (tl (tl vs))))
noncomputable def c_laws_FnStreamLengths_j4 (F g : Nat) (vs : List AV) (h : H) : Option R := (fun x66 x67 x68 x69 x70 => aPick x69 x70 (AV.bool false) h fun x71 h => guardB true x71 (bindR (c_laws_total F g x66 h) fun x83 h => aCmpI ieq x83 x67 h fun x84 h => (c_laws_FnStreamLengths_j3 F g) [x66, x68, x71, x84] h) ((c_laws_FnStreamLengths_j3 F g) [x66, x68, x71, (AV.one .tup (AV.leaf .nil))] h)) (hd vs) (hd (tl vs)) (hd (tl (tl vs))) (hd (tl (tl (tl vs)))) (hd (tl (tl (tl (tl vs)))))
noncomputable def c_laws_FnStreamLengths_j5 (F g : Nat) (kc40 : List AV → H → Option R) (vs : List AV) (h : H) : Option R := (fun x49 x50 x51 x52 x53 x54 x55 x56 => aPick x55 x56 (AV.bool false) h fun x57 h => withBool x57 fun t58 => bc t58 (aIdxAddr 1 x49 x54 h fun x59 _ => aLoad x59 h fun x60 _ => aIdxAddr 1 x52 x54 h fun x61 _ => aLoad x61 h fun x62 _ => aCmpI ilt x60 x62 h fun x63 _ => withBool x63 fun t64 => bc t64 (some ((AV.bool false), h)) (aArith iadd x54 (AV.int 3 (Int.ofNat 1)) h fun x65 h => kc40 [x49, x50, x51, x52, x53, x65] h)) (guardB true x51 ((c_laws_FnStreamLengths_j4 F g) [x49, x50, x52, x51, x53] h) ((c_laws_FnStreamLengths_j4 F g) [x49, x50, x52, x51, (AV.one .tup (AV.leaf .nil))] h))) (hd vs) (hd (tl vs)) (hd (tl (tl vs))) (hd (tl (tl (tl vs)))) (hd (tl (tl (tl (tl vs))))) (hd (tl (tl (tl (tl (tl vs)))))) (hd (tl (tl (tl (tl (tl (tl vs))))))) (hd (tl (tl (tl (tl (tl (tl (tl vs))))))))
noncomputable def c_laws_FnStreamLengths_l6 (F g : Nat) : List AV → H → (List AV → H → Option R) → Option R := fun vs h kc40 => (fun x41 x42 x43 x44 x45 x46 => aLenK 1 x41 h fun x47 h => aCmpI ilt x46 x47 h fun x48 h => guardB true x48 (aLenK 1 x44 h fun x85 h => aCmpI ilt x46 x85 h fun x86 h => (c_laws_FnStreamLengths_j5 F g kc40) [x41, x42, x43, x44, x45, x46, x48, x86] h) ((c_laws_FnStreamLengths_j5 F g kc40) [x41, x42, x43, x44, x45, x46, x48, (AV.one .tup (AV.leaf .nil))] h)) (hd vs) (hd (tl vs)) (hd (tl (tl vs))) (hd (tl (tl (tl vs)))) (hd (tl (tl (tl (tl vs))))) (hd (tl (tl (tl (tl (tl vs))))))
noncomputable def c_laws_FnStreamLengths_j7 (F g : Nat) (vs : List AV) (h : H) : Option R := (fun x20 x21 x22 x23 x24 x25 x26 => aPick x25 (AV.bool true) x26 h fun x27 h => withBool x27 fun t28 => bc t28 (aEq false 0 x22 x24 h fun x29 h => guardB true x29 (bindR (c_laws_sameInts F g x21 x23 h) fun x33 h => (c_laws_FnStreamLengths_j1 F g) [x29, x33] h) ((c_laws_FnStreamLengths_j1 F g) [x29, (AV.one .tup (AV.leaf .nil))] h)) (bindR (c_impl_TreeNodes F g x20 h) fun x34 h => aExtract x34 0 h fun x35 h => aExtract x34 1 h fun x36 h => bindR (c_impl_StreamCounts F g x20 h) fun x37 h => aExtract x37 0 h fun x38 h => aExtract x37 1 h fun x39 h => loopD F (c_laws_FnStreamLengths_l6 F g) [x21, x35, x36, x38, x39, (AV.int 3 (Int.ofNat 0))] h)) (hd vs) (hd (tl vs)) (hd (tl (tl vs))) (hd (tl (tl (tl vs)))) (hd (tl (tl (tl (tl vs))))) (hd (tl (tl (tl (tl (tl vs)))))) (hd (tl (tl (tl (tl (tl (tl vs)))))))
noncomputable def c_laws_FnStreamLengths_j8 (F g : Nat) (vs : List AV) (h : H) : Option R := (fun x12 x13 x14 x15 x16 x17 x18 => aPick x17 (AV.bool true) x18 h fun x19 h => guardB false x19 (aNot x14 h fun x87 h => (c_laws_FnStreamLengths_j7 F g) [x12, x13, x14, x15, x16, x19, x87] h) ((c_laws_FnStreamLengths_j7 F g) [x12, x13, x14, x15, x16, x19, (AV.one .tup (AV.leaf .nil))] h)) (hd vs) (hd (tl vs)) (hd (tl (tl vs))) (hd (tl (tl (tl vs)))) (hd (tl (tl (tl (tl vs))))) (hd (tl (tl (tl (tl (tl vs)))))) (hd (tl (tl (tl (tl (tl (tl vs)))))))
noncomputable def c_laws_FnStreamLengths_r9 (F g : Nat) (x4 : AV) (h : H) : Option R := bindR (c_impl_StreamLengths F g x4 h) fun x5 h => aExtract x5 0 h fun x6 h => aExtract x5 1 h fun x7 h => bindR (c_spec_StreamLengths F g x4 h) fun x8 h => aExtract x8 0 h fun x9 h => aExtract x8 1 h fun x10 h => aEq true 0 x7 x10 h fun x11 h => guardB false x11 (bindR (c_laws_sameInts F g x6 x9 h) fun x88 h => aNot x88 h fun x89 h => (c_laws_FnStreamLengths_j8 F g) [x4, x6, x7, x9, x10, x11, x89] h) ((c_laws_FnStreamLengths_j8 F g) [x4, x6, x7, x9, x10, x11, (AV.one .tup (AV.leaf .nil))] h)
noncomputable def c_laws_FnStreamLengths (F g : Nat) (a0 : AV) (h : H) : Option R := aLenK 1 a0 h fun x1 h => aCmpI (fun a b => ilt b a) x1 (AV.int 3 (Int.ofNat 1048576)) h fun x2 h => withBool x2 fun t3 => bc t3 (some ((AV.bool true), h)) (bindR (c_spec_DrawStreamLengths F g a0 h) fun x4 h => c_laws_FnStreamLengths_r9 F g x4 h)
noncomputable def A_laws_FnStreamLengths : An := (.two .o (.two (.two .o (.two (.two .o .o) .o)) (.two .o (.two .o (.two .o (.two (.two (.at_ [3, 4, 5, 6, 7, 31, 35] .o (.at_ [3, 4, 5, 6, 7, 37, 39] .o .o)) (.two (.two (.at_ [44, 47] .o .o) .o) .o)) (.two .o (.two .o (.two (.two .o (.two (.at_ [4, 8, 9, 10, 11, 12] (.two (.two (.at_ [4, 8, 9, 10, 11, 12, 63, 67] .o .o) (.two .o .o)) (.two (.two (.two .o (.two (.two .o .o) .o)) .o) .o)) .o) .o)) (.two (.at_ [4, 8, 10, 81, 82] .o (.at_ [4, 10, 84, 88] .o (.at_ [90, 95] .o .o))) .o))))))))))
noncomputable def b_laws_FnStreamLengths : Code := bodyOf Go.Proofs.Try.f19
theorem k_laws_FnStreamLengths (F g : Nat) (a0 : AV) (h : H) : callD Go.Proofs.Try.prog (Env.add (Env.add (Env.add (Env.add (Env.add (Env.add (Env.add (fun _ _ _ => none : Env) 78 (u1 (c_spec_DrawStreamLengths F g))) 79 (u1 (c_impl_StreamLengths F g))) 80 (u1 (c_spec_StreamLengths F g))) 55 (u2 (c_laws_sameInts F g))) 29 (u1 (c_impl_TreeNodes F g))) 81 (u1 (c_impl_StreamCounts F g))) 72 (u1 (c_laws_total F g))) 97 F b_laws_FnStreamLengths [2] A_laws_FnStreamLengths [a0] h = c_laws_FnStreamLengths F g a0 h := by kernel_rfl
theorem s_laws_FnStreamLengths (F g : Nat) : ∀ args h r, u1 (c_laws_FnStreamLengths F g) args h = some r → Tri Go.Proofs.Try.prog 19 args h r := by
  intro args h r e; obtain ⟨a0, rfl, e1⟩ := u1_some e; exact fn_sound Go.Proofs.Try.func19 rfl rfl rfl Go.Proofs.Try.ntmps19 (Sound.add (Sound.add (Sound.add (Sound.add (Sound.add (Sound.add (Sound.add (Sound.none _) (s_spec_DrawStreamLengths F g)) (s_impl_StreamLengths F g)) (s_spec_StreamLengths F g)) (s_laws_sameInts F g)) (s_impl_TreeNodes F g)) (s_impl_StreamCounts F g)) (s_laws_total F g)) ((k_laws_FnStreamLengths F g a0 h).trans e1)

end
end Go.AI.T
