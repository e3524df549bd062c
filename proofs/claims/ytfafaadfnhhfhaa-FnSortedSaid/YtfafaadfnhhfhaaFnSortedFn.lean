/- The functions that the law FnSorted reaches, as the evaluator reads them. -/
import Derived.Test.YtfafaadfnhhfhaaRaw
import Derived.Test.YtfafaadfnhhfhaaGiv
import Derived.Test.YtfafaadfnhhfhaaProg
import Derived.KernelRfl
namespace Go.AI
open Go Go.RowKit Go.AI
set_option linter.unusedVariables false
set_option linter.unusedSimpArgs false
set_option maxRecDepth 100000
noncomputable section
-- "loop.example/treenumbers/spec.DrawTreeSorted"
noncomputable def c_spec_DrawTreeSorted (F g : Nat) (a0 : AV) (h : H) : Option R := bindR (c_spec_l91Some F g a0 h) fun x1 h => some (x1, h)
noncomputable def A_spec_DrawTreeSorted : An := (.two .o (.two .o .o))
noncomputable def b_spec_DrawTreeSorted : Code := bodyOf Go.Proofs.Try.f48
theorem k_spec_DrawTreeSorted (F g : Nat) (a0 : AV) (h : H) : callD Go.Proofs.Try.prog (Env.add (fun _ _ _ => none : Env) 90 (u1 (c_spec_l91Some F g))) 5 F b_spec_DrawTreeSorted [2] A_spec_DrawTreeSorted [a0] h = c_spec_DrawTreeSorted F g a0 h := by kernel_rfl
theorem s_spec_DrawTreeSorted (F g : Nat) : ∀ args h r, u1 (c_spec_DrawTreeSorted F g) args h = some r → Tri Go.Proofs.Try.prog 48 args h r := by
  intro args h r e; obtain ⟨a0, rfl, e1⟩ := u1_some e; exact fn_sound Go.Proofs.Try.func48 rfl rfl rfl Go.Proofs.Try.ntmps48 (Sound.add (Sound.none _) (s_spec_l91Some F g)) ((k_spec_DrawTreeSorted F g a0 h).trans e1)

end
end Go.AI
namespace Go.AI.T
open Go Go.RowKit Go.AI
set_option linter.unusedVariables false
set_option linter.unusedSimpArgs false
set_option maxRecDepth 100000
noncomputable section
def c_spec_DrawTreeSorted (F g : Nat) (a0 : AV) (h : H) : Option R := quietC (Go.AI.c_spec_DrawTreeSorted 20000 20) a0 h
theorem s_spec_DrawTreeSorted (F g : Nat) : ∀ args h r, u1 (c_spec_DrawTreeSorted F g) args h = some r → Tri Go.Proofs.Try.prog id_spec_DrawTreeSorted args h r := quietC_sound (Go.AI.s_spec_DrawTreeSorted 20000 20)
theorem draw_FnSorted (F g : Nat) {a0 : AV} {n : Nat} {L : List AV} {B : Blk} (ha : (a0 = .leaf .nils ∧ n = 0) ∨ a0 = .osl 0 0 n 1) (hB : 0 < n → B = .cells 2 L) (hb : ∀ i, i < n → ∃ v, L[i]? = some (.int 4 (.ofNat v)) ∧ v < 256) :
    ∃ l, (l.length ≤ 300 ∧ (isTree l = true → l.length ≤ 16)) ∧ c_spec_DrawTreeSorted F g a0 (hCode B) = some (.str l l.length, hCode B) := by
  obtain ⟨l, h', hl, e, hlo⟩ := some_ok (F := 20000) (g := 20) (h := hCode B) (by omega) ha (fun hn => ⟨2, hB hn⟩) hb (Nat.le_refl _) (Nat.le_refl _)
  refine ⟨l, hl, quietC_ok (h' := h') ?_ rfl hlo⟩
  show bindR (Go.AI.c_spec_l91Some 20000 20 a0 (hCode B)) _ = _
  rw [e]; rfl
end
end Go.AI.T
namespace Go.AI.T
open Go Go.RowKit Go.AI
set_option linter.unusedVariables false
set_option linter.unusedSimpArgs false
set_option maxRecDepth 100000
noncomputable section
-- "math/bits.Len32"
noncomputable def c_math_bits_Len32_j1 (F g : Nat) (vs : List AV) (h : H) : Option R := (fun x3 x4 => aConvI 4 x3 h fun x5 h => aIdxStr (AV.str [0, 1, 2, 2, 3, 3, 3, 3, 4, 4, 4, 4, 4, 4, 4, 4, 5, 5, 5, 5, 5, 5, 5, 5, 5, 5, 5, 5, 5, 5, 5, 5, 6, 6, 6, 6, 6, 6, 6, 6, 6, 6, 6, 6, 6, 6, 6, 6, 6, 6, 6, 6, 6, 6, 6, 6, 6, 6, 6, 6, 6, 6, 6, 6, 7, 7, 7, 7, 7, 7, 7, 7, 7, 7, 7, 7, 7, 7, 7, 7, 7, 7, 7, 7, 7, 7, 7, 7, 7, 7, 7, 7, 7, 7, 7, 7, 7, 7, 7, 7, 7, 7, 7, 7, 7, 7, 7, 7, 7, 7, 7, 7, 7, 7, 7, 7, 7, 7, 7, 7, 7, 7, 7, 7, 7, 7, 7, 7, 8, 8, 8, 8, 8, 8, 8, 8, 8, 8, 8, 8, 8, 8, 8, 8, 8, 8, 8, 8, 8, 8, 8, 8, 8, 8, 8, 8, 8, 8, 8, 8, 8, 8, 8, 8, 8, 8, 8, 8, 8, 8, 8, 8, 8, 8, 8, 8, 8, 8, 8, 8, 8, 8, 8, 8, 8, 8, 8, 8, 8, 8, 8, 8, 8, 8, 8, 8, 8, 8, 8, 8, 8, 8, 8, 8, 8, 8, 8, 8, 8, 8, 8, 8, 8, 8, 8, 8, 8, 8, 8, 8, 8, 8, 8, 8, 8, 8, 8, 8, 8, 8, 8, 8, 8, 8, 8, 8, 8, 8, 8, 8, 8, 8, 8, 8, 8, 8, 8, 8, 8, 8, 8, 8, 8, 8, 8, 8] 256) x5 h fun x6 h => aConvI 3 x6 h fun x7 h => aArith iadd x4 x7 h fun x8 h => some (x8, h)) (hd vs) (hd (tl vs))
noncomputable def c_math_bits_Len32_j2 (F g : Nat) (vs : List AV) (h : H) : Option R := (fun x1 x2 => aCmpI (fun a b => ile b a) x1 (AV.int 6 (Int.ofNat 256)) h fun x9 h => withBool x9 fun t10 => bc t10 (aShr x1 (AV.int 7 (Int.ofNat 8)) h fun x11 h => aArith iadd x2 (AV.int 3 (Int.ofNat 8)) h fun x12 h => (c_math_bits_Len32_j1 F g) [x11, x12] h) ((c_math_bits_Len32_j1 F g) [x1, x2] h)) (hd vs) (hd (tl vs))
noncomputable def c_math_bits_Len32 (F g : Nat) (a0 : AV) (h : H) : Option R := aCmpI (fun a b => ile b a) a0 (AV.int 6 (Int.ofNat 65536)) h fun x13 h => withBool x13 fun t14 => bc t14 (aShr a0 (AV.int 7 (Int.ofNat 16)) h fun x15 h => (c_math_bits_Len32_j2 F g) [x15, (AV.int 3 (Int.ofNat 16))] h) ((c_math_bits_Len32_j2 F g) [a0, (AV.int 3 (Int.ofNat 0))] h)
noncomputable def A_math_bits_Len32 : An := (.two .o (.at_ [0, 2] (.two .o (.two (.two .o .o) .o)) (.at_ [0, 2] (.two .o (.two (.two .o .o) .o)) (.two .o .o))))
noncomputable def b_math_bits_Len32 : Code := bodyOf Go.Proofs.Try.f176
theorem k_math_bits_Len32 (F g : Nat) (a0 : AV) (h : H) : callD Go.Proofs.Try.prog (fun _ _ _ => none : Env) 19 F b_math_bits_Len32 [2] A_math_bits_Len32 [a0] h = c_math_bits_Len32 F g a0 h := by kernel_rfl
theorem s_math_bits_Len32 (F g : Nat) : ∀ args h r, u1 (c_math_bits_Len32 F g) args h = some r → Tri Go.Proofs.Try.prog 176 args h r := by
  intro args h r e; obtain ⟨a0, rfl, e1⟩ := u1_some e; exact fn_sound Go.Proofs.Try.func176 rfl rfl rfl Go.Proofs.Try.ntmps176 (Sound.none _) ((k_math_bits_Len32 F g a0 h).trans e1)

-- "math/bits.Len64"
noncomputable def c_math_bits_Len64_j1 (F g : Nat) (vs : List AV) (h : H) : Option R := (fun x5 x6 => aConvI 4 x5 h fun x7 h => aIdxStr (AV.str [0, 1, 2, 2, 3, 3, 3, 3, 4, 4, 4, 4, 4, 4, 4, 4, 5, 5, 5, 5, 5, 5, 5, 5, 5, 5, 5, 5, 5, 5, 5, 5, 6, 6, 6, 6, 6, 6, 6, 6, 6, 6, 6, 6, 6, 6, 6, 6, 6, 6, 6, 6, 6, 6, 6, 6, 6, 6, 6, 6, 6, 6, 6, 6, 7, 7, 7, 7, 7, 7, 7, 7, 7, 7, 7, 7, 7, 7, 7, 7, 7, 7, 7, 7, 7, 7, 7, 7, 7, 7, 7, 7, 7, 7, 7, 7, 7, 7, 7, 7, 7, 7, 7, 7, 7, 7, 7, 7, 7, 7, 7, 7, 7, 7, 7, 7, 7, 7, 7, 7, 7, 7, 7, 7, 7, 7, 7, 7, 8, 8, 8, 8, 8, 8, 8, 8, 8, 8, 8, 8, 8, 8, 8, 8, 8, 8, 8, 8, 8, 8, 8, 8, 8, 8, 8, 8, 8, 8, 8, 8, 8, 8, 8, 8, 8, 8, 8, 8, 8, 8, 8, 8, 8, 8, 8, 8, 8, 8, 8, 8, 8, 8, 8, 8, 8, 8, 8, 8, 8, 8, 8, 8, 8, 8, 8, 8, 8, 8, 8, 8, 8, 8, 8, 8, 8, 8, 8, 8, 8, 8, 8, 8, 8, 8, 8, 8, 8, 8, 8, 8, 8, 8, 8, 8, 8, 8, 8, 8, 8, 8, 8, 8, 8, 8, 8, 8, 8, 8, 8, 8, 8, 8, 8, 8, 8, 8, 8, 8, 8, 8, 8, 8, 8, 8, 8, 8] 256) x7 h fun x8 h => aConvI 3 x8 h fun x9 h => aArith iadd x6 x9 h fun x10 h => some (x10, h)) (hd vs) (hd (tl vs))
noncomputable def c_math_bits_Len64_j2 (F g : Nat) (vs : List AV) (h : H) : Option R := (fun x3 x4 => aCmpI (fun a b => ile b a) x3 (AV.int 7 (Int.ofNat 256)) h fun x11 h => withBool x11 fun t12 => bc t12 (aShr x3 (AV.int 7 (Int.ofNat 8)) h fun x13 h => aArith iadd x4 (AV.int 3 (Int.ofNat 8)) h fun x14 h => (c_math_bits_Len64_j1 F g) [x13, x14] h) ((c_math_bits_Len64_j1 F g) [x3, x4] h)) (hd vs) (hd (tl vs))
noncomputable def c_math_bits_Len64_j3 (F g : Nat) (vs : List AV) (h : H) : Option R := (fun x1 x2 => aCmpI (fun a b => ile b a) x1 (AV.int 7 (Int.ofNat 65536)) h fun x15 h => withBool x15 fun t16 => bc t16 (aShr x1 (AV.int 7 (Int.ofNat 16)) h fun x17 h => aArith iadd x2 (AV.int 3 (Int.ofNat 16)) h fun x18 h => (c_math_bits_Len64_j2 F g) [x17, x18] h) ((c_math_bits_Len64_j2 F g) [x1, x2] h)) (hd vs) (hd (tl vs))
noncomputable def c_math_bits_Len64 (F g : Nat) (a0 : AV) (h : H) : Option R := aCmpI (fun a b => ile b a) a0 (AV.int 7 (Int.ofNat 4294967296)) h fun x19 h => withBool x19 fun t20 => bc t20 (aShr a0 (AV.int 7 (Int.ofNat 32)) h fun x21 h => (c_math_bits_Len64_j3 F g) [x21, (AV.int 3 (Int.ofNat 32))] h) ((c_math_bits_Len64_j3 F g) [a0, (AV.int 3 (Int.ofNat 0))] h)
noncomputable def A_math_bits_Len64 : An := (.two .o (.at_ [0, 2] (.two .o (.two (.two .o .o) .o)) (.at_ [0, 2] (.two .o (.two (.two .o .o) .o)) (.at_ [0, 2] (.two .o (.two (.two .o .o) .o)) (.two .o .o)))))
noncomputable def b_math_bits_Len64 : Code := bodyOf Go.Proofs.Try.f177
theorem k_math_bits_Len64 (F g : Nat) (a0 : AV) (h : H) : callD Go.Proofs.Try.prog (fun _ _ _ => none : Env) 25 F b_math_bits_Len64 [2] A_math_bits_Len64 [a0] h = c_math_bits_Len64 F g a0 h := by kernel_rfl
theorem s_math_bits_Len64 (F g : Nat) : ∀ args h r, u1 (c_math_bits_Len64 F g) args h = some r → Tri Go.Proofs.Try.prog 177 args h r := by
  intro args h r e; obtain ⟨a0, rfl, e1⟩ := u1_some e; exact fn_sound Go.Proofs.Try.func177 rfl rfl rfl Go.Proofs.Try.ntmps177 (Sound.none _) ((k_math_bits_Len64 F g a0 h).trans e1)

-- "math/bits.Len"
noncomputable def c_math_bits_Len (F g : Nat) (a0 : AV) (h : H) : Option R := withBool (AV.bool false) fun t1 => bc t1 (aConvI 6 a0 h fun x2 h => bindR (c_math_bits_Len32 F g x2 h) fun x3 h => some (x3, h)) (bindR (c_math_bits_Len64 F g a0 h) fun x4 h => some (x4, h))
noncomputable def A_math_bits_Len : An := (.two .o (.two (.two (.two .o .o) .o) (.two .o .o)))
noncomputable def b_math_bits_Len : Code := bodyOf Go.Proofs.Try.f156
theorem k_math_bits_Len (F g : Nat) (a0 : AV) (h : H) : callD Go.Proofs.Try.prog (Env.add (Env.add (fun _ _ _ => none : Env) 176 (u1 (c_math_bits_Len32 F g))) 177 (u1 (c_math_bits_Len64 F g))) 8 F b_math_bits_Len [2] A_math_bits_Len [a0] h = c_math_bits_Len F g a0 h := by kernel_rfl
theorem s_math_bits_Len (F g : Nat) : ∀ args h r, u1 (c_math_bits_Len F g) args h = some r → Tri Go.Proofs.Try.prog 156 args h r := by
  intro args h r e; obtain ⟨a0, rfl, e1⟩ := u1_some e; exact fn_sound Go.Proofs.Try.func156 rfl rfl rfl Go.Proofs.Try.ntmps156 (Sound.add (Sound.add (Sound.none _) (s_math_bits_Len32 F g)) (s_math_bits_Len64 F g)) ((k_math_bits_Len F g a0 h).trans e1)

-- "slices.insertionSortCmpFunc[*loop.example/treenumbers/impl.node]"
noncomputable abbrev D_slices_insertionSortCmpFunc_beeb (F g : Nat) (E : Env) : Env := E
noncomputable abbrev G_slices_insertionSortCmpFunc_beeb (F g : Nat) (E : Env) : Env := (D_slices_insertionSortCmpFunc_beeb F g E)
noncomputable def c_slices_insertionSortCmpFunc_beeb_j1 (F g : Nat) (kc2 : List AV → H → Option R) (kc10 : List AV → H → Option R) (vs : List AV) (h : H) : Option R := (fun x18 x19 x20 x21 x22 x23 x24 x25 => aPick x24 x25 (AV.bool false) h fun x26 _ => withBool x26 fun t27 => bc t27 (aArith isub x23 (AV.int 3 (Int.ofNat 1)) h fun x28 _ => aArith isub x23 (AV.int 3 (Int.ofNat 1)) h fun x29 _ => aIdxAddr 1 x18 x29 h fun x30 _ => aLoad x30 h fun x31 _ => aIdxAddr 1 x18 x23 h fun x32 _ => aLoad x32 h fun x33 _ => aIdxAddr 1 x18 x23 h fun x34 _ => aStore x34 x31 h fun x35 h => aIdxAddr 1 x18 x28 h fun x36 _ => aStore x36 x33 h fun x37 h => aArith isub x23 (AV.int 3 (Int.ofNat 1)) h fun x38 h => kc10 [x18, x19, x20, x21, x22, x38] h) (aArith iadd x22 (AV.int 3 (Int.ofNat 1)) h fun x39 h => kc2 [x18, x19, x20, x21, x39] h)) (hd vs) (hd (tl vs)) (hd (tl (tl vs))) (hd (tl (tl (tl vs)))) (hd (tl (tl (tl (tl vs))))) (hd (tl (tl (tl (tl (tl vs)))))) (hd (tl (tl (tl (tl (tl (tl vs))))))) (hd (tl (tl (tl (tl (tl (tl (tl vs))))))))
noncomputable def c_slices_insertionSortCmpFunc_beeb_l2 (F g : Nat) (E : Env) (kc2 : List AV → H → Option R) : List AV → H → (List AV → H → Option R) → Option R := fun vs h kc10 => (fun x11 x12 x13 x14 x15 x16 => aCmpI (fun a b => ilt b a) x16 x12 h fun x17 _ => guardB true x17 (aIdxAddr 1 x11 x16 h fun x40 _ => aLoad x40 h fun x41 _ => aArith isub x16 (AV.int 3 (Int.ofNat 1)) h fun x42 _ => aIdxAddr 1 x11 x42 h fun x43 _ => aLoad x43 h fun x44 _ => dCall (G_slices_insertionSortCmpFunc_beeb F g E) x14 [x41, x44] h fun x45 h => aCmpI ilt x45 (AV.int 3 (Int.ofNat 0)) h fun x46 _ => (c_slices_insertionSortCmpFunc_beeb_j1 F g kc2 kc10) [x11, x12, x13, x14, x15, x16, x17, x46] h) ((c_slices_insertionSortCmpFunc_beeb_j1 F g kc2 kc10) [x11, x12, x13, x14, x15, x16, x17, (AV.one .tup (AV.leaf .nil))] h)) (hd vs) (hd (tl vs)) (hd (tl (tl vs))) (hd (tl (tl (tl vs)))) (hd (tl (tl (tl (tl vs))))) (hd (tl (tl (tl (tl (tl vs))))))
noncomputable def c_slices_insertionSortCmpFunc_beeb_l3 (F g : Nat) (E : Env) : List AV → H → (List AV → H → Option R) → Option R := fun vs h kc2 => (fun x3 x4 x5 x6 x7 => aCmpI ilt x7 x5 h fun x8 h => withBool x8 fun t9 => bc t9 (loopD F (c_slices_insertionSortCmpFunc_beeb_l2 F g E kc2) [x3, x4, x5, x6, x7, x7] h) (some (AV.one .tup (AV.leaf .nil), h))) (hd vs) (hd (tl vs)) (hd (tl (tl vs))) (hd (tl (tl (tl vs)))) (hd (tl (tl (tl (tl vs)))))
noncomputable def c_slices_insertionSortCmpFunc_beeb (F g : Nat) (E : Env) (a0 a1 a2 a3 : AV) (h : H) : Option R := aArith iadd a1 (AV.int 3 (Int.ofNat 1)) h fun x1 h => loopD F (c_slices_insertionSortCmpFunc_beeb_l3 F g E) [a0, a1, a2, a3, x1] h
noncomputable def A_slices_insertionSortCmpFunc_beeb : An := (.two .o (.two (.at_ [0, 1, 2, 3, 8] (.two (.two .o (.two .o .o)) (.two (.two (.two .o (.two (.at_ [0, 1, 2, 3, 8, 9] (.two (.two (.at_ [0, 1, 2, 3, 8, 9, 21, 33] .o .o) (.two .o .o)) (.two (.two .o .o) .o)) .o) .o)) .o) .o)) .o) .o))
noncomputable def b_slices_insertionSortCmpFunc_beeb : Code := bodyOf Go.Proofs.Try.f168
theorem k_slices_insertionSortCmpFunc_beeb (F g : Nat) (E : Env) (a0 a1 a2 a3 : AV) (h : H) : callD Go.Proofs.Try.prog (G_slices_insertionSortCmpFunc_beeb F g E) 53 F b_slices_insertionSortCmpFunc_beeb [] A_slices_insertionSortCmpFunc_beeb [a0, a1, a2, a3] h = c_slices_insertionSortCmpFunc_beeb F g E a0 a1 a2 a3 h := by kernel_rfl
theorem s_slices_insertionSortCmpFunc_beeb (F g : Nat) (E : Env) (hE : Sound Go.Proofs.Try.prog E) : ∀ args h r, u4 (c_slices_insertionSortCmpFunc_beeb F g E) args h = some r → Tri Go.Proofs.Try.prog 168 args h r := by
  intro args h r e; obtain ⟨a0, a1, a2, a3, rfl, e1⟩ := u4_some e; exact fn_sound Go.Proofs.Try.func168 rfl rfl rfl Go.Proofs.Try.ntmps168 hE ((k_slices_insertionSortCmpFunc_beeb F g E a0 a1 a2 a3 h).trans e1)

-- "slices.pdqsortCmpFunc[*loop.example/treenumbers/impl.node]"
noncomputable abbrev D_slices_pdqsortCmpFunc_beeb (F g : Nat) (E : Env) : Env := E
noncomputable abbrev G_slices_pdqsortCmpFunc_beeb (F g : Nat) (E : Env) : Env := (Env.add (Env.add (Env.add (Env.add (D_slices_pdqsortCmpFunc_beeb F g E) 168 (u4 (c_slices_insertionSortCmpFunc_beeb F g (D_slices_pdqsortCmpFunc_beeb F g E)))) 169 (fun _ _ => none)) 171 (fun _ _ => none)) 170 (fun _ _ => none))
noncomputable def c_slices_pdqsortCmpFunc_beeb_j1 (F g : Nat) (vs : List AV) (h : H) : Option R := (fun x15 x16 x17 x18 x19 x20 x21 x22 => none) (hd vs) (hd (tl vs)) (hd (tl (tl vs))) (hd (tl (tl (tl vs)))) (hd (tl (tl (tl (tl vs))))) (hd (tl (tl (tl (tl (tl vs)))))) (hd (tl (tl (tl (tl (tl (tl vs))))))) (hd (tl (tl (tl (tl (tl (tl (tl vs))))))))
noncomputable def c_slices_pdqsortCmpFunc_beeb_l2 (F g : Nat) (E : Env) : List AV → H → (List AV → H → Option R) → Option R := fun vs h kc1 => (fun x2 x3 x4 x5 x6 x7 x8 => aArith isub x4 x3 h fun x9 h => aCmpI ile x9 (AV.int 3 (Int.ofNat 12)) h fun x10 h => withBool x10 fun t11 => bc t11 (bindR (c_slices_insertionSortCmpFunc_beeb F g (D_slices_pdqsortCmpFunc_beeb F g E) x2 x3 x4 x6 h) fun x12 h => some (AV.one .tup (AV.leaf .nil), h)) (aCmpI ieq x5 (AV.int 3 (Int.ofNat 0)) h fun x13 h => withBool x13 fun t14 => bc t14 (none) (aNot x7 h fun x23 h => withBool x23 fun t24 => bc t24 (none) ((c_slices_pdqsortCmpFunc_beeb_j1 F g) [x2, x3, x4, x5, x6, x7, x8, x9] h)))) (hd vs) (hd (tl vs)) (hd (tl (tl vs))) (hd (tl (tl (tl vs)))) (hd (tl (tl (tl (tl vs))))) (hd (tl (tl (tl (tl (tl vs)))))) (hd (tl (tl (tl (tl (tl (tl vs)))))))
noncomputable def c_slices_pdqsortCmpFunc_beeb (F g : Nat) (E : Env) (a0 a1 a2 a3 a4 : AV) (h : H) : Option R := loopD F (c_slices_pdqsortCmpFunc_beeb_l2 F g E) [a0, a1, a2, a3, a4, (AV.bool true), (AV.bool true)] h
noncomputable def A_slices_pdqsortCmpFunc_beeb : An := (.two .o (.two .o (.two (.at_ [0, 1, 2, 3, 4, 10, 11] (.two (.two .o (.two (.two .o (.two (.two .o .o) .o)) (.two (.two .o (.two (.two .o .o) .o)) (.at_ [0, 1, 2, 3, 4, 10, 11, 12] (.two .o (.two (.two .o .o) .o)) (.two .o (.at_ [0, 1, 2, 3, 4, 10, 11, 12, 13, 14] (.two .o (.two (.two .o (.two .o .o)) .o)) (.at_ [0, 1, 2, 3, 4, 10, 11, 12, 13] (.two (.at_ [0, 1, 2, 3, 4, 10, 11, 12, 13, 14, 69, 70] .o (.at_ [0, 1, 2, 3, 4, 10, 11, 12, 13, 72, 74] .o .o)) (.two (.two .o (.two .o .o)) .o)) (.two (.two (.at_ [0, 1, 2, 3, 4, 10, 11, 12, 13, 83, 96] .o .o) (.two (.two .o (.two .o .o)) .o)) (.two .o (.two .o (.two .o (.two .o (.two .o (.two (.two .o (.two .o .o)) (.two .o (.two .o .o)))))))))))))))) .o) .o) .o)))
noncomputable def b_slices_pdqsortCmpFunc_beeb : Code := bodyOf Go.Proofs.Try.f155
theorem k_slices_pdqsortCmpFunc_beeb (F g : Nat) (E : Env) (a0 a1 a2 a3 a4 : AV) (h : H) : callD Go.Proofs.Try.prog (G_slices_pdqsortCmpFunc_beeb F g E) 148 F b_slices_pdqsortCmpFunc_beeb [] A_slices_pdqsortCmpFunc_beeb [a0, a1, a2, a3, a4] h = c_slices_pdqsortCmpFunc_beeb F g E a0 a1 a2 a3 a4 h := by kernel_rfl
theorem s_slices_pdqsortCmpFunc_beeb (F g : Nat) (E : Env) (hE : Sound Go.Proofs.Try.prog E) : ∀ args h r, u5 (c_slices_pdqsortCmpFunc_beeb F g E) args h = some r → Tri Go.Proofs.Try.prog 155 args h r := by
  intro args h r e; obtain ⟨a0, a1, a2, a3, a4, rfl, e1⟩ := u5_some e; exact fn_sound Go.Proofs.Try.func155 rfl rfl rfl Go.Proofs.Try.ntmps155 (Sound.add (Sound.add (Sound.add (Sound.add hE (s_slices_insertionSortCmpFunc_beeb F g (D_slices_pdqsortCmpFunc_beeb F g E) hE)) (fun _ _ _ e => by cases e)) (fun _ _ _ e => by cases e)) (fun _ _ _ e => by cases e)) ((k_slices_pdqsortCmpFunc_beeb F g E a0 a1 a2 a3 a4 h).trans e1)

-- "slices.SortFunc[[]*loop.example/treenumbers/impl.node,*loop.example/treenumbers/impl.node]"
noncomputable abbrev D_slices_SortFunc_4168 (F g : Nat) (E : Env) : Env := E
noncomputable abbrev G_slices_SortFunc_4168 (F g : Nat) (E : Env) : Env := (Env.add (Env.add (D_slices_SortFunc_4168 F g E) 156 (u1 (c_math_bits_Len F g))) 155 (u5 (c_slices_pdqsortCmpFunc_beeb F g (D_slices_SortFunc_4168 F g E))))
noncomputable def c_slices_SortFunc_4168 (F g : Nat) (E : Env) (a0 a1 : AV) (h : H) : Option R := aLenK 1 a0 h fun x1 h => aConvI 7 x1 h fun x2 h => bindR (c_math_bits_Len F g x2 h) fun x3 h => bindR (c_slices_pdqsortCmpFunc_beeb F g (D_slices_SortFunc_4168 F g E) a0 (AV.int 3 (Int.ofNat 0)) x1 x3 a1 h) fun x4 h => some (AV.one .tup (AV.leaf .nil), h)
noncomputable def A_slices_SortFunc_4168 : An := (.two .o .o)
noncomputable def b_slices_SortFunc_4168 : Code := bodyOf Go.Proofs.Try.f140
theorem k_slices_SortFunc_4168 (F g : Nat) (E : Env) (a0 a1 : AV) (h : H) : callD Go.Proofs.Try.prog (G_slices_SortFunc_4168 F g E) 14 F b_slices_SortFunc_4168 [] A_slices_SortFunc_4168 [a0, a1] h = c_slices_SortFunc_4168 F g E a0 a1 h := by kernel_rfl
theorem s_slices_SortFunc_4168 (F g : Nat) (E : Env) (hE : Sound Go.Proofs.Try.prog E) : ∀ args h r, u2 (c_slices_SortFunc_4168 F g E) args h = some r → Tri Go.Proofs.Try.prog 140 args h r := by
  intro args h r e; obtain ⟨a0, a1, rfl, e1⟩ := u2_some e; exact fn_sound Go.Proofs.Try.func140 rfl rfl rfl Go.Proofs.Try.ntmps140 (Sound.add (Sound.add hE (s_math_bits_Len F g)) (s_slices_pdqsortCmpFunc_beeb F g (D_slices_SortFunc_4168 F g E) hE)) ((k_slices_SortFunc_4168 F g E a0 a1 h).trans e1)

-- "(*loop.example/treenumbers/impl.node).text"
noncomputable def c_impl_node_text_l1 (F g : Nat) (self : AV → H → Option R) : List AV → H → (List AV → H → Option R) → Option R := fun vs h kc5 => (fun x6 x7 x8 x9 => aCmpI ilt x9 x8 h fun x10 h => withBool x10 fun t11 => bc t11 (aIdxAddr 1 x7 x9 h fun x12 h => aLoad x12 h fun x13 h => bindR (self x13 h) fun x14 h => aSAdd x6 x14 h fun x15 h => aArith iadd x9 (AV.int 3 (Int.ofNat 1)) h fun x16 h => kc5 [x15, x7, x8, x16] h) (aSAdd x6 (AV.str [41] 1) h fun x17 h => some (x17, h))) (hd vs) (hd (tl vs)) (hd (tl (tl vs))) (hd (tl (tl (tl vs))))
noncomputable def c_impl_node_text (F g : Nat) : AV → H → Option R := Nat.rec (motive := fun _ => AV → H → Option R) (fun _ _ => none) (fun g self a0 h => aNilCheck a0 h fun x1 h => aField 2 x1 h fun x2 h => aLoad x2 h fun x3 h => aLenK 1 x3 h fun x4 h => loopD F (c_impl_node_text_l1 F g self) [(AV.str [40] 1), x3, x4, (AV.int 3 (Int.ofNat 0))] h) g
noncomputable def A_impl_node_text : An := (.two .o (.two .o (.two (.two .o (.two (.at_ [3, 9, 10, 11] (.two .o (.two (.two .o .o) (.two (.two (.two .o .o) .o) .o))) .o) .o)) (.two .o .o))))
noncomputable def b_impl_node_text : Code := bodyOf Go.Proofs.Try.f93
theorem k_impl_node_text (F g : Nat) (a0 : AV) (h : H) : callD Go.Proofs.Try.prog (Env.add (fun _ _ _ => none : Env) 93 (u1 (c_impl_node_text F g))) 22 F b_impl_node_text [2] A_impl_node_text [a0] h = c_impl_node_text F (g + 1) a0 h := by kernel_rfl
theorem s_impl_node_text (F g : Nat) : ∀ args h r, u1 (c_impl_node_text F g) args h = some r → Tri Go.Proofs.Try.prog 93 args h r := by
  induction g with
  | zero => intro args h r e; obtain ⟨a0, rfl, e⟩ := u1_some e; cases e
  | succ g ih => intro args h r e; obtain ⟨a0, rfl, e1⟩ := u1_some e; exact fn_sound Go.Proofs.Try.func93 rfl rfl rfl Go.Proofs.Try.ntmps93 (Sound.add (Sound.none _) ih) ((k_impl_node_text F g a0 h).trans e1)

-- "loop.example/treenumbers/impl.compareTexts"
noncomputable def c_impl_compareTexts (F g : Nat) (a0 a1 : AV) (h : H) : Option R := bindR (c_impl_node_text F g a0 h) fun x1 h => bindR (c_impl_node_text F g a1 h) fun x2 h => bindR (c_strings_Compare F g x1 x2 h) fun x3 h => some (x3, h)
noncomputable def A_impl_compareTexts : An := (.two .o (.two .o .o))
noncomputable def b_impl_compareTexts : Code := bodyOf Go.Proofs.Try.f141
theorem k_impl_compareTexts (F g : Nat) (a0 a1 : AV) (h : H) : callD Go.Proofs.Try.prog (Env.add (Env.add (fun _ _ _ => none : Env) 93 (u1 (c_impl_node_text F g))) 157 (u2 (c_strings_Compare F g))) 10 F b_impl_compareTexts [4] A_impl_compareTexts [a0, a1] h = c_impl_compareTexts F g a0 a1 h := by kernel_rfl
theorem s_impl_compareTexts (F g : Nat) : ∀ args h r, u2 (c_impl_compareTexts F g) args h = some r → Tri Go.Proofs.Try.prog 141 args h r := by
  intro args h r e; obtain ⟨a0, a1, rfl, e1⟩ := u2_some e; exact fn_sound Go.Proofs.Try.func141 rfl rfl rfl Go.Proofs.Try.ntmps141 (Sound.add (Sound.add (Sound.none _) (s_impl_node_text F g)) (s_strings_Compare F g)) ((k_impl_compareTexts F g a0 a1 h).trans e1)

-- "(*loop.example/treenumbers/impl.node).sort"
noncomputable abbrev D_impl_node_sort (F g : Nat) : Env := (Env.add (fun _ _ _ => none : Env) 141 (u2 (c_impl_compareTexts F g)))
noncomputable def c_impl_node_sort_l1 (F g : Nat) (self : AV → H → Option R) : List AV → H → (List AV → H → Option R) → Option R := fun vs h kc5 => (fun x6 x7 x8 x9 => aCmpI ilt x9 x8 h fun x10 h => withBool x10 fun t11 => bc t11 (aIdxAddr 1 x7 x9 h fun x12 h => aLoad x12 h fun x13 h => bindR (self x13 h) fun x14 h => aArith iadd x9 (AV.int 3 (Int.ofNat 1)) h fun x15 h => kc5 [x6, x7, x8, x15] h) (aNilCheck x6 h fun x16 h => aField 2 x16 h fun x17 h => aLoad x17 h fun x18 h => bindR (c_slices_SortFunc_4168 F g (D_impl_node_sort F g) x18 (AV.func (.func 141) (AV.leaf .nil) (AV.leaf .nil)) h) fun x19 h => some (AV.one .tup (AV.leaf .nil), h))) (hd vs) (hd (tl vs)) (hd (tl (tl vs))) (hd (tl (tl (tl vs))))
noncomputable def c_impl_node_sort (F g : Nat) : AV → H → Option R := Nat.rec (motive := fun _ => AV → H → Option R) (fun _ _ => none) (fun g self a0 h => aNilCheck a0 h fun x1 h => aField 2 x1 h fun x2 h => aLoad x2 h fun x3 h => aLenK 1 x3 h fun x4 h => loopD F (c_impl_node_sort_l1 F g self) [a0, x3, x4, (AV.int 3 (Int.ofNat 0))] h) g
noncomputable def A_impl_node_sort : An := (.two (.two .o (.two (.at_ [0, 7, 8, 9] (.two .o (.two (.two .o .o) (.two (.two (.two .o .o) .o) .o))) .o) .o)) .o)
noncomputable def b_impl_node_sort : Code := bodyOf Go.Proofs.Try.f98
theorem k_impl_node_sort (F g : Nat) (a0 : AV) (h : H) : callD Go.Proofs.Try.prog (Env.add (Env.add (D_impl_node_sort F g) 140 (u2 (c_slices_SortFunc_4168 F g (D_impl_node_sort F g)))) 98 (u1 (c_impl_node_sort F g))) 21 F b_impl_node_sort [] A_impl_node_sort [a0] h = c_impl_node_sort F (g + 1) a0 h := by kernel_rfl
theorem s_impl_node_sort (F g : Nat) : ∀ args h r, u1 (c_impl_node_sort F g) args h = some r → Tri Go.Proofs.Try.prog 98 args h r := by
  induction g with
  | zero => intro args h r e; obtain ⟨a0, rfl, e⟩ := u1_some e; cases e
  | succ g ih => intro args h r e; obtain ⟨a0, rfl, e1⟩ := u1_some e; exact fn_sound Go.Proofs.Try.func98 rfl rfl rfl Go.Proofs.Try.ntmps98 (Sound.add (Sound.add (Sound.add (Sound.none _) (s_impl_compareTexts F g)) (s_slices_SortFunc_4168 F g (D_impl_node_sort F g) (Sound.add (Sound.none _) (s_impl_compareTexts F g)))) ih) ((k_impl_node_sort F g a0 h).trans e1)

-- "loop.example/treenumbers/impl.TreeSorted"
noncomputable def c_impl_TreeSorted (F g : Nat) (a0 : AV) (h : H) : Option R := bindR (c_impl_readTree F g a0 h) fun x1 h => aExtract x1 0 h fun x2 h => aExtract x1 1 h fun x3 h => aNot x3 h fun x4 h => withBool x4 fun t5 => bc t5 (some (AV.one .tup (AV.cons (AV.str [] 0) (AV.cons (AV.bool false) (AV.leaf .nil))), h)) (bindR (c_impl_node_sort F g x2 h) fun x6 h => bindR (c_impl_node_text F g x2 h) fun x7 h => some (AV.one .tup (AV.cons x7 (AV.cons (AV.bool true) (AV.leaf .nil))), h))
noncomputable def A_impl_TreeSorted : An := (.two .o (.two .o (.two (.two .o (.two (.two .o .o) .o)) (.two .o (.two .o .o)))))
noncomputable def b_impl_TreeSorted : Code := bodyOf Go.Proofs.Try.f35
theorem k_impl_TreeSorted (F g : Nat) (a0 : AV) (h : H) : callD Go.Proofs.Try.prog (Env.add (Env.add (Env.add (fun _ _ _ => none : Env) 91 (u1 (c_impl_readTree F g))) 98 (u1 (c_impl_node_sort F g))) 93 (u1 (c_impl_node_text F g))) 17 F b_impl_TreeSorted [2, 3] A_impl_TreeSorted [a0] h = c_impl_TreeSorted F g a0 h := by kernel_rfl
theorem s_impl_TreeSorted (F g : Nat) : ∀ args h r, u1 (c_impl_TreeSorted F g) args h = some r → Tri Go.Proofs.Try.prog 35 args h r := by
  intro args h r e; obtain ⟨a0, rfl, e1⟩ := u1_some e; exact fn_sound Go.Proofs.Try.func35 rfl rfl rfl Go.Proofs.Try.ntmps35 (Sound.add (Sound.add (Sound.add (Sound.none _) (s_impl_readTree F g)) (s_impl_node_sort F g)) (s_impl_node_text F g)) ((k_impl_TreeSorted F g a0 h).trans e1)

-- "loop.example/treenumbers/spec.l1End"
noncomputable def c_spec_l1End_j1 (F g : Nat) (kc1 : List AV → H → Option R) (vs : List AV) (h : H) : Option R := (fun x8 x9 x10 => aCmpI ieq x9 (AV.int 3 (Int.ofNat 0)) h fun x11 h => withBool x11 fun t12 => bc t12 (aArith iadd x10 (AV.int 3 (Int.ofNat 1)) h fun x13 h => some (x13, h)) (aCmpI ilt x9 (AV.int 3 (Int.ofNat 0)) h fun x14 h => withBool x14 fun t15 => bc t15 (some ((AV.int 3 (Int.negSucc 0)), h)) (aArith iadd x10 (AV.int 3 (Int.ofNat 1)) h fun x16 h => kc1 [x8, x9, x16] h))) (hd vs) (hd (tl vs)) (hd (tl (tl vs)))
noncomputable def c_spec_l1End_l2 (F g : Nat) : List AV → H → (List AV → H → Option R) → Option R := fun vs h kc1 => (fun x2 x3 x4 => aLenK 0 x2 h fun x5 h => aCmpI ilt x4 x5 h fun x6 h => withBool x6 fun t7 => bc t7 (aIdxStr x2 x4 h fun x17 h => aCmpI ieq x17 (AV.int 4 (Int.ofNat 40)) h fun x18 h => withBool x18 fun t19 => bc t19 (aArith iadd x3 (AV.int 3 (Int.ofNat 1)) h fun x20 h => (c_spec_l1End_j1 F g kc1) [x2, x20, x4] h) (aCmpI ieq x17 (AV.int 4 (Int.ofNat 41)) h fun x21 h => withBool x21 fun t22 => bc t22 (aArith isub x3 (AV.int 3 (Int.ofNat 1)) h fun x23 h => (c_spec_l1End_j1 F g kc1) [x2, x23, x4] h) (some ((AV.int 3 (Int.negSucc 0)), h)))) (some ((AV.int 3 (Int.negSucc 0)), h))) (hd vs) (hd (tl vs)) (hd (tl (tl vs)))
noncomputable def c_spec_l1End (F g : Nat) (a0 a1 : AV) (h : H) : Option R := loopD F (c_spec_l1End_l2 F g) [a0, (AV.int 3 (Int.ofNat 0)), a1] h
noncomputable def A_spec_l1End : An := (.two .o (.two .o (.two (.two .o (.two (.at_ [0, 5, 6] (.two (.two .o (.two .o .o)) (.two (.two (.at_ [0, 5, 6] (.two .o (.two (.two .o (.two .o (.two .o (.two .o (.two .o .o))))) .o)) (.two (.two .o (.two (.two .o .o) .o)) (.two .o (.two (.two .o .o) .o)))) .o) .o)) .o) .o)) (.two .o .o))))
noncomputable def b_spec_l1End : Code := bodyOf Go.Proofs.Try.f92
theorem k_spec_l1End (F g : Nat) (a0 a1 : AV) (h : H) : callD Go.Proofs.Try.prog (fun _ _ _ => none : Env) 31 F b_spec_l1End [4] A_spec_l1End [a0, a1] h = c_spec_l1End F g a0 a1 h := by kernel_rfl
theorem s_spec_l1End (F g : Nat) : ∀ args h r, u2 (c_spec_l1End F g) args h = some r → Tri Go.Proofs.Try.prog 92 args h r := by
  intro args h r e; obtain ⟨a0, a1, rfl, e1⟩ := u2_some e; exact fn_sound Go.Proofs.Try.func92 rfl rfl rfl Go.Proofs.Try.ntmps92 (Sound.none _) ((k_spec_l1End F g a0 a1 h).trans e1)

-- "loop.example/treenumbers/spec.l1Kids"
noncomputable def c_spec_l1Kids_l1 (F g : Nat) : List AV → H → (List AV → H → Option R) → Option R := fun vs h kc2 => (fun x3 x4 x5 => aLenK 0 x3 h fun x6 h => aArith isub x6 (AV.int 3 (Int.ofNat 1)) h fun x7 h => aCmpI ilt x5 x7 h fun x8 h => withBool x8 fun t9 => bc t9 (bindR (c_spec_l1End F g x3 x5 h) fun x10 h => aSliceS x3 (some x5) (some x10) none h fun x11 h => aBuildSlice 1 1 [(0, 1, x11)] h fun x12 h => aAppend 1 16 x4 x12 h fun x13 h => kc2 [x3, x13, x10] h) (some (x4, h))) (hd vs) (hd (tl vs)) (hd (tl (tl vs)))
noncomputable def c_spec_l1Kids (F g : Nat) (a0 : AV) (h : H) : Option R := aBuildSlice 0 1 [] h fun x1 h => loopD F (c_spec_l1Kids_l1 F g) [a0, x1, (AV.int 3 (Int.ofNat 1))] h
noncomputable def A_spec_l1Kids : An := (.two .o (.two .o (.two .o (.two (.two (.at_ [0, 3, 4] (.two (.two .o (.two .o .o)) (.two (.two .o (.two .o .o)) .o)) .o) .o) (.two .o .o)))))
noncomputable def b_spec_l1Kids : Code := bodyOf Go.Proofs.Try.f102
theorem k_spec_l1Kids (F g : Nat) (a0 : AV) (h : H) : callD Go.Proofs.Try.prog (Env.add (fun _ _ _ => none : Env) 92 (u2 (c_spec_l1End F g))) 24 F b_spec_l1Kids [2] A_spec_l1Kids [a0] h = c_spec_l1Kids F g a0 h := by kernel_rfl
theorem s_spec_l1Kids (F g : Nat) : ∀ args h r, u1 (c_spec_l1Kids F g) args h = some r → Tri Go.Proofs.Try.prog 102 args h r := by
  intro args h r e; obtain ⟨a0, rfl, e1⟩ := u1_some e; exact fn_sound Go.Proofs.Try.func102 rfl rfl rfl Go.Proofs.Try.ntmps102 (Sound.add (Sound.none _) (s_spec_l1End F g)) ((k_spec_l1Kids F g a0 h).trans e1)

-- "loop.example/treenumbers/spec.l1Of"
noncomputable def c_spec_l1Of_l1 (F g : Nat) : List AV → H → (List AV → H → Option R) → Option R := fun vs h kc1 => (fun x2 x3 x4 => aLenK 1 x2 h fun x5 h => aCmpI ilt x4 x5 h fun x6 h => withBool x6 fun t7 => bc t7 (aIdxAddr 1 x2 x4 h fun x8 h => aLoad x8 h fun x9 h => aSAdd x3 x9 h fun x10 h => aArith iadd x4 (AV.int 3 (Int.ofNat 1)) h fun x11 h => kc1 [x2, x10, x11] h) (aSAdd x3 (AV.str [41] 1) h fun x12 h => some (x12, h))) (hd vs) (hd (tl vs)) (hd (tl (tl vs)))
noncomputable def c_spec_l1Of (F g : Nat) (a0 : AV) (h : H) : Option R := loopD F (c_spec_l1Of_l1 F g) [a0, (AV.str [40] 1), (AV.int 3 (Int.ofNat 0))] h
noncomputable def A_spec_l1Of : An := (.two .o (.two .o (.two (.two .o (.two (.at_ [0, 3, 4] (.two (.two .o (.two .o .o)) (.two (.two .o .o) .o)) .o) .o)) (.two .o .o))))
noncomputable def b_spec_l1Of : Code := bodyOf Go.Proofs.Try.f107
theorem k_spec_l1Of (F g : Nat) (a0 : AV) (h : H) : callD Go.Proofs.Try.prog (fun _ _ _ => none : Env) 19 F b_spec_l1Of [2] A_spec_l1Of [a0] h = c_spec_l1Of F g a0 h := by kernel_rfl
theorem s_spec_l1Of (F g : Nat) : ∀ args h r, u1 (c_spec_l1Of F g) args h = some r → Tri Go.Proofs.Try.prog 107 args h r := by
  intro args h r e; obtain ⟨a0, rfl, e1⟩ := u1_some e; exact fn_sound Go.Proofs.Try.func107 rfl rfl rfl Go.Proofs.Try.ntmps107 (Sound.none _) ((k_spec_l1Of F g a0 h).trans e1)

-- "loop.example/treenumbers/spec.l1Sorted"
noncomputable def c_spec_l1Sorted_j1 (F g : Nat) (kc3 : List AV → H → Option R) (kc14 : List AV → H → Option R) (vs : List AV) (h : H) : Option R := (fun x21 x22 x23 x24 x25 x26 x27 => aPick x26 x27 (AV.bool false) h fun x28 h => withBool x28 fun t29 => bc t29 (aArith isub x25 (AV.int 3 (Int.ofNat 1)) h fun x30 h => kc14 [x21, x22, x23, x24, x30] h) (aBuildSlice 0 1 [] h fun x31 h => aSliceV 1 x22 none (some x25) none h fun x32 _ => aAppend 1 16 x31 x32 h fun x33 h => aBuildSlice 1 1 [(0, 1, x24)] h fun x34 h => aAppend 1 16 x33 x34 h fun x35 h => aSliceV 1 x22 (some x25) none none h fun x36 _ => aAppend 1 16 x35 x36 h fun x37 h => aArith iadd x23 (AV.int 3 (Int.ofNat 1)) h fun x38 h => kc3 [x21, x37, x38] h)) (hd vs) (hd (tl vs)) (hd (tl (tl vs))) (hd (tl (tl (tl vs)))) (hd (tl (tl (tl (tl vs))))) (hd (tl (tl (tl (tl (tl vs)))))) (hd (tl (tl (tl (tl (tl (tl vs)))))))
noncomputable def c_spec_l1Sorted_l2 (F g : Nat) (kc3 : List AV → H → Option R) : List AV → H → (List AV → H → Option R) → Option R := fun vs h kc14 => (fun x15 x16 x17 x18 x19 => aCmpI (fun a b => ilt b a) x19 (AV.int 3 (Int.ofNat 0)) h fun x20 h => guardB true x20 (aArith isub x19 (AV.int 3 (Int.ofNat 1)) h fun x39 h => aIdxAddr 1 x16 x39 h fun x40 h => aLoad x40 h fun x41 h => aCmpS ltL x18 x41 h fun x42 h => (c_spec_l1Sorted_j1 F g kc3 kc14) [x15, x16, x17, x18, x19, x20, x42] h) ((c_spec_l1Sorted_j1 F g kc3 kc14) [x15, x16, x17, x18, x19, x20, (AV.one .tup (AV.leaf .nil))] h)) (hd vs) (hd (tl vs)) (hd (tl (tl vs))) (hd (tl (tl (tl vs)))) (hd (tl (tl (tl (tl vs)))))
noncomputable def c_spec_l1Sorted_l3 (F g : Nat) (self : AV → H → Option R) : List AV → H → (List AV → H → Option R) → Option R := fun vs h kc3 => (fun x4 x5 x6 => aLenK 1 x4 h fun x7 h => aCmpI ilt x6 x7 h fun x8 h => withBool x8 fun t9 => bc t9 (aIdxAddr 1 x4 x6 h fun x10 h => aLoad x10 h fun x11 h => bindR (self x11 h) fun x12 h => aLenK 1 x5 h fun x13 h => loopD F (c_spec_l1Sorted_l2 F g kc3) [x4, x5, x6, x12, x13] h) (bindR (c_spec_l1Of F g x5 h) fun x43 h => some (x43, h))) (hd vs) (hd (tl vs)) (hd (tl (tl vs)))
noncomputable def c_spec_l1Sorted (F g : Nat) : AV → H → Option R := Nat.rec (motive := fun _ => AV → H → Option R) (fun _ _ => none) (fun g self a0 h => bindR (c_spec_l1Kids F g a0 h) fun x1 h => aBuildSlice 0 1 [] h fun x2 h => loopD F (c_spec_l1Sorted_l3 F g self) [x1, x2, (AV.int 3 (Int.ofNat 0))] h) g
noncomputable def A_spec_l1Sorted : An := (.two .o (.two .o (.two .o (.two (.two .o (.two (.at_ [3, 4, 5] (.two (.two .o (.two .o .o)) (.two (.two (.two .o (.two .o (.two (.two (.at_ [3, 4, 5, 6, 7] (.two (.two (.at_ [3, 4, 5, 6, 7, 26, 33] .o .o) (.two .o .o)) (.two .o .o)) .o) .o) .o))) .o) .o)) .o) .o)) (.two .o .o)))))
noncomputable def b_spec_l1Sorted : Code := bodyOf Go.Proofs.Try.f108
theorem k_spec_l1Sorted (F g : Nat) (a0 : AV) (h : H) : callD Go.Proofs.Try.prog (Env.add (Env.add (Env.add (fun _ _ _ => none : Env) 102 (u1 (c_spec_l1Kids F g))) 107 (u1 (c_spec_l1Of F g))) 108 (u1 (c_spec_l1Sorted F g))) 51 F b_spec_l1Sorted [2] A_spec_l1Sorted [a0] h = c_spec_l1Sorted F (g + 1) a0 h := by kernel_rfl
theorem s_spec_l1Sorted (F g : Nat) : ∀ args h r, u1 (c_spec_l1Sorted F g) args h = some r → Tri Go.Proofs.Try.prog 108 args h r := by
  induction g with
  | zero => intro args h r e; obtain ⟨a0, rfl, e⟩ := u1_some e; cases e
  | succ g ih => intro args h r e; obtain ⟨a0, rfl, e1⟩ := u1_some e; exact fn_sound Go.Proofs.Try.func108 rfl rfl rfl Go.Proofs.Try.ntmps108 (Sound.add (Sound.add (Sound.add (Sound.none _) (s_spec_l1Kids F g)) (s_spec_l1Of F g)) ih) ((k_spec_l1Sorted F g a0 h).trans e1)

-- "loop.example/treenumbers/spec.TreeSorted"
noncomputable def c_spec_TreeSorted (F g : Nat) (a0 : AV) (h : H) : Option R := bindR (c_spec_TreeIn F g a0 h) fun x1 h => aNot x1 h fun x2 h => withBool x2 fun t3 => bc t3 (some (AV.one .tup (AV.cons (AV.str [] 0) (AV.cons (AV.bool false) (AV.leaf .nil))), h)) (bindR (c_spec_l1Sorted F g a0 h) fun x4 h => some (AV.one .tup (AV.cons x4 (AV.cons (AV.bool true) (AV.leaf .nil))), h))
noncomputable def A_spec_TreeSorted : An := (.two .o (.two (.two .o (.two (.two .o .o) .o)) (.two .o .o)))
noncomputable def b_spec_TreeSorted : Code := bodyOf Go.Proofs.Try.f49
theorem k_spec_TreeSorted (F g : Nat) (a0 : AV) (h : H) : callD Go.Proofs.Try.prog (Env.add (Env.add (fun _ _ _ => none : Env) 25 (u1 (c_spec_TreeIn F g))) 108 (u1 (c_spec_l1Sorted F g))) 9 F b_spec_TreeSorted [2, 3] A_spec_TreeSorted [a0] h = c_spec_TreeSorted F g a0 h := by kernel_rfl
theorem s_spec_TreeSorted (F g : Nat) : ∀ args h r, u1 (c_spec_TreeSorted F g) args h = some r → Tri Go.Proofs.Try.prog 49 args h r := by
  intro args h r e; obtain ⟨a0, rfl, e1⟩ := u1_some e; exact fn_sound Go.Proofs.Try.func49 rfl rfl rfl Go.Proofs.Try.ntmps49 (Sound.add (Sound.add (Sound.none _) (s_spec_TreeIn F g)) (s_spec_l1Sorted F g)) ((k_spec_TreeSorted F g a0 h).trans e1)

-- "loop.example/treenumbers/impl.TreeChildren"
noncomputable def c_impl_TreeChildren_l1 (F g : Nat) : List AV → H → (List AV → H → Option R) → Option R := fun vs h kc11 => (fun x12 x13 x14 x15 => aCmpI ilt x15 x14 h fun x16 h => withBool x16 fun t17 => bc t17 (aIdxAddr 1 x13 x15 h fun x18 h => aLoad x18 h fun x19 h => bindR (c_impl_node_text F g x19 h) fun x20 h => aBuildSlice 1 1 [(0, 1, x20)] h fun x21 h => aAppend 1 16 x12 x21 h fun x22 h => aArith iadd x15 (AV.int 3 (Int.ofNat 1)) h fun x23 h => kc11 [x22, x13, x14, x23] h) (some (AV.one .tup (AV.cons x12 (AV.cons (AV.bool true) (AV.leaf .nil))), h))) (hd vs) (hd (tl vs)) (hd (tl (tl vs))) (hd (tl (tl (tl vs))))
noncomputable def c_impl_TreeChildren (F g : Nat) (a0 : AV) (h : H) : Option R := bindR (c_impl_readTree F g a0 h) fun x1 h => aExtract x1 0 h fun x2 h => aExtract x1 1 h fun x3 h => aNot x3 h fun x4 h => withBool x4 fun t5 => bc t5 (some (AV.one .tup (AV.cons (AV.leaf .nils) (AV.cons (AV.bool false) (AV.leaf .nil))), h)) (aBuildSlice 0 1 [] h fun x6 h => aNilCheck x2 h fun x7 h => aField 2 x7 h fun x8 h => aLoad x8 h fun x9 h => aLenK 1 x9 h fun x10 h => loopD F (c_impl_TreeChildren_l1 F g) [x6, x9, x10, (AV.int 3 (Int.ofNat 0))] h)
noncomputable def A_impl_TreeChildren : An := (.two .o (.two .o (.two (.two .o (.two (.two .o .o) .o)) (.two .o (.two (.two .o (.two (.at_ [6, 20, 21, 22] (.two .o (.two (.two .o .o) (.two (.two (.two .o .o) .o) .o))) .o) .o)) (.two .o .o))))))
noncomputable def b_impl_TreeChildren : Code := bodyOf Go.Proofs.Try.f26
theorem k_impl_TreeChildren (F g : Nat) (a0 : AV) (h : H) : callD Go.Proofs.Try.prog (Env.add (Env.add (fun _ _ _ => none : Env) 91 (u1 (c_impl_readTree F g))) 93 (u1 (c_impl_node_text F g))) 33 F b_impl_TreeChildren [2, 3] A_impl_TreeChildren [a0] h = c_impl_TreeChildren F g a0 h := by kernel_rfl
theorem s_impl_TreeChildren (F g : Nat) : ∀ args h r, u1 (c_impl_TreeChildren F g) args h = some r → Tri Go.Proofs.Try.prog 26 args h r := by
  intro args h r e; obtain ⟨a0, rfl, e1⟩ := u1_some e; exact fn_sound Go.Proofs.Try.func26 rfl rfl rfl Go.Proofs.Try.ntmps26 (Sound.add (Sound.add (Sound.none _) (s_impl_readTree F g)) (s_impl_node_text F g)) ((k_impl_TreeChildren F g a0 h).trans e1)

-- "loop.example/treenumbers/impl.TreeAlike"
noncomputable def c_impl_TreeAlike_j1 (F g : Nat) (vs : List AV) (h : H) : Option R := (fun x12 x13 => aPick x12 x13 (AV.bool false) h fun x14 h => some (x14, h)) (hd vs) (hd (tl vs))
noncomputable def c_impl_TreeAlike_j2 (F g : Nat) (vs : List AV) (h : H) : Option R := (fun x7 x8 x9 x10 => aPick x9 x10 (AV.bool false) h fun x11 h => guardB true x11 (aCmpS eqL x7 x8 h fun x15 h => (c_impl_TreeAlike_j1 F g) [x11, x15] h) ((c_impl_TreeAlike_j1 F g) [x11, (AV.one .tup (AV.leaf .nil))] h)) (hd vs) (hd (tl vs)) (hd (tl (tl vs))) (hd (tl (tl (tl vs))))
noncomputable def c_impl_TreeAlike (F g : Nat) (a0 a1 : AV) (h : H) : Option R := bindR (c_impl_TreeSorted F g a0 h) fun x1 h => aExtract x1 0 h fun x2 h => aExtract x1 1 h fun x3 h => bindR (c_impl_TreeSorted F g a1 h) fun x4 h => aExtract x4 0 h fun x5 h => aExtract x4 1 h fun x6 h => guardB true x3 ((c_impl_TreeAlike_j2 F g) [x2, x5, x3, x6] h) ((c_impl_TreeAlike_j2 F g) [x2, x5, x3, (AV.one .tup (AV.leaf .nil))] h)
noncomputable def A_impl_TreeAlike : An := (.two .o (.two .o (.two .o (.two (.at_ [5, 7, 20, 21] .o (.at_ [23, 26] .o .o)) .o))))
noncomputable def b_impl_TreeAlike : Code := bodyOf Go.Proofs.Try.f47
theorem k_impl_TreeAlike (F g : Nat) (a0 a1 : AV) (h : H) : callD Go.Proofs.Try.prog (Env.add (fun _ _ _ => none : Env) 35 (u1 (c_impl_TreeSorted F g))) 28 F b_impl_TreeAlike [4] A_impl_TreeAlike [a0, a1] h = c_impl_TreeAlike F g a0 a1 h := by kernel_rfl
theorem s_impl_TreeAlike (F g : Nat) : ∀ args h r, u2 (c_impl_TreeAlike F g) args h = some r → Tri Go.Proofs.Try.prog 47 args h r := by
  intro args h r e; obtain ⟨a0, a1, rfl, e1⟩ := u2_some e; exact fn_sound Go.Proofs.Try.func47 rfl rfl rfl Go.Proofs.Try.ntmps47 (Sound.add (Sound.none _) (s_impl_TreeSorted F g)) ((k_impl_TreeAlike F g a0 a1 h).trans e1)

-- "loop.example/treenumbers/laws.FnSorted"
noncomputable def c_laws_FnSorted_j1 (F g : Nat) (vs : List AV) (h : H) : Option R := (fun x30 x31 => aPick x30 x31 (AV.bool false) h fun x32 h => some (x32, h)) (hd vs) (hd (tl vs))
noncomputable def c_laws_FnSorted_j2 (F g : Nat) (vs : List AV) (h : H) : Option R := (fun x70 x71 => aPick x70 x71 (AV.bool false) h fun x72 h => some (x72, h)) (hd vs) (hd (tl vs))
noncomputable def c_laws_FnSorted_j3 (F g : Nat) (vs : List AV) (h : H) : Option R := (fun x65 x66 x67 x68 => aPick x67 x68 (AV.bool false) h fun x69 h => guardB true x69 (bindR (c_impl_TreeAlike F g x65 x66 h) fun x73 h => (c_laws_FnSorted_j2 F g) [x69, x73] h) ((c_laws_FnSorted_j2 F g) [x69, (AV.one .tup (AV.leaf .nil))] h)) (hd vs) (hd (tl vs)) (hd (tl (tl vs))) (hd (tl (tl (tl vs))))
noncomputable def c_laws_FnSorted_j4 (F g : Nat) (vs : List AV) (h : H) : Option R := (fun x59 x60 x61 x62 x63 => aPick x62 x63 (AV.bool false) h fun x64 h => guardB true x64 (aCmpS eqL x61 x60 h fun x74 h => (c_laws_FnSorted_j3 F g) [x59, x60, x64, x74] h) ((c_laws_FnSorted_j3 F g) [x59, x60, x64, (AV.one .tup (AV.leaf .nil))] h)) (hd vs) (hd (tl vs)) (hd (tl (tl vs))) (hd (tl (tl (tl vs)))) (hd (tl (tl (tl (tl vs)))))
noncomputable def c_laws_FnSorted_l5 (F g : Nat) : List AV → H → (List AV → H → Option R) → Option R := fun vs h kc40 => (fun x41 x42 x43 x44 x45 x46 x47 => aLenK 1 x45 h fun x48 h => aCmpI ilt x47 x48 h fun x49 h => withBool x49 fun t50 => bc t50 (aIdxAddr 1 x45 x47 h fun x51 _ => aLoad x51 h fun x52 _ => aArith isub x47 (AV.int 3 (Int.ofNat 1)) h fun x53 _ => aIdxAddr 1 x45 x53 h fun x54 _ => aLoad x54 h fun x55 _ => aCmpS ltL x52 x55 h fun x56 _ => withBool x56 fun t57 => bc t57 (some ((AV.bool false), h)) (aArith iadd x47 (AV.int 3 (Int.ofNat 1)) h fun x58 h => kc40 [x41, x42, x43, x44, x45, x46, x58] h)) (guardB true x44 ((c_laws_FnSorted_j4 F g) [x41, x42, x43, x44, x46] h) ((c_laws_FnSorted_j4 F g) [x41, x42, x43, x44, (AV.one .tup (AV.leaf .nil))] h))) (hd vs) (hd (tl vs)) (hd (tl (tl vs))) (hd (tl (tl (tl vs)))) (hd (tl (tl (tl (tl vs))))) (hd (tl (tl (tl (tl (tl vs)))))) (hd (tl (tl (tl (tl (tl (tl vs)))))))
noncomputable def c_laws_FnSorted_j6 (F g : Nat) (vs : List AV) (h : H) : Option R := (fun x20 x21 x22 x23 x24 x25 x26 => aPick x25 (AV.bool true) x26 h fun x27 h => withBool x27 fun t28 => bc t28 (aEq false 0 x22 x24 h fun x29 h => guardB true x29 (aCmpS eqL x21 x23 h fun x33 h => (c_laws_FnSorted_j1 F g) [x29, x33] h) ((c_laws_FnSorted_j1 F g) [x29, (AV.one .tup (AV.leaf .nil))] h)) (bindR (c_impl_TreeSorted F g x21 h) fun x34 h => aExtract x34 0 h fun x35 h => aExtract x34 1 h fun x36 h => bindR (c_impl_TreeChildren F g x21 h) fun x37 h => aExtract x37 0 h fun x38 h => aExtract x37 1 h fun x39 h => loopD F (c_laws_FnSorted_l5 F g) [x20, x21, x35, x36, x38, x39, (AV.int 3 (Int.ofNat 1))] h)) (hd vs) (hd (tl vs)) (hd (tl (tl vs))) (hd (tl (tl (tl vs)))) (hd (tl (tl (tl (tl vs))))) (hd (tl (tl (tl (tl (tl vs)))))) (hd (tl (tl (tl (tl (tl (tl vs)))))))
noncomputable def c_laws_FnSorted_j7 (F g : Nat) (vs : List AV) (h : H) : Option R := (fun x12 x13 x14 x15 x16 x17 x18 => aPick x17 (AV.bool true) x18 h fun x19 h => guardB false x19 (aNot x14 h fun x75 h => (c_laws_FnSorted_j6 F g) [x12, x13, x14, x15, x16, x19, x75] h) ((c_laws_FnSorted_j6 F g) [x12, x13, x14, x15, x16, x19, (AV.one .tup (AV.leaf .nil))] h)) (hd vs) (hd (tl vs)) (hd (tl (tl vs))) (hd (tl (tl (tl vs)))) (hd (tl (tl (tl (tl vs))))) (hd (tl (tl (tl (tl (tl vs)))))) (hd (tl (tl (tl (tl (tl (tl vs)))))))
noncomputable def c_laws_FnSorted_r8 (F g : Nat) (x4 : AV) (h : H) : Option R := bindR (c_impl_TreeSorted F g x4 h) fun x5 h => aExtract x5 0 h fun x6 h => aExtract x5 1 h fun x7 h => bindR (c_spec_TreeSorted F g x4 h) fun x8 h => aExtract x8 0 h fun x9 h => aExtract x8 1 h fun x10 h => aEq true 0 x7 x10 h fun x11 h => guardB false x11 (aCmpS (fun a b => bnot (eqL a b)) x6 x9 h fun x76 h => (c_laws_FnSorted_j7 F g) [x4, x6, x7, x9, x10, x11, x76] h) ((c_laws_FnSorted_j7 F g) [x4, x6, x7, x9, x10, x11, (AV.one .tup (AV.leaf .nil))] h)
noncomputable def c_laws_FnSorted (F g : Nat) (a0 : AV) (h : H) : Option R := aLenK 1 a0 h fun x1 h => aCmpI (fun a b => ilt b a) x1 (AV.int 3 (Int.ofNat 1048576)) h fun x2 h => withBool x2 fun t3 => bc t3 (some ((AV.bool true), h)) (bindR (c_spec_DrawTreeSorted F g a0 h) fun x4 h => c_laws_FnSorted_r8 F g x4 h)
noncomputable def A_laws_FnSorted : An := (.two .o (.two (.two .o (.two (.two .o .o) .o)) (.two .o (.two .o (.two .o (.two (.two (.at_ [3, 4, 5, 6, 7, 31, 34] .o (.at_ [3, 4, 5, 6, 7, 36, 38] .o .o)) (.two (.two (.at_ [43, 46] .o .o) .o) .o)) (.two .o (.two .o (.two (.two .o (.two (.at_ [3, 4, 8, 9, 10, 11, 12] (.two (.two .o (.two .o .o)) (.two (.two (.two .o (.two (.two .o .o) .o)) .o) .o)) .o) .o)) (.two (.at_ [3, 4, 8, 75, 76] .o (.at_ [3, 4, 78, 81] .o (.at_ [83, 86] .o .o))) .o))))))))))
noncomputable def b_laws_FnSorted : Code := bodyOf Go.Proofs.Try.f10
theorem k_laws_FnSorted (F g : Nat) (a0 : AV) (h : H) : callD Go.Proofs.Try.prog (Env.add (Env.add (Env.add (Env.add (Env.add (fun _ _ _ => none : Env) 48 (u1 (c_spec_DrawTreeSorted F g))) 35 (u1 (c_impl_TreeSorted F g))) 49 (u1 (c_spec_TreeSorted F g))) 26 (u1 (c_impl_TreeChildren F g))) 47 (u2 (c_impl_TreeAlike F g))) 88 F b_laws_FnSorted [2] A_laws_FnSorted [a0] h = c_laws_FnSorted F g a0 h := by kernel_rfl
theorem s_laws_FnSorted (F g : Nat) : ∀ args h r, u1 (c_laws_FnSorted F g) args h = some r → Tri Go.Proofs.Try.prog 10 args h r := by
  intro args h r e; obtain ⟨a0, rfl, e1⟩ := u1_some e; exact fn_sound Go.Proofs.Try.func10 rfl rfl rfl Go.Proofs.Try.ntmps10 (Sound.add (Sound.add (Sound.add (Sound.add (Sound.add (Sound.none _) (s_spec_DrawTreeSorted F g)) (s_impl_TreeSorted F g)) (s_spec_TreeSorted F g)) (s_impl_TreeChildren F g)) (s_impl_TreeAlike F g)) ((k_laws_FnSorted F g a0 h).trans e1)

end
end Go.AI.T
