/- The functions that the law FnFreeMost reaches, as the evaluator reads them. -/
import Derived.Test.YtjnmogmddhichaaRaw
import Derived.Test.YtjnmogmddhichaaBkm
import Derived.Test.YtjnmogmddhichaaProg
import Derived.KernelRfl
namespace Go.AI
open Go Go.RowKit Go.AI
set_option linter.unusedVariables false
set_option linter.unusedSimpArgs false
set_option maxRecDepth 100000
noncomputable section
-- "loop.example/treenumbers/spec.DrawCutFree"
noncomputable def c_spec_DrawCutFree (F g : Nat) (a0 : AV) (h : H) : Option R := bindR (c_spec_l91Some F g a0 h) fun x1 h => some (x1, h)
noncomputable def A_spec_DrawCutFree : An := (.two .o (.two .o .o))
noncomputable def b_spec_DrawCutFree : Code := bodyOf Go.Proofs.Try.f8
theorem k_spec_DrawCutFree (F g : Nat) (a0 : AV) (h : H) : callD Go.Proofs.Try.prog (Env.add (fun _ _ _ => none : Env) 21 (u1 (c_spec_l91Some F g))) 5 F b_spec_DrawCutFree [2] A_spec_DrawCutFree [a0] h = c_spec_DrawCutFree F g a0 h := by kernel_rfl
theorem s_spec_DrawCutFree (F g : Nat) : ∀ args h r, u1 (c_spec_DrawCutFree F g) args h = some r → Tri Go.Proofs.Try.prog 8 args h r := by
  intro args h r e; obtain ⟨a0, rfl, e1⟩ := u1_some e; exact fn_sound Go.Proofs.Try.func8 rfl rfl rfl Go.Proofs.Try.ntmps8 (Sound.add (Sound.none _) (s_spec_l91Some F g)) ((k_spec_DrawCutFree F g a0 h).trans e1)

end
end Go.AI
namespace Go.AI.T
open Go Go.RowKit Go.AI
set_option linter.unusedVariables false
set_option linter.unusedSimpArgs false
set_option maxRecDepth 100000
noncomputable section
def c_spec_DrawCutFree (F g : Nat) (a0 : AV) (h : H) : Option R := quietC (Go.AI.c_spec_DrawCutFree 20000 20) a0 h
theorem s_spec_DrawCutFree (F g : Nat) : ∀ args h r, u1 (c_spec_DrawCutFree F g) args h = some r → Tri Go.Proofs.Try.prog id_spec_DrawCutFree args h r := quietC_sound (Go.AI.s_spec_DrawCutFree 20000 20)
theorem draw_FnFreeMost (F g : Nat) {a0 : AV} {n : Nat} {L : List AV} {B : Blk} (ha : (a0 = .leaf .nils ∧ n = 0) ∨ a0 = .osl 0 0 n 1) (hB : 0 < n → B = .cells 2 L) (hb : ∀ i, i < n → ∃ v, L[i]? = some (.int 4 (.ofNat v)) ∧ v < 256) :
    ∃ l, (l.length ≤ 300 ∧ (isTree l = true → l.length ≤ 16)) ∧ c_spec_DrawCutFree F g a0 (hCode B) = some (.str l l.length, hCode B) := by
  obtain ⟨l, h', hl, e, hlo⟩ := some_ok (F := 20000) (g := 20) (h := hCode B) (by omega) ha (fun hn => ⟨2, hB hn⟩) hb (Nat.le_refl _) (Nat.le_refl _)
  refine ⟨l, hl, quietC_ok (h' := h') ?_ rfl hlo⟩
  show bindR (Go.AI.c_spec_l91Some 20000 20 a0 (hCode B)) _ = _
  rw [e]; rfl
end
end Go.AI.T
namespace Go.AI.T
open Go Go.RowKit Go.AI
set_option linter.unusedVariables false
set_option linter.unusedSimpArgs false
set_option maxRecDepth 100000
noncomputable section
-- "loop.example/treenumbers/impl.freeSets[int]"
noncomputable abbrev D_impl_freeSets_46f8 (F g : Nat) (E : Env) : Env := E
noncomputable abbrev G_impl_freeSets_46f8 (F g : Nat) (E : Env) (self : AV → AV → AV → AV → H → Option R) : Env := (Env.add (D_impl_freeSets_46f8 F g E) 46 (u4 self))
noncomputable def c_impl_freeSets_46f8_l1 (F g : Nat) (E : Env) (self : AV → AV → AV → AV → H → Option R) : List AV → H → (List AV → H → Option R) → Option R := fun vs h kc10 => (fun x11 x12 x13 x14 x15 x16 x17 x18 => aCmpI ilt x18 x17 h fun x19 h => withBool x19 fun t20 => bc t20 (aIdxAddr 1 x16 x18 h fun x21 h => aLoad x21 h fun x22 h => aLoadN 2 x13 h fun x23 h => bindR (self x22 x23 x11 x12 h) fun x24 h => aAlloc [(AV.int 3 (Int.ofNat 0)), (AV.int 3 (Int.ofNat 0))] h fun x25 h => aStoreN 2 x25 x24 h fun x26 h => aField 0 x15 h fun x27 h => aLoad x27 h fun x28 h => aField 1 x25 h fun x29 h => aLoad x29 h fun x30 h => dCall (G_impl_freeSets_46f8 F g E self) x11 [x28, x30] h fun x31 h => aField 0 x15 h fun x32 h => aStore x32 x31 h fun x33 h => aField 1 x15 h fun x34 _ => aLoad x34 h fun x35 _ => aField 0 x25 h fun x36 _ => aLoad x36 h fun x37 _ => aField 1 x25 h fun x38 _ => aLoad x38 h fun x39 _ => dCallF (G_impl_freeSets_46f8 F g E self) x12 [x37, x39] h fun x40 _ => dCallF (G_impl_freeSets_46f8 F g E self) x11 [x35, x40] h fun x41 _ => aField 1 x15 h fun x42 _ => aStore x42 x41 h fun x43 h => aArith iadd x18 (AV.int 3 (Int.ofNat 1)) h fun x44 h => kc10 [x11, x12, x13, x14, x15, x16, x17, x44] h) (aLoadN 2 x15 h fun x45 h => aStoreN 2 x14 x45 h fun x46 h => aLoadN 2 x14 h (fun x h => some (x, h)))) (hd vs) (hd (tl vs)) (hd (tl (tl vs))) (hd (tl (tl (tl vs)))) (hd (tl (tl (tl (tl vs))))) (hd (tl (tl (tl (tl (tl vs)))))) (hd (tl (tl (tl (tl (tl (tl vs))))))) (hd (tl (tl (tl (tl (tl (tl (tl vs))))))))
noncomputable def c_impl_freeSets_46f8 (F g : Nat) (E : Env) : AV → AV → AV → AV → H → Option R := Nat.rec (motive := fun _ => AV → AV → AV → AV → H → Option R) (fun _ _ _ _ _ => none) (fun g self a0 a1 a2 a3 h => aBox a1 h fun x1 h => aAlloc [(AV.int 3 (Int.ofNat 0)), (AV.int 3 (Int.ofNat 0))] h fun x2 h => aLoadN 2 x1 h fun x3 h => aAlloc [(AV.int 3 (Int.ofNat 0)), (AV.int 3 (Int.ofNat 0))] h fun x4 h => aStoreN 2 x4 x3 h fun x5 h => aNilCheck a0 h fun x6 h => aField 2 x6 h fun x7 h => aLoad x7 h fun x8 h => aLenK 1 x8 h fun x9 h => loopD F (c_impl_freeSets_46f8_l1 F g E self) [a2, a3, x1, x2, x4, x8, x9, (AV.int 3 (Int.ofNat 0))] h) g
noncomputable def A_impl_freeSets_46f8 : An := (.two .o (.two .o (.two (.two .o (.two (.at_ [2, 3, 5, 8, 9, 17, 18, 19] (.two .o (.two (.two .o .o) (.two (.two (.two .o (.two .o (.two .o .o))) .o) .o))) .o) .o)) (.two .o .o))))
noncomputable def b_impl_freeSets_46f8 : Code := bodyOf Go.Proofs.Try.f46
theorem k_impl_freeSets_46f8 (F g : Nat) (E : Env) (a0 a1 a2 a3 : AV) (h : H) : callC Go.Proofs.Try.prog (G_impl_freeSets_46f8 F g E (c_impl_freeSets_46f8 F g E)) 48 F b_impl_freeSets_46f8 8 36 A_impl_freeSets_46f8 [a0, a1, a2, a3] h = c_impl_freeSets_46f8 F (g + 1) E a0 a1 a2 a3 h := by kernel_rfl
theorem s_impl_freeSets_46f8 (F g : Nat) (E : Env) (hE : Sound Go.Proofs.Try.prog E) : ∀ args h r, u4 (c_impl_freeSets_46f8 F g E) args h = some r → Tri Go.Proofs.Try.prog 46 args h r := by
  induction g with
  | zero => intro args h r e; obtain ⟨a0, a1, a2, a3, rfl, e⟩ := u4_some e; cases e
  | succ g ih => intro args h r e; obtain ⟨a0, a1, a2, a3, rfl, e1⟩ := u4_some e; exact fn_sound_c Go.Proofs.Try.func46 rfl rfl rfl Go.Proofs.Try.ntmps46 (Sound.add hE ih) ((k_impl_freeSets_46f8 F g E a0 a1 a2 a3 h).trans e1)

-- "loop.example/treenumbers/impl.freeIn[int]"
noncomputable abbrev D_impl_freeIn_46f8 (F g : Nat) (E : Env) : Env := E
noncomputable abbrev G_impl_freeIn_46f8 (F g : Nat) (E : Env) : Env := (Env.add (Env.add (D_impl_freeIn_46f8 F g E) 27 (u1 (c_impl_readTree F g))) 46 (u4 (c_impl_freeSets_46f8 F g (D_impl_freeIn_46f8 F g E))))
noncomputable def c_impl_freeIn_46f8 (F g : Nat) (E : Env) (a0 a1 a2 a3 : AV) (h : H) : Option R := aBox a1 h fun x1 h => bindR (c_impl_readTree F g a0 h) fun x2 h => aExtract x2 0 h fun x3 h => aExtract x2 1 h fun x4 h => aNot x4 h fun x5 h => withBool x5 fun t6 => bc t6 (some (AV.one .tup (AV.cons (AV.int 3 (Int.ofNat 0)) (AV.cons (AV.bool false) (AV.leaf .nil))), h)) (aLoadN 2 x1 h fun x7 h => bindR (c_impl_freeSets_46f8 F g (D_impl_freeIn_46f8 F g E) x3 x7 a2 a3 h) fun x8 h => aAlloc [(AV.int 3 (Int.ofNat 0)), (AV.int 3 (Int.ofNat 0))] h fun x9 h => aStoreN 2 x9 x8 h fun x10 h => aField 0 x9 h fun x11 h => aLoad x11 h fun x12 h => aField 1 x9 h fun x13 h => aLoad x13 h fun x14 h => dCall (G_impl_freeIn_46f8 F g E) a3 [x12, x14] h fun x15 h => some (AV.one .tup (AV.cons x15 (AV.cons (AV.bool true) (AV.leaf .nil))), h))
noncomputable def A_impl_freeIn_46f8 : An := (.two .o (.two .o (.two (.two .o (.two (.two .o (.two .o .o)) .o)) (.two .o (.two .o .o)))))
noncomputable def b_impl_freeIn_46f8 : Code := bodyOf Go.Proofs.Try.f22
theorem k_impl_freeIn_46f8 (F g : Nat) (E : Env) (a0 a1 a2 a3 : AV) (h : H) : callD Go.Proofs.Try.prog (G_impl_freeIn_46f8 F g E) 33 F b_impl_freeIn_46f8 [8, 9] A_impl_freeIn_46f8 [a0, a1, a2, a3] h = c_impl_freeIn_46f8 F g E a0 a1 a2 a3 h := by kernel_rfl
theorem s_impl_freeIn_46f8 (F g : Nat) (E : Env) (hE : Sound Go.Proofs.Try.prog E) : ∀ args h r, u4 (c_impl_freeIn_46f8 F g E) args h = some r → Tri Go.Proofs.Try.prog 22 args h r := by
  intro args h r e; obtain ⟨a0, a1, a2, a3, rfl, e1⟩ := u4_some e; exact fn_sound Go.Proofs.Try.func22 rfl rfl rfl Go.Proofs.Try.ntmps22 (Sound.add (Sound.add hE (s_impl_readTree F g)) (s_impl_freeSets_46f8 F g (D_impl_freeIn_46f8 F g E) hE)) ((k_impl_freeIn_46f8 F g E a0 a1 a2 a3 h).trans e1)

-- "loop.example/treenumbers/impl.plus"
noncomputable def c_impl_plus (F g : Nat) (a0 a1 : AV) (h : H) : Option R := aArith iadd a0 a1 h fun x1 h => some (x1, h)
noncomputable def A_impl_plus : An := (.two .o (.two .o .o))
noncomputable def b_impl_plus : Code := bodyOf Go.Proofs.Try.f23
theorem k_impl_plus (F g : Nat) (a0 a1 : AV) (h : H) : callD Go.Proofs.Try.prog (fun _ _ _ => none : Env) 8 F b_impl_plus [4] A_impl_plus [a0, a1] h = c_impl_plus F g a0 a1 h := by kernel_rfl
theorem s_impl_plus (F g : Nat) : ∀ args h r, u2 (c_impl_plus F g) args h = some r → Tri Go.Proofs.Try.prog 23 args h r := by
  intro args h r e; obtain ⟨a0, a1, rfl, e1⟩ := u2_some e; exact fn_sound Go.Proofs.Try.func23 rfl rfl rfl Go.Proofs.Try.ntmps23 (Sound.none _) ((k_impl_plus F g a0 a1 h).trans e1)

-- "loop.example/treenumbers/impl.greater"
noncomputable def c_impl_greater (F g : Nat) (a0 a1 : AV) (h : H) : Option R := aMM true a0 a1 h fun x1 h => some (x1, h)
noncomputable def A_impl_greater : An := (.two .o (.two .o .o))
noncomputable def b_impl_greater : Code := bodyOf Go.Proofs.Try.f24
theorem k_impl_greater (F g : Nat) (a0 a1 : AV) (h : H) : callD Go.Proofs.Try.prog (fun _ _ _ => none : Env) 8 F b_impl_greater [4] A_impl_greater [a0, a1] h = c_impl_greater F g a0 a1 h := by kernel_rfl
theorem s_impl_greater (F g : Nat) : ∀ args h r, u2 (c_impl_greater F g) args h = some r → Tri Go.Proofs.Try.prog 24 args h r := by
  intro args h r e; obtain ⟨a0, a1, rfl, e1⟩ := u2_some e; exact fn_sound Go.Proofs.Try.func24 rfl rfl rfl Go.Proofs.Try.ntmps24 (Sound.none _) ((k_impl_greater F g a0 a1 h).trans e1)

-- "loop.example/treenumbers/impl.CutFree"
noncomputable abbrev D_impl_CutFree (F g : Nat) : Env := (Env.add (Env.add (fun _ _ _ => none : Env) 23 (u2 (c_impl_plus F g))) 24 (u2 (c_impl_greater F g)))
noncomputable def c_impl_CutFree (F g : Nat) (a0 : AV) (h : H) : Option R := aBuild [(AV.int 3 (Int.ofNat 0)), (AV.int 3 (Int.ofNat 0))] [(0, 1, (AV.int 3 (Int.ofNat 1))), (1, 1, (AV.int 3 (Int.ofNat 0)))] h fun x1 h => bindR (c_impl_freeIn_46f8 F g (D_impl_CutFree F g) a0 x1 (AV.func (.func 23) (AV.leaf .nil) (AV.leaf .nil)) (AV.func (.func 24) (AV.leaf .nil) (AV.leaf .nil)) h) fun x2 h => aExtract x2 0 h fun x3 h => aExtract x2 1 h fun x4 h => some (AV.one .tup (AV.cons x3 (AV.cons x4 (AV.leaf .nil))), h)
noncomputable def A_impl_CutFree : An := (.two .o (.two .o .o))
noncomputable def b_impl_CutFree : Code := bodyOf Go.Proofs.Try.f9
theorem k_impl_CutFree (F g : Nat) (a0 : AV) (h : H) : callD Go.Proofs.Try.prog (Env.add (D_impl_CutFree F g) 22 (u4 (c_impl_freeIn_46f8 F g (D_impl_CutFree F g)))) 9 F b_impl_CutFree [2, 3] A_impl_CutFree [a0] h = c_impl_CutFree F g a0 h := by kernel_rfl
theorem s_impl_CutFree (F g : Nat) : ∀ args h r, u1 (c_impl_CutFree F g) args h = some r → Tri Go.Proofs.Try.prog 9 args h r := by
  intro args h r e; obtain ⟨a0, rfl, e1⟩ := u1_some e; exact fn_sound Go.Proofs.Try.func9 rfl rfl rfl Go.Proofs.Try.ntmps9 (Sound.add (Sound.add (Sound.add (Sound.none _) (s_impl_plus F g)) (s_impl_greater F g)) (s_impl_freeIn_46f8 F g (D_impl_CutFree F g) (Sound.add (Sound.add (Sound.none _) (s_impl_plus F g)) (s_impl_greater F g)))) ((k_impl_CutFree F g a0 h).trans e1)

-- "loop.example/treenumbers/spec.l1End"
noncomputable def c_spec_l1End_j1 (F g : Nat) (kc1 : List AV → H → Option R) (vs : List AV) (h : H) : Option R := (fun x8 x9 x10 => aCmpI ieq x9 (AV.int 3 (Int.ofNat 0)) h fun x11 h => withBool x11 fun t12 => bc t12 (aArith iadd x10 (AV.int 3 (Int.ofNat 1)) h fun x13 h => some (x13, h)) (aCmpI ilt x9 (AV.int 3 (Int.ofNat 0)) h fun x14 h => withBool x14 fun t15 => bc t15 (some ((AV.int 3 (Int.negSucc 0)), h)) (aArith iadd x10 (AV.int 3 (Int.ofNat 1)) h fun x16 h => kc1 [x8, x9, x16] h))) (hd vs) (hd (tl vs)) (hd (tl (tl vs)))
noncomputable def c_spec_l1End_l2 (F g : Nat) : List AV → H → (List AV → H → Option R) → Option R := fun vs h kc1 => (fun x2 x3 x4 => aLenK 0 x2 h fun x5 h => aCmpI ilt x4 x5 h fun x6 h => withBool x6 fun t7 => bc t7 (aIdxStr x2 x4 h fun x17 h => aCmpI ieq x17 (AV.int 4 (Int.ofNat 40)) h fun x18 h => withBool x18 fun t19 => bc t19 (aArith iadd x3 (AV.int 3 (Int.ofNat 1)) h fun x20 h => (c_spec_l1End_j1 F g kc1) [x2, x20, x4] h) (aCmpI ieq x17 (AV.int 4 (Int.ofNat 41)) h fun x21 h => withBool x21 fun t22 => bc t22 (aArith isub x3 (AV.int 3 (Int.ofNat 1)) h fun x23 h => (c_spec_l1End_j1 F g kc1) [x2, x23, x4] h) (some ((AV.int 3 (Int.negSucc 0)), h)))) (some ((AV.int 3 (Int.negSucc 0)), h))) (hd vs) (hd (tl vs)) (hd (tl (tl vs)))
noncomputable def c_spec_l1End (F g : Nat) (a0 a1 : AV) (h : H) : Option R := loopD F (c_spec_l1End_l2 F g) [a0, (AV.int 3 (Int.ofNat 0)), a1] h
noncomputable def A_spec_l1End : An := (.two .o (.two .o (.two (.two .o (.two (.at_ [0, 5, 6] (.two (.two .o (.two .o .o)) (.two (.two (.at_ [0, 5, 6] (.two .o (.two (.two .o (.two .o (.two .o (.two .o (.two .o .o))))) .o)) (.two (.two .o (.two (.two .o .o) .o)) (.two .o (.two (.two .o .o) .o)))) .o) .o)) .o) .o)) (.two .o .o))))
noncomputable def b_spec_l1End : Code := bodyOf Go.Proofs.Try.f47
theorem k_spec_l1End (F g : Nat) (a0 a1 : AV) (h : H) : callD Go.Proofs.Try.prog (fun _ _ _ => none : Env) 31 F b_spec_l1End [4] A_spec_l1End [a0, a1] h = c_spec_l1End F g a0 a1 h := by kernel_rfl
theorem s_spec_l1End (F g : Nat) : ∀ args h r, u2 (c_spec_l1End F g) args h = some r → Tri Go.Proofs.Try.prog 47 args h r := by
  intro args h r e; obtain ⟨a0, a1, rfl, e1⟩ := u2_some e; exact fn_sound Go.Proofs.Try.func47 rfl rfl rfl Go.Proofs.Try.ntmps47 (Sound.none _) ((k_spec_l1End F g a0 a1 h).trans e1)

-- "loop.example/treenumbers/spec.l1Kids"
noncomputable def c_spec_l1Kids_l1 (F g : Nat) : List AV → H → (List AV → H → Option R) → Option R := fun vs h kc2 => (fun x3 x4 x5 => aLenK 0 x3 h fun x6 h => aArith isub x6 (AV.int 3 (Int.ofNat 1)) h fun x7 h => aCmpI ilt x5 x7 h fun x8 h => withBool x8 fun t9 => bc t9 (bindR (c_spec_l1End F g x3 x5 h) fun x10 h => aSliceS x3 (some x5) (some x10) none h fun x11 h => aBuildSlice 1 1 [(0, 1, x11)] h fun x12 h => aAppend 1 16 x4 x12 h fun x13 h => kc2 [x3, x13, x10] h) (some (x4, h))) (hd vs) (hd (tl vs)) (hd (tl (tl vs)))
noncomputable def c_spec_l1Kids (F g : Nat) (a0 : AV) (h : H) : Option R := aBuildSlice 0 1 [] h fun x1 h => loopD F (c_spec_l1Kids_l1 F g) [a0, x1, (AV.int 3 (Int.ofNat 1))] h
noncomputable def A_spec_l1Kids : An := (.two .o (.two .o (.two .o (.two (.two (.at_ [0, 3, 4] (.two (.two .o (.two .o .o)) (.two (.two .o (.two .o .o)) .o)) .o) .o) (.two .o .o)))))
noncomputable def b_spec_l1Kids : Code := bodyOf Go.Proofs.Try.f48
theorem k_spec_l1Kids (F g : Nat) (a0 : AV) (h : H) : callD Go.Proofs.Try.prog (Env.add (fun _ _ _ => none : Env) 47 (u2 (c_spec_l1End F g))) 24 F b_spec_l1Kids [2] A_spec_l1Kids [a0] h = c_spec_l1Kids F g a0 h := by kernel_rfl
theorem s_spec_l1Kids (F g : Nat) : ∀ args h r, u1 (c_spec_l1Kids F g) args h = some r → Tri Go.Proofs.Try.prog 48 args h r := by
  intro args h r e; obtain ⟨a0, rfl, e1⟩ := u1_some e; exact fn_sound Go.Proofs.Try.func48 rfl rfl rfl Go.Proofs.Try.ntmps48 (Sound.add (Sound.none _) (s_spec_l1End F g)) ((k_spec_l1Kids F g a0 h).trans e1)

-- "loop.example/treenumbers/spec.l7Free"
noncomputable def c_spec_l7Free_l1 (F g : Nat) (self : AV → H → Option R) : List AV → H → (List AV → H → Option R) → Option R := fun vs h kc2 => (fun x3 x4 x5 x6 => aLenK 1 x5 h fun x7 h => aCmpI ilt x6 x7 h fun x8 h => withBool x8 fun t9 => bc t9 (aIdxAddr 1 x5 x6 h fun x10 h => aLoad x10 h fun x11 h => bindR (self x11 h) fun x12 h => aExtract x12 0 h fun x13 h => aExtract x12 1 h fun x14 h => aArith iadd x3 x14 h fun x15 h => aMM true x13 x14 h fun x16 h => aArith iadd x4 x16 h fun x17 h => aArith iadd x6 (AV.int 3 (Int.ofNat 1)) h fun x18 h => kc2 [x15, x17, x5, x18] h) (some (AV.one .tup (AV.cons x3 (AV.cons x4 (AV.leaf .nil))), h))) (hd vs) (hd (tl vs)) (hd (tl (tl vs))) (hd (tl (tl (tl vs))))
noncomputable def c_spec_l7Free (F g : Nat) : AV → H → Option R := Nat.rec (motive := fun _ => AV → H → Option R) (fun _ _ => none) (fun g self a0 h => bindR (c_spec_l1Kids F g a0 h) fun x1 h => loopD F (c_spec_l7Free_l1 F g self) [(AV.int 3 (Int.ofNat 1)), (AV.int 3 (Int.ofNat 0)), x1, (AV.int 3 (Int.ofNat 0))] h) g
noncomputable def A_spec_l7Free : An := (.two .o (.two .o (.two .o (.two .o (.two (.two .o (.two (.at_ [4, 5, 6, 7] (.two (.two .o (.two .o .o)) (.two (.two (.two .o (.two .o .o)) .o) .o)) .o) .o)) (.two .o .o))))))
noncomputable def b_spec_l7Free : Code := bodyOf Go.Proofs.Try.f26
theorem k_spec_l7Free (F g : Nat) (a0 : AV) (h : H) : callD Go.Proofs.Try.prog (Env.add (Env.add (fun _ _ _ => none : Env) 48 (u1 (c_spec_l1Kids F g))) 26 (u1 (c_spec_l7Free F g))) 36 F b_spec_l7Free [2, 3] A_spec_l7Free [a0] h = c_spec_l7Free F (g + 1) a0 h := by kernel_rfl
theorem s_spec_l7Free (F g : Nat) : ∀ args h r, u1 (c_spec_l7Free F g) args h = some r → Tri Go.Proofs.Try.prog 26 args h r := by
  induction g with
  | zero => intro args h r e; obtain ⟨a0, rfl, e⟩ := u1_some e; cases e
  | succ g ih => intro args h r e; obtain ⟨a0, rfl, e1⟩ := u1_some e; exact fn_sound Go.Proofs.Try.func26 rfl rfl rfl Go.Proofs.Try.ntmps26 (Sound.add (Sound.add (Sound.none _) (s_spec_l1Kids F g)) ih) ((k_spec_l7Free F g a0 h).trans e1)

-- "loop.example/treenumbers/spec.CutFree"
noncomputable def c_spec_CutFree (F g : Nat) (a0 : AV) (h : H) : Option R := bindR (c_spec_TreeIn F g a0 h) fun x1 h => aNot x1 h fun x2 h => withBool x2 fun t3 => bc t3 (some (AV.one .tup (AV.cons (AV.int 3 (Int.ofNat 0)) (AV.cons (AV.bool false) (AV.leaf .nil))), h)) (bindR (c_spec_l7Free F g a0 h) fun x4 h => aExtract x4 0 h fun x5 h => aExtract x4 1 h fun x6 h => aMM true x5 x6 h fun x7 h => some (AV.one .tup (AV.cons x7 (AV.cons (AV.bool true) (AV.leaf .nil))), h))
noncomputable def A_spec_CutFree : An := (.two .o (.two (.two .o (.two (.two .o .o) .o)) (.two .o (.two .o .o))))
noncomputable def b_spec_CutFree : Code := bodyOf Go.Proofs.Try.f10
theorem k_spec_CutFree (F g : Nat) (a0 : AV) (h : H) : callD Go.Proofs.Try.prog (Env.add (Env.add (fun _ _ _ => none : Env) 25 (u1 (c_spec_TreeIn F g))) 26 (u1 (c_spec_l7Free F g))) 17 F b_spec_CutFree [2, 3] A_spec_CutFree [a0] h = c_spec_CutFree F g a0 h := by kernel_rfl
theorem s_spec_CutFree (F g : Nat) : ∀ args h r, u1 (c_spec_CutFree F g) args h = some r → Tri Go.Proofs.Try.prog 10 args h r := by
  intro args h r e; obtain ⟨a0, rfl, e1⟩ := u1_some e; exact fn_sound Go.Proofs.Try.func10 rfl rfl rfl Go.Proofs.Try.ntmps10 (Sound.add (Sound.add (Sound.none _) (s_spec_TreeIn F g)) (s_spec_l7Free F g)) ((k_spec_CutFree F g a0 h).trans e1)

-- "loop.example/treenumbers/impl.TreeNodes"
noncomputable def c_impl_TreeNodes (F g : Nat) (a0 : AV) (h : H) : Option R := bindR (c_impl_readTree F g a0 h) fun x1 h => aExtract x1 0 h fun x2 h => aExtract x1 1 h fun x3 h => aNot x3 h fun x4 h => withBool x4 fun t5 => bc t5 (some (AV.one .tup (AV.cons (AV.int 3 (Int.ofNat 0)) (AV.cons (AV.bool false) (AV.leaf .nil))), h)) (bindR (c_impl_node_nodes F g x2 h) fun x6 h => aLenK 1 x6 h fun x7 h => some (AV.one .tup (AV.cons x7 (AV.cons (AV.bool true) (AV.leaf .nil))), h))
noncomputable def A_impl_TreeNodes : An := (.two .o (.two .o (.two (.two .o (.two (.two .o .o) .o)) (.two .o .o))))
noncomputable def b_impl_TreeNodes : Code := bodyOf Go.Proofs.Try.f12
theorem k_impl_TreeNodes (F g : Nat) (a0 : AV) (h : H) : callD Go.Proofs.Try.prog (Env.add (Env.add (fun _ _ _ => none : Env) 27 (u1 (c_impl_readTree F g))) 29 (u1 (c_impl_node_nodes F g))) 16 F b_impl_TreeNodes [2, 3] A_impl_TreeNodes [a0] h = c_impl_TreeNodes F g a0 h := by kernel_rfl
theorem s_impl_TreeNodes (F g : Nat) : ∀ args h r, u1 (c_impl_TreeNodes F g) args h = some r → Tri Go.Proofs.Try.prog 12 args h r := by
  intro args h r e; obtain ⟨a0, rfl, e1⟩ := u1_some e; exact fn_sound Go.Proofs.Try.func12 rfl rfl rfl Go.Proofs.Try.ntmps12 (Sound.add (Sound.add (Sound.none _) (s_impl_readTree F g)) (s_impl_node_nodes F g)) ((k_impl_TreeNodes F g a0 h).trans e1)

-- "loop.example/treenumbers/impl.TreeLeaves"
noncomputable def c_impl_TreeLeaves_j1 (F g : Nat) (kc8 : List AV → H → Option R) (vs : List AV) (h : H) : Option R := (fun x15 x16 x17 x18 => aArith iadd x18 (AV.int 3 (Int.ofNat 1)) h fun x19 h => kc8 [x15, x16, x17, x19] h) (hd vs) (hd (tl vs)) (hd (tl (tl vs))) (hd (tl (tl (tl vs))))
noncomputable def c_impl_TreeLeaves_l2 (F g : Nat) : List AV → H → (List AV → H → Option R) → Option R := fun vs h kc8 => (fun x9 x10 x11 x12 => aCmpI ilt x12 x11 h fun x13 h => withBool x13 fun t14 => bc t14 (aIdxAddr 1 x10 x12 h fun x20 h => aLoad x20 h fun x21 h => aNilCheck x21 h fun x22 h => aField 2 x22 h fun x23 h => aLoad x23 h fun x24 h => aLenK 1 x24 h fun x25 h => aCmpI ieq x25 (AV.int 3 (Int.ofNat 0)) h fun x26 h => withBool x26 fun t27 => bc t27 (aArith iadd x9 (AV.int 3 (Int.ofNat 1)) h fun x28 h => (c_impl_TreeLeaves_j1 F g kc8) [x28, x10, x11, x12] h) ((c_impl_TreeLeaves_j1 F g kc8) [x9, x10, x11, x12] h)) (some (AV.one .tup (AV.cons x9 (AV.cons (AV.bool true) (AV.leaf .nil))), h))) (hd vs) (hd (tl vs)) (hd (tl (tl vs))) (hd (tl (tl (tl vs))))
noncomputable def c_impl_TreeLeaves (F g : Nat) (a0 : AV) (h : H) : Option R := bindR (c_impl_readTree F g a0 h) fun x1 h => aExtract x1 0 h fun x2 h => aExtract x1 1 h fun x3 h => aNot x3 h fun x4 h => withBool x4 fun t5 => bc t5 (some (AV.one .tup (AV.cons (AV.int 3 (Int.ofNat 0)) (AV.cons (AV.bool false) (AV.leaf .nil))), h)) (bindR (c_impl_node_nodes F g x2 h) fun x6 h => aLenK 1 x6 h fun x7 h => loopD F (c_impl_TreeLeaves_l2 F g) [(AV.int 3 (Int.ofNat 0)), x6, x7, (AV.int 3 (Int.ofNat 0))] h)
noncomputable def A_impl_TreeLeaves : An := (.two .o (.two .o (.two (.two .o (.two (.two .o .o) .o)) (.two .o (.two (.two .o (.two (.at_ [6, 17, 18, 19] (.two .o (.two (.two .o .o) (.at_ [6, 17, 18, 19] (.two (.two .o (.two .o (.two .o .o))) .o) .o))) .o) .o)) (.two .o .o))))))
noncomputable def b_impl_TreeLeaves : Code := bodyOf Go.Proofs.Try.f13
theorem k_impl_TreeLeaves (F g : Nat) (a0 : AV) (h : H) : callD Go.Proofs.Try.prog (Env.add (Env.add (fun _ _ _ => none : Env) 27 (u1 (c_impl_readTree F g))) 29 (u1 (c_impl_node_nodes F g))) 33 F b_impl_TreeLeaves [2, 3] A_impl_TreeLeaves [a0] h = c_impl_TreeLeaves F g a0 h := by kernel_rfl
theorem s_impl_TreeLeaves (F g : Nat) : ∀ args h r, u1 (c_impl_TreeLeaves F g) args h = some r → Tri Go.Proofs.Try.prog 13 args h r := by
  intro args h r e; obtain ⟨a0, rfl, e1⟩ := u1_some e; exact fn_sound Go.Proofs.Try.func13 rfl rfl rfl Go.Proofs.Try.ntmps13 (Sound.add (Sound.add (Sound.none _) (s_impl_readTree F g)) (s_impl_node_nodes F g)) ((k_impl_TreeLeaves F g a0 h).trans e1)

-- "loop.example/treenumbers/laws.FnFreeMost"
noncomputable def c_laws_FnFreeMost_j1 (F g : Nat) (vs : List AV) (h : H) : Option R := (fun x30 x31 => aPick x30 x31 (AV.bool false) h fun x32 h => some (x32, h)) (hd vs) (hd (tl vs))
noncomputable def c_laws_FnFreeMost_j2 (F g : Nat) (vs : List AV) (h : H) : Option R := (fun x63 x64 => aPick x63 x64 (AV.bool false) h fun x65 h => some (x65, h)) (hd vs) (hd (tl vs))
noncomputable def c_laws_FnFreeMost_j3 (F g : Nat) (vs : List AV) (h : H) : Option R := (fun x58 x59 x60 x61 => aPick x60 x61 (AV.bool false) h fun x62 h => guardB true x62 (aCmpI (fun a b => ile b a) x58 x59 h fun x66 h => (c_laws_FnFreeMost_j2 F g) [x62, x66] h) ((c_laws_FnFreeMost_j2 F g) [x62, (AV.one .tup (AV.leaf .nil))] h)) (hd vs) (hd (tl vs)) (hd (tl (tl vs))) (hd (tl (tl (tl vs))))
noncomputable def c_laws_FnFreeMost_j4 (F g : Nat) (vs : List AV) (h : H) : Option R := (fun x51 x52 x53 x54 x55 x56 => aPick x55 x56 (AV.bool false) h fun x57 h => guardB true x57 (aArith iadd x51 x52 h fun x67 h => aCmpI ieq x67 x53 h fun x68 h => (c_laws_FnFreeMost_j3 F g) [x51, x54, x57, x68] h) ((c_laws_FnFreeMost_j3 F g) [x51, x54, x57, (AV.one .tup (AV.leaf .nil))] h)) (hd vs) (hd (tl vs)) (hd (tl (tl vs))) (hd (tl (tl (tl vs)))) (hd (tl (tl (tl (tl vs))))) (hd (tl (tl (tl (tl (tl vs))))))
noncomputable def c_laws_FnFreeMost_j5 (F g : Nat) (vs : List AV) (h : H) : Option R := (fun x43 x44 x45 x46 x47 x48 x49 => aPick x48 x49 (AV.bool false) h fun x50 h => guardB true x50 ((c_laws_FnFreeMost_j4 F g) [x43, x44, x45, x46, x50, x47] h) ((c_laws_FnFreeMost_j4 F g) [x43, x44, x45, x46, x50, (AV.one .tup (AV.leaf .nil))] h)) (hd vs) (hd (tl vs)) (hd (tl (tl vs))) (hd (tl (tl (tl vs)))) (hd (tl (tl (tl (tl vs))))) (hd (tl (tl (tl (tl (tl vs)))))) (hd (tl (tl (tl (tl (tl (tl vs)))))))
noncomputable def c_laws_FnFreeMost_j6 (F g : Nat) (vs : List AV) (h : H) : Option R := (fun x20 x21 x22 x23 x24 x25 x26 => aPick x25 (AV.bool true) x26 h fun x27 h => withBool x27 fun t28 => bc t28 (aEq false 0 x22 x24 h fun x29 h => guardB true x29 (aCmpI ieq x21 x23 h fun x33 h => (c_laws_FnFreeMost_j1 F g) [x29, x33] h) ((c_laws_FnFreeMost_j1 F g) [x29, (AV.one .tup (AV.leaf .nil))] h)) (bindR (c_impl_CutMatch F g x20 h) fun x34 h => aExtract x34 0 h fun x35 h => aExtract x34 1 h fun x36 h => bindR (c_impl_TreeNodes F g x20 h) fun x37 h => aExtract x37 0 h fun x38 h => aExtract x37 1 h fun x39 h => bindR (c_impl_TreeLeaves F g x20 h) fun x40 h => aExtract x40 0 h fun x41 h => aExtract x40 1 h fun x42 h => guardB true x36 ((c_laws_FnFreeMost_j5 F g) [x21, x35, x38, x41, x42, x36, x39] h) ((c_laws_FnFreeMost_j5 F g) [x21, x35, x38, x41, x42, x36, (AV.one .tup (AV.leaf .nil))] h))) (hd vs) (hd (tl vs)) (hd (tl (tl vs))) (hd (tl (tl (tl vs)))) (hd (tl (tl (tl (tl vs))))) (hd (tl (tl (tl (tl (tl vs)))))) (hd (tl (tl (tl (tl (tl (tl vs)))))))
noncomputable def c_laws_FnFreeMost_j7 (F g : Nat) (vs : List AV) (h : H) : Option R := (fun x12 x13 x14 x15 x16 x17 x18 => aPick x17 (AV.bool true) x18 h fun x19 h => guardB false x19 (aNot x14 h fun x69 h => (c_laws_FnFreeMost_j6 F g) [x12, x13, x14, x15, x16, x19, x69] h) ((c_laws_FnFreeMost_j6 F g) [x12, x13, x14, x15, x16, x19, (AV.one .tup (AV.leaf .nil))] h)) (hd vs) (hd (tl vs)) (hd (tl (tl vs))) (hd (tl (tl (tl vs)))) (hd (tl (tl (tl (tl vs))))) (hd (tl (tl (tl (tl (tl vs)))))) (hd (tl (tl (tl (tl (tl (tl vs)))))))
noncomputable def c_laws_FnFreeMost_r8 (F g : Nat) (x4 : AV) (h : H) : Option R := bindR (c_impl_CutFree F g x4 h) fun x5 h => aExtract x5 0 h fun x6 h => aExtract x5 1 h fun x7 h => bindR (c_spec_CutFree F g x4 h) fun x8 h => aExtract x8 0 h fun x9 h => aExtract x8 1 h fun x10 h => aEq true 0 x7 x10 h fun x11 h => guardB false x11 (aCmpI (fun a b => bnot (ieq a b)) x6 x9 h fun x70 h => (c_laws_FnFreeMost_j7 F g) [x4, x6, x7, x9, x10, x11, x70] h) ((c_laws_FnFreeMost_j7 F g) [x4, x6, x7, x9, x10, x11, (AV.one .tup (AV.leaf .nil))] h)
noncomputable def c_laws_FnFreeMost (F g : Nat) (a0 : AV) (h : H) : Option R := aLenK 1 a0 h fun x1 h => aCmpI (fun a b => ilt b a) x1 (AV.int 3 (Int.ofNat 1048576)) h fun x2 h => withBool x2 fun t3 => bc t3 (some ((AV.bool true), h)) (bindR (c_spec_DrawCutFree F g a0 h) fun x4 h => c_laws_FnFreeMost_r8 F g x4 h)
noncomputable def A_laws_FnFreeMost : An := (.two .o (.two (.two .o (.two (.two .o .o) .o)) (.two .o (.two .o (.two .o (.two (.two (.at_ [3, 4, 5, 6, 7, 32, 35] .o (.at_ [3, 4, 5, 6, 7, 37, 39] .o .o)) (.two (.two (.at_ [44, 47] .o .o) .o) .o)) (.two .o (.two .o (.two .o (.two (.at_ [4, 8, 10, 12, 13, 65, 66] .o (.at_ [4, 8, 10, 12, 68, 69] .o (.at_ [4, 12, 71, 76] .o (.at_ [78, 81] .o .o)))) .o))))))))))
noncomputable def b_laws_FnFreeMost : Code := bodyOf Go.Proofs.Try.f3
theorem k_laws_FnFreeMost (F g : Nat) (a0 : AV) (h : H) : callD Go.Proofs.Try.prog (Env.add (Env.add (Env.add (Env.add (Env.add (Env.add (fun _ _ _ => none : Env) 8 (u1 (c_spec_DrawCutFree F g))) 9 (u1 (c_impl_CutFree F g))) 10 (u1 (c_spec_CutFree F g))) 11 (u1 (c_impl_CutMatch F g))) 12 (u1 (c_impl_TreeNodes F g))) 13 (u1 (c_impl_TreeLeaves F g))) 83 F b_laws_FnFreeMost [2] A_laws_FnFreeMost [a0] h = c_laws_FnFreeMost F g a0 h := by kernel_rfl
theorem s_laws_FnFreeMost (F g : Nat) : ∀ args h r, u1 (c_laws_FnFreeMost F g) args h = some r → Tri Go.Proofs.Try.prog 3 args h r := by
  intro args h r e; obtain ⟨a0, rfl, e1⟩ := u1_some e; exact fn_sound Go.Proofs.Try.func3 rfl rfl rfl Go.Proofs.Try.ntmps3 (Sound.add (Sound.add (Sound.add (Sound.add (Sound.add (Sound.add (Sound.none _) (s_spec_DrawCutFree F g)) (s_impl_CutFree F g)) (s_spec_CutFree F g)) (s_impl_CutMatch F g)) (s_impl_TreeNodes F g)) (s_impl_TreeLeaves F g)) ((k_laws_FnFreeMost F g a0 h).trans e1)

end
end Go.AI.T
