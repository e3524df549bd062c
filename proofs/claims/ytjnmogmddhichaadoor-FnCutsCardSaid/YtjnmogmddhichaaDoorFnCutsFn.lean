/- The functions that the law FnCuts reaches, as the evaluator reads them. -/
import Derived.Test.YtjnmogmddhichaaDoorRaw
import Derived.Test.YtjnmogmddhichaaDoorRpl
import Derived.Test.YtjnmogmddhichaaDoorProg
import Derived.KernelRfl
namespace Go.AI
open Go Go.RowKit Go.AI
set_option linter.unusedVariables false
set_option linter.unusedSimpArgs false
set_option maxRecDepth 100000
noncomputable section
-- "loop.example/treenumbers/spec.DrawCutCount"
noncomputable def c_spec_DrawCutCount (F g : Nat) (a0 : AV) (h : H) : Option R := bindR (c_spec_l91Some F g a0 h) fun x1 h => some (x1, h)
noncomputable def A_spec_DrawCutCount : An := (.two .o (.two .o .o))
noncomputable def b_spec_DrawCutCount : Code := bodyOf Go.Proofs.Tryd.f8
theorem k_spec_DrawCutCount (F g : Nat) (a0 : AV) (h : H) : callD Go.Proofs.Tryd.prog (Env.add (fun _ _ _ => none : Env) 22 (u1 (c_spec_l91Some F g))) 5 F b_spec_DrawCutCount [2] A_spec_DrawCutCount [a0] h = c_spec_DrawCutCount F g a0 h := by kernel_rfl
theorem s_spec_DrawCutCount (F g : Nat) : ∀ args h r, u1 (c_spec_DrawCutCount F g) args h = some r → Tri Go.Proofs.Tryd.prog 8 args h r := by
  intro args h r e; obtain ⟨a0, rfl, e1⟩ := u1_some e; exact fn_sound Go.Proofs.Tryd.func8 rfl rfl rfl Go.Proofs.Tryd.ntmps8 (Sound.add (Sound.none _) (s_spec_l91Some F g)) ((k_spec_DrawCutCount F g a0 h).trans e1)

end
end Go.AI
namespace Go.AI.T
open Go Go.RowKit Go.AI
set_option linter.unusedVariables false
set_option linter.unusedSimpArgs false
set_option maxRecDepth 100000
noncomputable section
def c_spec_DrawCutCount (F g : Nat) (a0 : AV) (h : H) : Option R := quietC (Go.AI.c_spec_DrawCutCount 20000 20) a0 h
theorem s_spec_DrawCutCount (F g : Nat) : ∀ args h r, u1 (c_spec_DrawCutCount F g) args h = some r → Tri Go.Proofs.Tryd.prog id_spec_DrawCutCount args h r := quietC_sound (Go.AI.s_spec_DrawCutCount 20000 20)
theorem draw_FnCuts (F g : Nat) {a0 : AV} {n : Nat} {L : List AV} {B : Blk} (ha : (a0 = .leaf .nils ∧ n = 0) ∨ a0 = .osl 1 0 n 1) (hB : 0 < n → B = .cells 2 L) (hb : ∀ i, i < n → ∃ v, L[i]? = some (.int 4 (.ofNat v)) ∧ v < 256) :
    ∃ l, (l.length ≤ 300 ∧ (isTree l = true → l.length ≤ 16)) ∧ c_spec_DrawCutCount F g a0 (hCode B) = some (.str l l.length, hCode B) := by
  obtain ⟨l, h', hl, e, hlo⟩ := some_ok (F := 20000) (g := 20) (h := hCode B) (by omega) ha (fun hn => ⟨2, hB hn⟩) hb (Nat.le_refl _) (Nat.le_refl _)
  refine ⟨l, hl, quietC_ok (h' := h') ?_ rfl hlo⟩
  show bindR (Go.AI.c_spec_l91Some 20000 20 a0 (hCode B)) _ = _
  rw [e]; rfl
end
end Go.AI.T
namespace Go.AI.T
open Go Go.RowKit Go.AI
set_option linter.unusedVariables false
set_option linter.unusedSimpArgs false
set_option maxRecDepth 100000
noncomputable section
-- "slices.Grow[[]*loop.example/treenumbers/impl.node,*loop.example/treenumbers/impl.node]"
noncomputable def c_slices_Grow_4168_j1 (F g : Nat) (vs : List AV) (h : H) : Option R := (fun x3 => some (x3, h)) (hd vs)
noncomputable def c_slices_Grow_4168_j2 (F g : Nat) (vs : List AV) (h : H) : Option R := (fun x1 x2 => aCap x1 h fun x4 h => aLenK 1 x1 h fun x5 h => aArith isub x4 x5 h fun x6 h => aArith isub x2 x6 h fun x7 h => aCmpI (fun a b => ilt b a) x7 (AV.int 3 (Int.ofNat 0)) h fun x8 h => withBool x8 fun t9 => bc t9 (aCap x1 h fun x10 h => aSliceV 1 x1 none (some x10) none h fun x11 h => aAppZ 1 8 [(AV.leaf .nilp)] x11 x7 h fun x12 h => aLenK 1 x1 h fun x13 h => aSliceV 1 x12 none (some x13) none h fun x14 h => (c_slices_Grow_4168_j1 F g) [x14] h) ((c_slices_Grow_4168_j1 F g) [x1] h)) (hd vs) (hd (tl vs))
noncomputable def c_slices_Grow_4168 (F g : Nat) (a0 a1 : AV) (h : H) : Option R := aCmpI ilt a1 (AV.int 3 (Int.ofNat 0)) h fun x15 h => withBool x15 fun t16 => bc t16 (aMkIface 9 (AV.str [99, 97, 110, 110, 111, 116, 32, 98, 101, 32, 110, 101, 103, 97, 116, 105, 118, 101] 18) h fun x17 h => none) ((c_slices_Grow_4168_j2 F g) [a0, a1] h)
noncomputable def A_slices_Grow_4168 : An := (.two .o (.at_ [0, 1] (.two .o (.two .o .o)) (.at_ [0] (.two .o (.two .o (.two .o .o))) (.two .o .o))))
noncomputable def b_slices_Grow_4168 : Code := bodyOf Go.Proofs.Tryd.f48
theorem k_slices_Grow_4168 (F g : Nat) (a0 a1 : AV) (h : H) : callD Go.Proofs.Tryd.prog (fun _ _ _ => none : Env) 27 F b_slices_Grow_4168 [4] A_slices_Grow_4168 [a0, a1] h = c_slices_Grow_4168 F g a0 a1 h := by kernel_rfl
theorem s_slices_Grow_4168 (F g : Nat) : ∀ args h r, u2 (c_slices_Grow_4168 F g) args h = some r → Tri Go.Proofs.Tryd.prog 48 args h r := by
  intro args h r e; obtain ⟨a0, a1, rfl, e1⟩ := u2_some e; exact fn_sound Go.Proofs.Tryd.func48 rfl rfl rfl Go.Proofs.Tryd.ntmps48 (Sound.none _) ((k_slices_Grow_4168 F g a0 a1 h).trans e1)

-- "slices.Concat[[]*loop.example/treenumbers/impl.node,*loop.example/treenumbers/impl.node]"
noncomputable def c_slices_Concat_4168_j1 (F g : Nat) (kc2 : List AV → H → Option R) (vs : List AV) (h : H) : Option R := (fun x10 x11 x12 x13 x14 => aArith iadd x14 (AV.int 3 (Int.ofNat 1)) h fun x15 h => kc2 [x10, x11, x12, x13, x15] h) (hd vs) (hd (tl vs)) (hd (tl (tl vs))) (hd (tl (tl (tl vs)))) (hd (tl (tl (tl (tl vs)))))
noncomputable def c_slices_Concat_4168_l2 (F g : Nat) : List AV → H → (List AV → H → Option R) → Option R := fun vs h kc25 => (fun x26 x27 x28 x29 => aCmpI ilt x29 x28 h fun x30 h => withBool x30 fun t31 => bc t31 (aIdxAddr 1 x27 x29 h fun x32 h => aLoad x32 h fun x33 h => aAppend 1 8 x26 x33 h fun x34 h => aArith iadd x29 (AV.int 3 (Int.ofNat 1)) h fun x35 h => kc25 [x34, x27, x28, x35] h) (some (x26, h))) (hd vs) (hd (tl vs)) (hd (tl (tl vs))) (hd (tl (tl (tl vs))))
noncomputable def c_slices_Concat_4168_l3 (F g : Nat) : List AV → H → (List AV → H → Option R) → Option R := fun vs h kc2 => (fun x3 x4 x5 x6 x7 => aCmpI ilt x7 x6 h fun x8 h => withBool x8 fun t9 => bc t9 (aIdxAddr 1 x5 x7 h fun x16 h => aLoad x16 h fun x17 h => aLenK 1 x17 h fun x18 h => aArith iadd x4 x18 h fun x19 h => aCmpI ilt x19 (AV.int 3 (Int.ofNat 0)) h fun x20 h => withBool x20 fun t21 => bc t21 (aMkIface 9 (AV.str [108, 101, 110, 32, 111, 117, 116, 32, 111, 102, 32, 114, 97, 110, 103, 101] 16) h fun x22 h => none) ((c_slices_Concat_4168_j1 F g kc2) [x3, x19, x5, x6, x7] h)) (bindR (c_slices_Grow_4168 F g (AV.leaf .nils) x4 h) fun x23 h => aLenK 1 x3 h fun x24 h => loopD F (c_slices_Concat_4168_l2 F g) [x23, x3, x24, (AV.int 3 (Int.ofNat 0))] h)) (hd vs) (hd (tl vs)) (hd (tl (tl vs))) (hd (tl (tl (tl vs)))) (hd (tl (tl (tl (tl vs)))))
noncomputable def c_slices_Concat_4168 (F g : Nat) (a0 : AV) (h : H) : Option R := aLenK 1 a0 h fun x1 h => loopD F (c_slices_Concat_4168_l3 F g) [a0, (AV.int 3 (Int.ofNat 0)), a0, x1, (AV.int 3 (Int.ofNat 0))] h
noncomputable def A_slices_Concat_4168 : An := (.two .o (.two .o (.two (.two .o (.two (.at_ [0, 3, 9, 10, 11] (.two .o (.two (.two .o .o) (.at_ [0, 3, 9, 10, 11] (.two (.two .o (.two .o (.two .o (.two .o .o)))) .o) .o))) .o) .o)) (.two .o (.two (.two .o (.two (.at_ [6, 25, 26, 27] (.two .o (.two (.two .o .o) (.two (.two (.two .o .o) .o) .o))) .o) .o)) (.two .o .o))))))
noncomputable def b_slices_Concat_4168 : Code := bodyOf Go.Proofs.Tryd.f25
theorem k_slices_Concat_4168 (F g : Nat) (a0 : AV) (h : H) : callD Go.Proofs.Tryd.prog (Env.add (fun _ _ _ => none : Env) 48 (u2 (c_slices_Grow_4168 F g))) 36 F b_slices_Concat_4168 [2] A_slices_Concat_4168 [a0] h = c_slices_Concat_4168 F g a0 h := by kernel_rfl
theorem s_slices_Concat_4168 (F g : Nat) : ∀ args h r, u1 (c_slices_Concat_4168 F g) args h = some r → Tri Go.Proofs.Tryd.prog 25 args h r := by
  intro args h r e; obtain ⟨a0, rfl, e1⟩ := u1_some e; exact fn_sound Go.Proofs.Tryd.func25 rfl rfl rfl Go.Proofs.Tryd.ntmps25 (Sound.add (Sound.none _) (s_slices_Grow_4168 F g)) ((k_slices_Concat_4168 F g a0 h).trans e1)

-- "loop.example/treenumbers/impl.CutCount$1"
noncomputable abbrev D_impl_CutCount_d1 (F g : Nat) (E : Env) : Env := E
noncomputable abbrev G_impl_CutCount_d1 (F g : Nat) (E : Env) : Env := (Env.add (D_impl_CutCount_d1 F g E) 25 (u1 (c_slices_Concat_4168 F g)))
noncomputable def c_impl_CutCount_d1 (F g : Nat) (E : Env) (a0 a1 a2 : AV) (h : H) : Option R := aLenK 1 a0 h fun x1 h => aCmpI ieq x1 (AV.int 3 (Int.ofNat 0)) h fun x2 h => withBool x2 fun t3 => bc t3 (aLoad a1 h fun x4 h => aArith iadd x4 (AV.int 3 (Int.ofNat 1)) h fun x5 h => aStore a1 x5 h fun x6 h => some (AV.one .tup (AV.leaf .nil), h)) (aIdxAddr 1 a0 (AV.int 3 (Int.ofNat 0)) h fun x7 _ => aLoad x7 h fun x8 _ => aSliceV 1 a0 (some (AV.int 3 (Int.ofNat 1))) none none h fun x9 _ => aLoad a2 h fun x10 h => dCall (G_impl_CutCount_d1 F g E) x10 [x9] h fun x11 h => aNilCheck x8 h fun x12 h => aField 2 x12 h fun x13 h => aLoad x13 h fun x14 h => aLenK 1 x14 h fun x15 h => aCmpI (fun a b => ilt b a) x15 (AV.int 3 (Int.ofNat 0)) h fun x16 h => withBool x16 fun t17 => bc t17 ((fun (W18 : List (Nat × List AV)) (lo19 : Nat) => (fun h => aLoad4 W18 a2 h fun x20 h => bc (okL W18 h) (aNilCheck x8 h fun x21 _ => bc (okL W18 h) (aField 2 x21 h fun x22 _ => bc (okL W18 h) (aLoad4 W18 x22 h fun x23 h => bc (okL W18 h) (aBuildSlice 2 1 [(0, 1, x23), (1, 1, x9)] h fun x24 h => bc (okL W18 h) (bindR (c_slices_Concat_4168 F g x24 h) fun x25 h => bc (okL W18 h) (dCall (G_impl_CutCount_d1 F g E) x20 [x25] h fun x26 h => (fun h => some (AV.one .tup (AV.leaf .nil), h)) (H.unmark h lo19)) none) none) none) none) none) none) (H.mark h)) (watchP h [a2, x8, (AV.leaf .undef)]) h.lo) (some (AV.one .tup (AV.leaf .nil), h)))
noncomputable def A_impl_CutCount_d1 : An := (.two (.two .o (.two (.two .o .o) .o)) (.two .o (.two .o (.two .o (.two (.at_ [0, 1, 2, 3, 4, 5, 6, 7, 8] .o .o) .o)))))
noncomputable def b_impl_CutCount_d1 : Code := bodyOf Go.Proofs.Tryd.f24
theorem k_impl_CutCount_d1 (F g : Nat) (E : Env) (a0 a1 a2 : AV) (h : H) : callD Go.Proofs.Tryd.prog (G_impl_CutCount_d1 F g E) 34 F b_impl_CutCount_d1 [] A_impl_CutCount_d1 [a0, a1, a2] h = c_impl_CutCount_d1 F g E a0 a1 a2 h := by kernel_rfl
theorem s_impl_CutCount_d1 (F g : Nat) (E : Env) (hE : Sound Go.Proofs.Tryd.prog E) : ∀ args h r, u3 (c_impl_CutCount_d1 F g E) args h = some r → Tri Go.Proofs.Tryd.prog 24 args h r := by
  intro args h r e; obtain ⟨a0, a1, a2, rfl, e1⟩ := u3_some e; exact fn_sound Go.Proofs.Tryd.func24 rfl rfl rfl Go.Proofs.Tryd.ntmps24 (Sound.add hE (s_slices_Concat_4168 F g)) ((k_impl_CutCount_d1 F g E a0 a1 a2 h).trans e1)
noncomputable def R_impl_CutCount_d1 (F : Nat) : Nat → Env := Nat.rec (motive := fun _ => Env) (fun _ _ _ => none) (fun g r => Env.add (fun _ _ _ => none) 24 (u3 (c_impl_CutCount_d1 F g r)))
theorem R_impl_CutCount_d1_sound (F : Nat) : ∀ g, Sound Go.Proofs.Tryd.prog (R_impl_CutCount_d1 F g)
  | 0 => Sound.none _
  | g + 1 => Sound.add (Sound.none _) (s_impl_CutCount_d1 F g (R_impl_CutCount_d1 F g) (R_impl_CutCount_d1_sound F g))


-- "loop.example/treenumbers/impl.CutCount"
noncomputable abbrev D_impl_CutCount (F g : Nat) (E : Env) : Env := (Env.add E 24 (u3 (c_impl_CutCount_d1 F g (R_impl_CutCount_d1 F g))))
noncomputable abbrev G_impl_CutCount (F g : Nat) (E : Env) : Env := (Env.add (D_impl_CutCount F g E) 23 (u1 (c_impl_readTree F g)))
noncomputable def c_impl_CutCount (F g : Nat) (E : Env) (a0 : AV) (h : H) : Option R := bindR (c_impl_readTree F g a0 h) fun x1 h => aExtract x1 0 h fun x2 h => aExtract x1 1 h fun x3 h => aNot x3 h fun x4 h => withBool x4 fun t5 => bc t5 (some (AV.one .tup (AV.cons (AV.int 3 (Int.ofNat 0)) (AV.cons (AV.bool false) (AV.leaf .nil))), h)) (aAlloc [(AV.int 3 (Int.ofNat 0))] h fun x6 h => aStore x6 (AV.int 3 (Int.ofNat 0)) h fun x7 h => aAlloc [(AV.leaf .nilf)] h fun x8 h => aMakeF (.func 24) [] [x6, x8] h fun x9 h => aStore x8 x9 h fun x10 h => aLoad x8 h fun x11 h => aBuildSlice 1 1 [(0, 1, x2)] h fun x12 h => dCall (G_impl_CutCount F g E) x11 [x12] h fun x13 h => aLoad x6 h fun x14 h => some (AV.one .tup (AV.cons x14 (AV.cons (AV.bool true) (AV.leaf .nil))), h))
noncomputable def A_impl_CutCount : An := (.two .o (.two .o (.two (.two .o (.two (.two .o .o) .o)) (.two .o (.two .o (.two .o (.two .o (.two .o .o))))))))
noncomputable def b_impl_CutCount : Code := bodyOf Go.Proofs.Tryd.f9
theorem k_impl_CutCount (F g : Nat) (E : Env) (a0 : AV) (h : H) : callD Go.Proofs.Tryd.prog (G_impl_CutCount F g E) 21 F b_impl_CutCount [2, 3] A_impl_CutCount [a0] h = c_impl_CutCount F g E a0 h := by kernel_rfl
theorem s_impl_CutCount (F g : Nat) (E : Env) (hE : Sound Go.Proofs.Tryd.prog E) : ∀ args h r, u1 (c_impl_CutCount F g E) args h = some r → Tri Go.Proofs.Tryd.prog 9 args h r := by
  intro args h r e; obtain ⟨a0, rfl, e1⟩ := u1_some e; exact fn_sound Go.Proofs.Tryd.func9 rfl rfl rfl Go.Proofs.Tryd.ntmps9 (Sound.add (Sound.add hE (s_impl_CutCount_d1 F g (R_impl_CutCount_d1 F g) (R_impl_CutCount_d1_sound F g))) (s_impl_readTree F g)) ((k_impl_CutCount F g E a0 h).trans e1)

-- "loop.example/treenumbers/spec.l1End"
noncomputable def c_spec_l1End_j1 (F g : Nat) (kc1 : List AV → H → Option R) (vs : List AV) (h : H) : Option R := (fun x8 x9 x10 => aCmpI ieq x9 (AV.int 3 (Int.ofNat 0)) h fun x11 h => withBool x11 fun t12 => bc t12 (aArith iadd x10 (AV.int 3 (Int.ofNat 1)) h fun x13 h => some (x13, h)) (aCmpI ilt x9 (AV.int 3 (Int.ofNat 0)) h fun x14 h => withBool x14 fun t15 => bc t15 (some ((AV.int 3 (Int.negSucc 0)), h)) (aArith iadd x10 (AV.int 3 (Int.ofNat 1)) h fun x16 h => kc1 [x8, x9, x16] h))) (hd vs) (hd (tl vs)) (hd (tl (tl vs)))
noncomputable def c_spec_l1End_l2 (F g : Nat) : List AV → H → (List AV → H → Option R) → Option R := fun vs h kc1 => (fun x2 x3 x4 => aLenK 0 x2 h fun x5 h => aCmpI ilt x4 x5 h fun x6 h => withBool x6 fun t7 => bc t7 (aIdxStr x2 x4 h fun x17 h => aCmpI ieq x17 (AV.int 4 (Int.ofNat 40)) h fun x18 h => withBool x18 fun t19 => bc t19 (aArith iadd x3 (AV.int 3 (Int.ofNat 1)) h fun x20 h => (c_spec_l1End_j1 F g kc1) [x2, x20, x4] h) (aCmpI ieq x17 (AV.int 4 (Int.ofNat 41)) h fun x21 h => withBool x21 fun t22 => bc t22 (aArith isub x3 (AV.int 3 (Int.ofNat 1)) h fun x23 h => (c_spec_l1End_j1 F g kc1) [x2, x23, x4] h) (some ((AV.int 3 (Int.negSucc 0)), h)))) (some ((AV.int 3 (Int.negSucc 0)), h))) (hd vs) (hd (tl vs)) (hd (tl (tl vs)))
noncomputable def c_spec_l1End (F g : Nat) (a0 a1 : AV) (h : H) : Option R := loopD F (c_spec_l1End_l2 F g) [a0, (AV.int 3 (Int.ofNat 0)), a1] h
noncomputable def A_spec_l1End : An := (.two .o (.two .o (.two (.two .o (.two (.at_ [0, 5, 6] (.two (.two .o (.two .o .o)) (.two (.two (.at_ [0, 5, 6] (.two .o (.two (.two .o (.two .o (.two .o (.two .o (.two .o .o))))) .o)) (.two (.two .o (.two (.two .o .o) .o)) (.two .o (.two (.two .o .o) .o)))) .o) .o)) .o) .o)) (.two .o .o))))
noncomputable def b_spec_l1End : Code := bodyOf Go.Proofs.Tryd.f40
theorem k_spec_l1End (F g : Nat) (a0 a1 : AV) (h : H) : callD Go.Proofs.Tryd.prog (fun _ _ _ => none : Env) 31 F b_spec_l1End [4] A_spec_l1End [a0, a1] h = c_spec_l1End F g a0 a1 h := by kernel_rfl
theorem s_spec_l1End (F g : Nat) : ∀ args h r, u2 (c_spec_l1End F g) args h = some r → Tri Go.Proofs.Tryd.prog 40 args h r := by
  intro args h r e; obtain ⟨a0, a1, rfl, e1⟩ := u2_some e; exact fn_sound Go.Proofs.Tryd.func40 rfl rfl rfl Go.Proofs.Tryd.ntmps40 (Sound.none _) ((k_spec_l1End F g a0 a1 h).trans e1)

-- "loop.example/treenumbers/spec.l1Kids"
noncomputable def c_spec_l1Kids_l1 (F g : Nat) : List AV → H → (List AV → H → Option R) → Option R := fun vs h kc2 => (fun x3 x4 x5 => aLenK 0 x3 h fun x6 h => aArith isub x6 (AV.int 3 (Int.ofNat 1)) h fun x7 h => aCmpI ilt x5 x7 h fun x8 h => withBool x8 fun t9 => bc t9 (bindR (c_spec_l1End F g x3 x5 h) fun x10 h => aSliceS x3 (some x5) (some x10) none h fun x11 h => aBuildSlice 1 1 [(0, 1, x11)] h fun x12 h => aAppend 1 16 x4 x12 h fun x13 h => kc2 [x3, x13, x10] h) (some (x4, h))) (hd vs) (hd (tl vs)) (hd (tl (tl vs)))
noncomputable def c_spec_l1Kids (F g : Nat) (a0 : AV) (h : H) : Option R := aBuildSlice 0 1 [] h fun x1 h => loopD F (c_spec_l1Kids_l1 F g) [a0, x1, (AV.int 3 (Int.ofNat 1))] h
noncomputable def A_spec_l1Kids : An := (.two .o (.two .o (.two .o (.two (.two (.at_ [0, 3, 4] (.two (.two .o (.two .o .o)) (.two (.two .o (.two .o .o)) .o)) .o) .o) (.two .o .o)))))
noncomputable def b_spec_l1Kids : Code := bodyOf Go.Proofs.Tryd.f49
theorem k_spec_l1Kids (F g : Nat) (a0 : AV) (h : H) : callD Go.Proofs.Tryd.prog (Env.add (fun _ _ _ => none : Env) 40 (u2 (c_spec_l1End F g))) 24 F b_spec_l1Kids [2] A_spec_l1Kids [a0] h = c_spec_l1Kids F g a0 h := by kernel_rfl
theorem s_spec_l1Kids (F g : Nat) : ∀ args h r, u1 (c_spec_l1Kids F g) args h = some r → Tri Go.Proofs.Tryd.prog 49 args h r := by
  intro args h r e; obtain ⟨a0, rfl, e1⟩ := u1_some e; exact fn_sound Go.Proofs.Tryd.func49 rfl rfl rfl Go.Proofs.Tryd.ntmps49 (Sound.add (Sound.none _) (s_spec_l1End F g)) ((k_spec_l1Kids F g a0 h).trans e1)

-- "loop.example/treenumbers/spec.l7Cuts"
noncomputable def c_spec_l7Cuts_l1 (F g : Nat) (self : AV → H → Option R) : List AV → H → (List AV → H → Option R) → Option R := fun vs h kc5 => (fun x6 x7 x8 => aLenK 1 x6 h fun x9 h => aCmpI ilt x8 x9 h fun x10 h => withBool x10 fun t11 => bc t11 (aIdxAddr 1 x6 x8 h fun x12 h => aLoad x12 h fun x13 h => bindR (self x13 h) fun x14 h => aArith imul x7 x14 h fun x15 h => aArith iadd x8 (AV.int 3 (Int.ofNat 1)) h fun x16 h => kc5 [x6, x15, x16] h) (aArith iadd x7 (AV.int 3 (Int.ofNat 1)) h fun x17 h => some (x17, h))) (hd vs) (hd (tl vs)) (hd (tl (tl vs)))
noncomputable def c_spec_l7Cuts (F g : Nat) : AV → H → Option R := Nat.rec (motive := fun _ => AV → H → Option R) (fun _ _ => none) (fun g self a0 h => bindR (c_spec_l1Kids F g a0 h) fun x1 h => aLenK 1 x1 h fun x2 h => aCmpI ieq x2 (AV.int 3 (Int.ofNat 0)) h fun x3 h => withBool x3 fun t4 => bc t4 (some ((AV.int 3 (Int.ofNat 1)), h)) (loopD F (c_spec_l7Cuts_l1 F g self) [x1, (AV.int 3 (Int.ofNat 1)), (AV.int 3 (Int.ofNat 0))] h)) g
noncomputable def A_spec_l7Cuts : An := (.two .o (.two .o (.two (.two .o (.two (.two .o .o) .o)) (.two .o (.two (.two .o (.two (.at_ [3, 4, 5] (.two (.two .o (.two .o .o)) (.two (.two .o .o) .o)) .o) .o)) (.two .o .o))))))
noncomputable def b_spec_l7Cuts : Code := bodyOf Go.Proofs.Tryd.f27
theorem k_spec_l7Cuts (F g : Nat) (a0 : AV) (h : H) : callD Go.Proofs.Tryd.prog (Env.add (Env.add (fun _ _ _ => none : Env) 49 (u1 (c_spec_l1Kids F g))) 27 (u1 (c_spec_l7Cuts F g))) 26 F b_spec_l7Cuts [2] A_spec_l7Cuts [a0] h = c_spec_l7Cuts F (g + 1) a0 h := by kernel_rfl
theorem s_spec_l7Cuts (F g : Nat) : ∀ args h r, u1 (c_spec_l7Cuts F g) args h = some r → Tri Go.Proofs.Tryd.prog 27 args h r := by
  induction g with
  | zero => intro args h r e; obtain ⟨a0, rfl, e⟩ := u1_some e; cases e
  | succ g ih => intro args h r e; obtain ⟨a0, rfl, e1⟩ := u1_some e; exact fn_sound Go.Proofs.Tryd.func27 rfl rfl rfl Go.Proofs.Tryd.ntmps27 (Sound.add (Sound.add (Sound.none _) (s_spec_l1Kids F g)) ih) ((k_spec_l7Cuts F g a0 h).trans e1)

-- "loop.example/treenumbers/spec.CutCount"
noncomputable def c_spec_CutCount (F g : Nat) (a0 : AV) (h : H) : Option R := bindR (c_spec_TreeIn F g a0 h) fun x1 h => aNot x1 h fun x2 h => withBool x2 fun t3 => bc t3 (some (AV.one .tup (AV.cons (AV.int 3 (Int.ofNat 0)) (AV.cons (AV.bool false) (AV.leaf .nil))), h)) (bindR (c_spec_l7Cuts F g a0 h) fun x4 h => some (AV.one .tup (AV.cons x4 (AV.cons (AV.bool true) (AV.leaf .nil))), h))
noncomputable def A_spec_CutCount : An := (.two .o (.two (.two .o (.two (.two .o .o) .o)) (.two .o .o)))
noncomputable def b_spec_CutCount : Code := bodyOf Go.Proofs.Tryd.f10
theorem k_spec_CutCount (F g : Nat) (a0 : AV) (h : H) : callD Go.Proofs.Tryd.prog (Env.add (Env.add (fun _ _ _ => none : Env) 26 (u1 (c_spec_TreeIn F g))) 27 (u1 (c_spec_l7Cuts F g))) 9 F b_spec_CutCount [2, 3] A_spec_CutCount [a0] h = c_spec_CutCount F g a0 h := by kernel_rfl
theorem s_spec_CutCount (F g : Nat) : ∀ args h r, u1 (c_spec_CutCount F g) args h = some r → Tri Go.Proofs.Tryd.prog 10 args h r := by
  intro args h r e; obtain ⟨a0, rfl, e1⟩ := u1_some e; exact fn_sound Go.Proofs.Tryd.func10 rfl rfl rfl Go.Proofs.Tryd.ntmps10 (Sound.add (Sound.add (Sound.none _) (s_spec_TreeIn F g)) (s_spec_l7Cuts F g)) ((k_spec_CutCount F g a0 h).trans e1)

-- "loop.example/treenumbers/impl.TreeIn"
noncomputable def c_impl_TreeIn (F g : Nat) (a0 : AV) (h : H) : Option R := bindR (c_impl_readTree F g a0 h) fun x1 h => aExtract x1 0 h fun x2 h => aExtract x1 1 h fun x3 h => some (x3, h)
noncomputable def A_impl_TreeIn : An := (.two .o (.two .o (.two .o .o)))
noncomputable def b_impl_TreeIn : Code := bodyOf Go.Proofs.Tryd.f28
theorem k_impl_TreeIn (F g : Nat) (a0 : AV) (h : H) : callD Go.Proofs.Tryd.prog (Env.add (fun _ _ _ => none : Env) 23 (u1 (c_impl_readTree F g))) 11 F b_impl_TreeIn [2] A_impl_TreeIn [a0] h = c_impl_TreeIn F g a0 h := by kernel_rfl
theorem s_impl_TreeIn (F g : Nat) : ∀ args h r, u1 (c_impl_TreeIn F g) args h = some r → Tri Go.Proofs.Tryd.prog 28 args h r := by
  intro args h r e; obtain ⟨a0, rfl, e1⟩ := u1_some e; exact fn_sound Go.Proofs.Tryd.func28 rfl rfl rfl Go.Proofs.Tryd.ntmps28 (Sound.add (Sound.none _) (s_impl_readTree F g)) ((k_impl_TreeIn F g a0 h).trans e1)

-- "loop.example/treenumbers/impl.CutLeaf"
noncomputable def c_impl_CutLeaf (F g : Nat) (a0 : AV) (h : H) : Option R := bindR (c_impl_TreeIn F g a0 h) fun x1 h => aNot x1 h fun x2 h => withBool x2 fun t3 => bc t3 (some (AV.one .tup (AV.cons (AV.str [] 0) (AV.cons (AV.bool false) (AV.leaf .nil))), h)) (bindR (c_strings_ReplaceAll F g a0 (AV.str [40, 41] 2) (AV.str [] 0) h) fun x4 h => bindR (c_impl_TreeIn F g x4 h) fun x5 h => some (AV.one .tup (AV.cons x4 (AV.cons x5 (AV.leaf .nil))), h))
noncomputable def A_impl_CutLeaf : An := (.two .o (.two (.two .o (.two (.two .o .o) .o)) (.two .o (.two .o .o))))
noncomputable def b_impl_CutLeaf : Code := bodyOf Go.Proofs.Tryd.f11
theorem k_impl_CutLeaf (F g : Nat) (a0 : AV) (h : H) : callD Go.Proofs.Tryd.prog (Env.add (Env.add (fun _ _ _ => none : Env) 28 (u1 (c_impl_TreeIn F g))) 29 (u3 (c_strings_ReplaceAll F g))) 13 F b_impl_CutLeaf [2, 3] A_impl_CutLeaf [a0] h = c_impl_CutLeaf F g a0 h := by kernel_rfl
theorem s_impl_CutLeaf (F g : Nat) : ∀ args h r, u1 (c_impl_CutLeaf F g) args h = some r → Tri Go.Proofs.Tryd.prog 11 args h r := by
  intro args h r e; obtain ⟨a0, rfl, e1⟩ := u1_some e; exact fn_sound Go.Proofs.Tryd.func11 rfl rfl rfl Go.Proofs.Tryd.ntmps11 (Sound.add (Sound.add (Sound.none _) (s_impl_TreeIn F g)) (s_strings_ReplaceAll F g)) ((k_impl_CutLeaf F g a0 h).trans e1)

-- "(*loop.example/treenumbers/impl.node).tops"
noncomputable def c_impl_node_tops_l1 (F g : Nat) (self : AV → H → Option R) : List AV → H → (List AV → H → Option R) → Option R := fun vs h kc5 => (fun x6 x7 x8 x9 => aCmpI ilt x9 x8 h fun x10 h => withBool x10 fun t11 => bc t11 (aIdxAddr 1 x7 x9 h fun x12 h => aLoad x12 h fun x13 h => bindR (self x13 h) fun x14 h => aArith iadd x14 (AV.int 3 (Int.ofNat 1)) h fun x15 h => aArith imul x6 x15 h fun x16 h => aArith iadd x9 (AV.int 3 (Int.ofNat 1)) h fun x17 h => kc5 [x16, x7, x8, x17] h) (some (x6, h))) (hd vs) (hd (tl vs)) (hd (tl (tl vs))) (hd (tl (tl (tl vs))))
noncomputable def c_impl_node_tops (F g : Nat) : AV → H → Option R := Nat.rec (motive := fun _ => AV → H → Option R) (fun _ _ => none) (fun g self a0 h => aNilCheck a0 h fun x1 h => aField 2 x1 h fun x2 h => aLoad x2 h fun x3 h => aLenK 1 x3 h fun x4 h => loopD F (c_impl_node_tops_l1 F g self) [(AV.int 3 (Int.ofNat 1)), x3, x4, (AV.int 3 (Int.ofNat 0))] h) g
noncomputable def A_impl_node_tops : An := (.two .o (.two .o (.two (.two .o (.two (.at_ [3, 9, 10, 11] (.two .o (.two (.two .o .o) (.two (.two (.two .o .o) .o) .o))) .o) .o)) (.two .o .o))))
noncomputable def b_impl_node_tops : Code := bodyOf Go.Proofs.Tryd.f30
theorem k_impl_node_tops (F g : Nat) (a0 : AV) (h : H) : callD Go.Proofs.Tryd.prog (Env.add (fun _ _ _ => none : Env) 30 (u1 (c_impl_node_tops F g))) 22 F b_impl_node_tops [2] A_impl_node_tops [a0] h = c_impl_node_tops F (g + 1) a0 h := by kernel_rfl
theorem s_impl_node_tops (F g : Nat) : ∀ args h r, u1 (c_impl_node_tops F g) args h = some r → Tri Go.Proofs.Tryd.prog 30 args h r := by
  induction g with
  | zero => intro args h r e; obtain ⟨a0, rfl, e⟩ := u1_some e; cases e
  | succ g ih => intro args h r e; obtain ⟨a0, rfl, e1⟩ := u1_some e; exact fn_sound Go.Proofs.Tryd.func30 rfl rfl rfl Go.Proofs.Tryd.ntmps30 (Sound.add (Sound.none _) ih) ((k_impl_node_tops F g a0 h).trans e1)

-- "loop.example/treenumbers/impl.CutTops"
noncomputable def c_impl_CutTops (F g : Nat) (a0 : AV) (h : H) : Option R := bindR (c_impl_readTree F g a0 h) fun x1 h => aExtract x1 0 h fun x2 h => aExtract x1 1 h fun x3 h => aNot x3 h fun x4 h => withBool x4 fun t5 => bc t5 (some (AV.one .tup (AV.cons (AV.int 3 (Int.ofNat 0)) (AV.cons (AV.bool false) (AV.leaf .nil))), h)) (bindR (c_impl_node_tops F g x2 h) fun x6 h => some (AV.one .tup (AV.cons x6 (AV.cons (AV.bool true) (AV.leaf .nil))), h))
noncomputable def A_impl_CutTops : An := (.two .o (.two .o (.two (.two .o (.two (.two .o .o) .o)) (.two .o .o))))
noncomputable def b_impl_CutTops : Code := bodyOf Go.Proofs.Tryd.f12
theorem k_impl_CutTops (F g : Nat) (a0 : AV) (h : H) : callD Go.Proofs.Tryd.prog (Env.add (Env.add (fun _ _ _ => none : Env) 23 (u1 (c_impl_readTree F g))) 30 (u1 (c_impl_node_tops F g))) 15 F b_impl_CutTops [2, 3] A_impl_CutTops [a0] h = c_impl_CutTops F g a0 h := by kernel_rfl
theorem s_impl_CutTops (F g : Nat) : ∀ args h r, u1 (c_impl_CutTops F g) args h = some r → Tri Go.Proofs.Tryd.prog 12 args h r := by
  intro args h r e; obtain ⟨a0, rfl, e1⟩ := u1_some e; exact fn_sound Go.Proofs.Tryd.func12 rfl rfl rfl Go.Proofs.Tryd.ntmps12 (Sound.add (Sound.add (Sound.none _) (s_impl_readTree F g)) (s_impl_node_tops F g)) ((k_impl_CutTops F g a0 h).trans e1)

-- "loop.example/treenumbers/laws.FnCuts"
noncomputable abbrev D_laws_FnCuts (F g : Nat) : Env := (fun _ _ _ => none : Env)
noncomputable def c_laws_FnCuts_j1 (F g : Nat) (vs : List AV) (h : H) : Option R := (fun x30 x31 => aPick x30 x31 (AV.bool false) h fun x32 h => some (x32, h)) (hd vs) (hd (tl vs))
noncomputable def c_laws_FnCuts_j2 (F g : Nat) (vs : List AV) (h : H) : Option R := (fun x65 x66 => aPick x65 (AV.bool true) x66 h fun x67 h => some (x67, h)) (hd vs) (hd (tl vs))
noncomputable def c_laws_FnCuts_j3 (F g : Nat) (vs : List AV) (h : H) : Option R := (fun x62 x63 x64 => guardB false x62 (aPick x63 x64 (AV.bool false) h fun x68 h => (c_laws_FnCuts_j2 F g) [x62, x68] h) ((c_laws_FnCuts_j2 F g) [x62, (AV.one .tup (AV.leaf .nil))] h)) (hd vs) (hd (tl vs)) (hd (tl (tl vs)))
noncomputable def c_laws_FnCuts_j4 (F g : Nat) (vs : List AV) (h : H) : Option R := (fun x58 x59 x60 x61 => guardB true x61 (aArith iadd x59 (AV.int 3 (Int.ofNat 1)) h fun x69 h => aCmpI ieq x58 x69 h fun x70 h => (c_laws_FnCuts_j3 F g) [x60, x61, x70] h) ((c_laws_FnCuts_j3 F g) [x60, x61, (AV.one .tup (AV.leaf .nil))] h)) (hd vs) (hd (tl vs)) (hd (tl (tl vs))) (hd (tl (tl (tl vs))))
noncomputable def c_laws_FnCuts_j5 (F g : Nat) (vs : List AV) (h : H) : Option R := (fun x53 x54 x55 x56 x57 => guardB false x55 (aPick x56 x57 (AV.bool false) h fun x71 h => (c_laws_FnCuts_j4 F g) [x53, x54, x55, x71] h) ((c_laws_FnCuts_j4 F g) [x53, x54, x55, (AV.one .tup (AV.leaf .nil))] h)) (hd vs) (hd (tl vs)) (hd (tl (tl vs))) (hd (tl (tl (tl vs)))) (hd (tl (tl (tl (tl vs)))))
noncomputable def c_laws_FnCuts_j6 (F g : Nat) (vs : List AV) (h : H) : Option R := (fun x48 x49 x50 x51 x52 => guardB true x52 ((c_laws_FnCuts_j5 F g) [x48, x49, x51, x52, x50] h) ((c_laws_FnCuts_j5 F g) [x48, x49, x51, x52, (AV.one .tup (AV.leaf .nil))] h)) (hd vs) (hd (tl vs)) (hd (tl (tl vs))) (hd (tl (tl (tl vs)))) (hd (tl (tl (tl (tl vs)))))
noncomputable def c_laws_FnCuts_j7 (F g : Nat) (vs : List AV) (h : H) : Option R := (fun x41 x42 x43 x44 x45 x46 => aPick x45 x46 (AV.bool false) h fun x47 h => guardB false x47 ((c_laws_FnCuts_j6 F g) [x41, x43, x44, x47, x42] h) ((c_laws_FnCuts_j6 F g) [x41, x43, x44, x47, (AV.one .tup (AV.leaf .nil))] h)) (hd vs) (hd (tl vs)) (hd (tl (tl vs))) (hd (tl (tl (tl vs)))) (hd (tl (tl (tl (tl vs))))) (hd (tl (tl (tl (tl (tl vs))))))
noncomputable def c_laws_FnCuts_j8 (F g : Nat) (vs : List AV) (h : H) : Option R := (fun x20 x21 x22 x23 x24 x25 x26 => aPick x25 (AV.bool true) x26 h fun x27 h => withBool x27 fun t28 => bc t28 (aEq false 0 x22 x24 h fun x29 h => guardB true x29 (aCmpI ieq x21 x23 h fun x33 h => (c_laws_FnCuts_j1 F g) [x29, x33] h) ((c_laws_FnCuts_j1 F g) [x29, (AV.one .tup (AV.leaf .nil))] h)) (bindR (c_impl_CutLeaf F g x20 h) fun x34 h => aExtract x34 0 h fun x35 h => aExtract x34 1 h fun x36 h => bindR (c_impl_CutTops F g x35 h) fun x37 h => aExtract x37 0 h fun x38 h => aExtract x37 1 h fun x39 h => aNot x36 h fun x40 h => guardB true x40 (aCmpI ieq x21 (AV.int 3 (Int.ofNat 1)) h fun x72 h => (c_laws_FnCuts_j7 F g) [x21, x36, x38, x39, x40, x72] h) ((c_laws_FnCuts_j7 F g) [x21, x36, x38, x39, x40, (AV.one .tup (AV.leaf .nil))] h))) (hd vs) (hd (tl vs)) (hd (tl (tl vs))) (hd (tl (tl (tl vs)))) (hd (tl (tl (tl (tl vs))))) (hd (tl (tl (tl (tl (tl vs)))))) (hd (tl (tl (tl (tl (tl (tl vs)))))))
noncomputable def c_laws_FnCuts_j9 (F g : Nat) (vs : List AV) (h : H) : Option R := (fun x12 x13 x14 x15 x16 x17 x18 => aPick x17 (AV.bool true) x18 h fun x19 h => guardB false x19 (aNot x14 h fun x73 h => (c_laws_FnCuts_j8 F g) [x12, x13, x14, x15, x16, x19, x73] h) ((c_laws_FnCuts_j8 F g) [x12, x13, x14, x15, x16, x19, (AV.one .tup (AV.leaf .nil))] h)) (hd vs) (hd (tl vs)) (hd (tl (tl vs))) (hd (tl (tl (tl vs)))) (hd (tl (tl (tl (tl vs))))) (hd (tl (tl (tl (tl (tl vs)))))) (hd (tl (tl (tl (tl (tl (tl vs)))))))
noncomputable def c_laws_FnCuts_r10 (F g : Nat) (x4 : AV) (h : H) : Option R := bindR (c_impl_CutCount F g (D_laws_FnCuts F g) x4 h) fun x5 h => aExtract x5 0 h fun x6 h => aExtract x5 1 h fun x7 h => bindR (c_spec_CutCount F g x4 h) fun x8 h => aExtract x8 0 h fun x9 h => aExtract x8 1 h fun x10 h => aEq true 0 x7 x10 h fun x11 h => guardB false x11 (aCmpI (fun a b => bnot (ieq a b)) x6 x9 h fun x74 h => (c_laws_FnCuts_j9 F g) [x4, x6, x7, x9, x10, x11, x74] h) ((c_laws_FnCuts_j9 F g) [x4, x6, x7, x9, x10, x11, (AV.one .tup (AV.leaf .nil))] h)
noncomputable def c_laws_FnCuts (F g : Nat) (a0 : AV) (h : H) : Option R := aLenK 1 a0 h fun x1 h => aCmpI (fun a b => ilt b a) x1 (AV.int 3 (Int.ofNat 1048576)) h fun x2 h => withBool x2 fun t3 => bc t3 (some ((AV.bool true), h)) (bindR (c_spec_DrawCutCount F g a0 h) fun x4 h => c_laws_FnCuts_r10 F g x4 h)
noncomputable def A_laws_FnCuts : An := (.two .o (.two (.two .o (.two (.two .o .o) .o)) (.two .o (.two .o (.two .o (.two (.two (.at_ [3, 4, 5, 6, 7, 30, 33] .o (.at_ [3, 4, 5, 6, 7, 35, 37] .o .o)) (.two (.two (.at_ [42, 45] .o .o) .o) .o)) (.two .o (.two .o (.two (.at_ [4, 9, 10, 11, 59, 61] .o (.at_ [4, 10, 11, 63, 65] .o (.at_ [4, 10, 63, 65, 66] .o (.at_ [4, 10, 63, 68] .o (.at_ [63, 68, 72] .o (.at_ [63, 73] .o .o)))))) .o)))))))))
noncomputable def b_laws_FnCuts : Code := bodyOf Go.Proofs.Tryd.f3
theorem k_laws_FnCuts (F g : Nat) (a0 : AV) (h : H) : callD Go.Proofs.Tryd.prog (Env.add (Env.add (Env.add (Env.add (Env.add (fun _ _ _ => none : Env) 8 (u1 (c_spec_DrawCutCount F g))) 9 (u1 (c_impl_CutCount F g (D_laws_FnCuts F g)))) 10 (u1 (c_spec_CutCount F g))) 11 (u1 (c_impl_CutLeaf F g))) 12 (u1 (c_impl_CutTops F g))) 75 F b_laws_FnCuts [2] A_laws_FnCuts [a0] h = c_laws_FnCuts F g a0 h := by kernel_rfl
theorem s_laws_FnCuts (F g : Nat) : ∀ args h r, u1 (c_laws_FnCuts F g) args h = some r → Tri Go.Proofs.Tryd.prog 3 args h r := by
  intro args h r e; obtain ⟨a0, rfl, e1⟩ := u1_some e; exact fn_sound Go.Proofs.Tryd.func3 rfl rfl rfl Go.Proofs.Tryd.ntmps3 (Sound.add (Sound.add (Sound.add (Sound.add (Sound.add (Sound.none _) (s_spec_DrawCutCount F g)) (s_impl_CutCount F g (D_laws_FnCuts F g) (Sound.none _))) (s_spec_CutCount F g)) (s_impl_CutLeaf F g)) (s_impl_CutTops F g)) ((k_laws_FnCuts F g a0 h).trans e1)

end
end Go.AI.T
