/- The functions that the law FnPairFar reaches, as the evaluator reads them. -/
import Derived.Test.YtjnmogmddhichaaPa2
import Derived.Test.YtjnmogmddhichaaProg
import Derived.KernelRfl
import Derived.Test.YtjnmogmddhichaaBsd
namespace Go.AI.Q
open Go Go.RowKit Go.AI
set_option linter.unusedVariables false
set_option linter.unusedSimpArgs false
set_option maxRecDepth 100000
noncomputable section
-- "loop.example/treenumbers/spec.DrawPairFar"
noncomputable def c_spec_DrawPairFar (F g : Nat) (a0 : AV) (h : H) : Option R := bindR (c_spec_l92Two F g a0 h) fun x1 h => aExtract x1 0 h fun x2 h => aExtract x1 1 h fun x3 h => some (AV.one .tup (AV.cons x2 (AV.cons x3 (AV.leaf .nil))), h)
noncomputable def A_spec_DrawPairFar : An := (.two .o (.two .o .o))
noncomputable def b_spec_DrawPairFar : Code := bodyOf Go.Proofs.Try.f14
theorem k_spec_DrawPairFar (F g : Nat) (a0 : AV) (h : H) : callD Go.Proofs.Try.prog (Env.add (fun _ _ _ => none : Env) 30 (u1 (c_spec_l92Two F g))) 8 F b_spec_DrawPairFar [2, 3] A_spec_DrawPairFar [a0] h = c_spec_DrawPairFar F g a0 h := by kernel_rfl
theorem s_spec_DrawPairFar (F g : Nat) : ∀ args h r, u1 (c_spec_DrawPairFar F g) args h = some r → Tri Go.Proofs.Try.prog 14 args h r := by
  intro args h r e; obtain ⟨a0, rfl, e1⟩ := u1_some e; exact fn_sound Go.Proofs.Try.func14 rfl rfl rfl Go.Proofs.Try.ntmps14 (Sound.add (Sound.none _) (s_spec_l92Two F g)) ((k_spec_DrawPairFar F g a0 h).trans e1)

end
end Go.AI.Q
namespace Go.AI.T
open Go Go.RowKit Go.AI
set_option linter.unusedVariables false
set_option linter.unusedSimpArgs false
set_option maxRecDepth 100000
noncomputable section
def c_spec_DrawPairFar (F g : Nat) (a0 : AV) (h : H) : Option R := quietC (Go.AI.Q.c_spec_DrawPairFar 20000 20) a0 h
theorem s_spec_DrawPairFar (F g : Nat) : ∀ args h r, u1 (c_spec_DrawPairFar F g) args h = some r → Tri Go.Proofs.Try.prog id_spec_DrawPairFar args h r := quietC_sound (Go.AI.Q.s_spec_DrawPairFar 20000 20)
theorem draw_FnPairFar {a0 : AV} {n : Nat} {L : List AV} {B : Blk} (F g : Nat) (ha : (a0 = .leaf .nils ∧ n = 0) ∨ a0 = .osl 0 0 n 1) (hB : 0 < n → B = .cells 2 L) (hb : ∀ i, i < n → ∃ v, L[i]? = some (.int 4 (.ofNat v)) ∧ v < 256) :
    ∃ s t, s ∈ Go.AI.Q.PLx ∧ t ∈ Go.AI.Q.PLx ∧ c_spec_DrawPairFar F g a0 (hCode B) = some (Go.AI.Q.pair s t, hCode B) := by
  obtain ⟨s, t, h', hs, ht, e2, hlo⟩ := Go.AI.Q.two_ok (F := 20000) (g := 20) (h := hCode B) (by omega) ha (fun hn => ⟨2, hB hn⟩) hb (Nat.le_refl _) (Nat.le_refl _)
  refine ⟨s, t, hs, ht, quietC_ok (h' := h') ?_ rfl hlo⟩
  show Go.AI.Q.c_spec_DrawPairFar 20000 20 a0 (hCode B) = _
  delta Go.AI.Q.c_spec_DrawPairFar
  rw [e2, bindR_some']
  rfl
end
end Go.AI.T
namespace Go.AI.T
open Go Go.RowKit Go.AI
set_option linter.unusedVariables false
set_option linter.unusedSimpArgs false
set_option maxRecDepth 100000
noncomputable section
-- "loop.example/treenumbers/impl.pairsIn"
noncomputable def c_impl_pairsIn_j1 (F g : Nat) (vs : List AV) (h : H) : Option R := (fun x29 x30 x31 => aPick x30 x31 (AV.bool false) h fun x32 h => some (AV.one .tup (AV.cons x29 (AV.cons x32 (AV.leaf .nil))), h)) (hd vs) (hd (tl vs)) (hd (tl (tl vs)))
noncomputable def c_impl_pairsIn (F g : Nat) : AV → H → Option R := Nat.rec (motive := fun _ => AV → H → Option R) (fun _ _ => none) (fun g self a0 h => aNilCheck a0 h fun x1 h => aField 2 x1 h fun x2 h => aLoad x2 h fun x3 h => aLenK 1 x3 h fun x4 h => aCmpI ieq x4 (AV.int 3 (Int.ofNat 0)) h fun x5 h => withBool x5 fun t6 => bc t6 (aBuild [] [] h fun x7 h => aMkIface 92 x7 h fun x8 h => some (AV.one .tup (AV.cons x8 (AV.cons (AV.bool true) (AV.leaf .nil))), h)) (aCmpI ieq x4 (AV.int 3 (Int.ofNat 2)) h fun x9 h => withBool x9 fun t10 => bc t10 (aNilCheck a0 h fun x11 h => aField 2 x11 h fun x12 h => aLoad x12 h fun x13 h => aIdxAddr 1 x13 (AV.int 3 (Int.ofNat 0)) h fun x14 h => aLoad x14 h fun x15 h => bindR (self x15 h) fun x16 h => aExtract x16 0 h fun x17 h => aExtract x16 1 h fun x18 h => aNilCheck a0 h fun x19 h => aField 2 x19 h fun x20 h => aLoad x20 h fun x21 h => aIdxAddr 1 x21 (AV.int 3 (Int.ofNat 1)) h fun x22 h => aLoad x22 h fun x23 h => bindR (self x23 h) fun x24 h => aExtract x24 0 h fun x25 h => aExtract x24 1 h fun x26 h => aBuild [(AV.leaf .nili), (AV.leaf .nili)] [(0, 1, x17), (1, 1, x25)] h fun x27 h => aMkIface 94 x27 h fun x28 h => guardB true x18 ((c_impl_pairsIn_j1 F g) [x28, x18, x26] h) ((c_impl_pairsIn_j1 F g) [x28, x18, (AV.one .tup (AV.leaf .nil))] h)) (some (AV.one .tup (AV.cons (AV.leaf .nili) (AV.cons (AV.bool false) (AV.leaf .nil))), h)))) g
noncomputable def A_impl_pairsIn : An := (.two .o (.two .o (.two (.two .o (.two (.two .o .o) (.two .o (.two (.two .o (.two .o (.two (.at_ [42, 44, 45] .o .o) .o))) (.two .o .o))))) .o)))
noncomputable def b_impl_pairsIn : Code := bodyOf Go.Proofs.Try.f71
theorem k_impl_pairsIn (F g : Nat) (a0 : AV) (h : H) : callD Go.Proofs.Try.prog (Env.add (fun _ _ _ => none : Env) 71 (u1 (c_impl_pairsIn F g))) 47 F b_impl_pairsIn [2, 3] A_impl_pairsIn [a0] h = c_impl_pairsIn F (g + 1) a0 h := by kernel_rfl
theorem s_impl_pairsIn (F g : Nat) : ∀ args h r, u1 (c_impl_pairsIn F g) args h = some r → Tri Go.Proofs.Try.prog 71 args h r := by
  induction g with
  | zero => intro args h r e; obtain ⟨a0, rfl, e⟩ := u1_some e; cases e
  | succ g ih => intro args h r e; obtain ⟨a0, rfl, e1⟩ := u1_some e; exact fn_sound Go.Proofs.Try.func71 rfl rfl rfl Go.Proofs.Try.ntmps71 (Sound.add (Sound.none _) ih) ((k_impl_pairsIn F g a0 h).trans e1)

-- "loop.example/treenumbers/impl.readPairs"
noncomputable def c_impl_readPairs (F g : Nat) (a0 : AV) (h : H) : Option R := bindR (c_impl_readTree F g a0 h) fun x1 h => aExtract x1 0 h fun x2 h => aExtract x1 1 h fun x3 h => aNot x3 h fun x4 h => withBool x4 fun t5 => bc t5 (some (AV.one .tup (AV.cons (AV.leaf .nili) (AV.cons (AV.bool false) (AV.leaf .nil))), h)) (bindR (c_impl_pairsIn F g x2 h) fun x6 h => aExtract x6 0 h fun x7 h => aExtract x6 1 h fun x8 h => some (AV.one .tup (AV.cons x7 (AV.cons x8 (AV.leaf .nil))), h))
noncomputable def A_impl_readPairs : An := (.two .o (.two .o (.two (.two .o (.two (.two .o .o) .o)) (.two .o .o))))
noncomputable def b_impl_readPairs : Code := bodyOf Go.Proofs.Try.f54
theorem k_impl_readPairs (F g : Nat) (a0 : AV) (h : H) : callD Go.Proofs.Try.prog (Env.add (Env.add (fun _ _ _ => none : Env) 27 (u1 (c_impl_readTree F g))) 71 (u1 (c_impl_pairsIn F g))) 17 F b_impl_readPairs [2, 3] A_impl_readPairs [a0] h = c_impl_readPairs F g a0 h := by kernel_rfl
theorem s_impl_readPairs (F g : Nat) : ∀ args h r, u1 (c_impl_readPairs F g) args h = some r → Tri Go.Proofs.Try.prog 54 args h r := by
  intro args h r e; obtain ⟨a0, rfl, e1⟩ := u1_some e; exact fn_sound Go.Proofs.Try.func54 rfl rfl rfl Go.Proofs.Try.ntmps54 (Sound.add (Sound.add (Sound.none _) (s_impl_readTree F g)) (s_impl_pairsIn F g)) ((k_impl_readPairs F g a0 h).trans e1)

-- "loop.example/treenumbers/impl.PairIn"
noncomputable def c_impl_PairIn (F g : Nat) (a0 : AV) (h : H) : Option R := bindR (c_impl_readPairs F g a0 h) fun x1 h => aExtract x1 0 h fun x2 h => aExtract x1 1 h fun x3 h => some (x3, h)
noncomputable def A_impl_PairIn : An := (.two .o (.two .o (.two .o .o)))
noncomputable def b_impl_PairIn : Code := bodyOf Go.Proofs.Try.f31
theorem k_impl_PairIn (F g : Nat) (a0 : AV) (h : H) : callD Go.Proofs.Try.prog (Env.add (fun _ _ _ => none : Env) 54 (u1 (c_impl_readPairs F g))) 11 F b_impl_PairIn [2] A_impl_PairIn [a0] h = c_impl_PairIn F g a0 h := by kernel_rfl
theorem s_impl_PairIn (F g : Nat) : ∀ args h r, u1 (c_impl_PairIn F g) args h = some r → Tri Go.Proofs.Try.prog 31 args h r := by
  intro args h r e; obtain ⟨a0, rfl, e1⟩ := u1_some e; exact fn_sound Go.Proofs.Try.func31 rfl rfl rfl Go.Proofs.Try.ntmps31 (Sound.add (Sound.none _) (s_impl_readPairs F g)) ((k_impl_PairIn F g a0 h).trans e1)

-- "slices.Index[[]string,string]"
noncomputable def c_slices_Index_49de_l1 (F g : Nat) : List AV → H → (List AV → H → Option R) → Option R := fun vs h kc2 => (fun x3 x4 x5 x6 => aCmpI ilt x6 x5 h fun x7 h => withBool x7 fun t8 => bc t8 (aIdxAddr 1 x3 x6 h fun x9 h => aLoad x9 h fun x10 h => aCmpS eqL x4 x10 h fun x11 h => withBool x11 fun t12 => bc t12 (some (x6, h)) (aArith iadd x6 (AV.int 3 (Int.ofNat 1)) h fun x13 h => kc2 [x3, x4, x5, x13] h)) (some ((AV.int 3 (Int.negSucc 0)), h))) (hd vs) (hd (tl vs)) (hd (tl (tl vs))) (hd (tl (tl (tl vs))))
noncomputable def c_slices_Index_49de (F g : Nat) (a0 a1 : AV) (h : H) : Option R := aLenK 1 a0 h fun x1 h => loopD F (c_slices_Index_49de_l1 F g) [a0, a1, x1, (AV.int 3 (Int.ofNat 0))] h
noncomputable def A_slices_Index_49de : An := (.two .o (.two (.two .o (.two (.at_ [0, 1, 7, 8] (.two .o (.two (.two .o .o) (.two (.two (.two .o (.two .o (.two (.two .o .o) .o))) .o) .o))) .o) .o)) (.two .o .o)))
noncomputable def b_slices_Index_49de : Code := bodyOf Go.Proofs.Try.f55
theorem k_slices_Index_49de (F g : Nat) (a0 a1 : AV) (h : H) : callD Go.Proofs.Try.prog (fun _ _ _ => none : Env) 19 F b_slices_Index_49de [4] A_slices_Index_49de [a0, a1] h = c_slices_Index_49de F g a0 a1 h := by kernel_rfl
theorem s_slices_Index_49de (F g : Nat) : ∀ args h r, u2 (c_slices_Index_49de F g) args h = some r → Tri Go.Proofs.Try.prog 55 args h r := by
  intro args h r e; obtain ⟨a0, a1, rfl, e1⟩ := u2_some e; exact fn_sound Go.Proofs.Try.func55 rfl rfl rfl Go.Proofs.Try.ntmps55 (Sound.none _) ((k_slices_Index_49de F g a0 a1 h).trans e1)

-- "slices.Contains[[]string,string]"
noncomputable def c_slices_Contains_49de (F g : Nat) (a0 a1 : AV) (h : H) : Option R := bindR (c_slices_Index_49de F g a0 a1 h) fun x1 h => aCmpI (fun a b => ile b a) x1 (AV.int 3 (Int.ofNat 0)) h fun x2 h => some (x2, h)
noncomputable def A_slices_Contains_49de : An := (.two .o (.two .o .o))
noncomputable def b_slices_Contains_49de : Code := bodyOf Go.Proofs.Try.f32
theorem k_slices_Contains_49de (F g : Nat) (a0 a1 : AV) (h : H) : callD Go.Proofs.Try.prog (Env.add (fun _ _ _ => none : Env) 55 (u2 (c_slices_Index_49de F g))) 9 F b_slices_Contains_49de [4] A_slices_Contains_49de [a0, a1] h = c_slices_Contains_49de F g a0 a1 h := by kernel_rfl
theorem s_slices_Contains_49de (F g : Nat) : ∀ args h r, u2 (c_slices_Contains_49de F g) args h = some r → Tri Go.Proofs.Try.prog 32 args h r := by
  intro args h r e; obtain ⟨a0, a1, rfl, e1⟩ := u2_some e; exact fn_sound Go.Proofs.Try.func32 rfl rfl rfl Go.Proofs.Try.ntmps32 (Sound.add (Sound.none _) (s_slices_Index_49de F g)) ((k_slices_Contains_49de F g a0 a1 h).trans e1)

-- "slices.Clone[[]string,string]"
noncomputable def c_slices_Clone_49de (F g : Nat) (a0 : AV) (h : H) : Option R := aEq false 2 a0 (AV.leaf .nils) h fun x1 h => withBool x1 fun t2 => bc t2 (some ((AV.leaf .nils), h)) (aBuildSlice 0 1 [] h fun x3 h => aAppend 1 16 x3 a0 h fun x4 h => some (x4, h))
noncomputable def A_slices_Clone_49de : An := (.two .o (.two (.two .o (.two (.two .o .o) .o)) (.two .o .o)))
noncomputable def b_slices_Clone_49de : Code := bodyOf Go.Proofs.Try.f56
theorem k_slices_Clone_49de (F g : Nat) (a0 : AV) (h : H) : callD Go.Proofs.Try.prog (fun _ _ _ => none : Env) 8 F b_slices_Clone_49de [2] A_slices_Clone_49de [a0] h = c_slices_Clone_49de F g a0 h := by kernel_rfl
theorem s_slices_Clone_49de (F g : Nat) : ∀ args h r, u1 (c_slices_Clone_49de F g) args h = some r → Tri Go.Proofs.Try.prog 56 args h r := by
  intro args h r e; obtain ⟨a0, rfl, e1⟩ := u1_some e; exact fn_sound Go.Proofs.Try.func56 rfl rfl rfl Go.Proofs.Try.ntmps56 (Sound.none _) ((k_slices_Clone_49de F g a0 h).trans e1)

-- "slices.Compact[[]string,string]"
noncomputable def c_slices_Compact_49de_j1 (F g : Nat) (kc18 : List AV → H → Option R) (vs : List AV) (h : H) : Option R := (fun x26 x27 x28 x29 => aArith iadd x29 (AV.int 3 (Int.ofNat 1)) h fun x30 h => kc18 [x26, x27, x28, x30] h) (hd vs) (hd (tl vs)) (hd (tl (tl vs))) (hd (tl (tl (tl vs))))
noncomputable def c_slices_Compact_49de_l2 (F g : Nat) : List AV → H → (List AV → H → Option R) → Option R := fun vs h kc18 => (fun x19 x20 x21 x22 => aLenK 1 x21 h fun x23 h => aCmpI ilt x22 x23 h fun x24 h => withBool x24 fun t25 => bc t25 (aIdxAddr 1 x21 x22 h fun x31 _ => aLoad x31 h fun x32 _ => aArith isub x22 (AV.int 3 (Int.ofNat 1)) h fun x33 _ => aIdxAddr 1 x21 x33 h fun x34 _ => aLoad x34 h fun x35 _ => aCmpS (fun a b => bnot (eqL a b)) x32 x35 h fun x36 _ => withBool x36 fun t37 => bc t37 (aIdxAddr 1 x21 x22 h fun x38 h => aLoad x38 h fun x39 h => aIdxAddr 1 x19 x20 h fun x40 h => aStore x40 x39 h fun x41 h => aArith iadd x20 (AV.int 3 (Int.ofNat 1)) h fun x42 h => (c_slices_Compact_49de_j1 F g kc18) [x19, x42, x21, x22] h) ((c_slices_Compact_49de_j1 F g kc18) [x19, x20, x21, x22] h)) (aSliceV 1 x19 (some x20) none none h fun x43 h => aClearS 1 [(AV.str [] 0)] x43 h fun x44 h => aSliceV 1 x19 none (some x20) none h fun x45 h => some (x45, h))) (hd vs) (hd (tl vs)) (hd (tl (tl vs))) (hd (tl (tl (tl vs))))
noncomputable def c_slices_Compact_49de_l3 (F g : Nat) : List AV → H → (List AV → H → Option R) → Option R := fun vs h kc4 => (fun x5 x6 => aLenK 1 x5 h fun x7 h => aCmpI ilt x6 x7 h fun x8 h => withBool x8 fun t9 => bc t9 (aIdxAddr 1 x5 x6 h fun x10 _ => aLoad x10 h fun x11 _ => aArith isub x6 (AV.int 3 (Int.ofNat 1)) h fun x12 _ => aIdxAddr 1 x5 x12 h fun x13 _ => aLoad x13 h fun x14 _ => aCmpS eqL x11 x14 h fun x15 _ => withBool x15 fun t16 => bc t16 (aSliceV 1 x5 (some x6) none none h fun x17 h => loopD F (c_slices_Compact_49de_l2 F g) [x5, x6, x17, (AV.int 3 (Int.ofNat 1))] h) (aArith iadd x6 (AV.int 3 (Int.ofNat 1)) h fun x46 h => kc4 [x5, x46] h)) (some (x5, h))) (hd vs) (hd (tl vs))
noncomputable def c_slices_Compact_49de (F g : Nat) (a0 : AV) (h : H) : Option R := aLenK 1 a0 h fun x1 h => aCmpI ilt x1 (AV.int 3 (Int.ofNat 2)) h fun x2 h => withBool x2 fun t3 => bc t3 (some (a0, h)) (loopD F (c_slices_Compact_49de_l3 F g) [a0, (AV.int 3 (Int.ofNat 1))] h)
noncomputable def A_slices_Compact_49de : An := (.two .o (.two (.two .o (.two (.two .o .o) .o)) (.two (.two .o (.two (.at_ [0, 3] (.two (.two .o (.two .o .o)) (.two (.two (.two .o (.two (.two .o (.two (.two .o (.two (.at_ [0, 3, 4, 5] (.two (.two .o (.two .o .o)) (.at_ [0, 3, 4, 5] (.two (.two .o (.two (.two .o .o) .o)) .o) .o)) .o) .o)) (.two .o (.two .o .o)))) .o)) .o) .o)) .o) .o)) (.two .o .o))))
noncomputable def b_slices_Compact_49de : Code := bodyOf Go.Proofs.Try.f59
theorem k_slices_Compact_49de (F g : Nat) (a0 : AV) (h : H) : callD Go.Proofs.Try.prog (fun _ _ _ => none : Env) 61 F b_slices_Compact_49de [2] A_slices_Compact_49de [a0] h = c_slices_Compact_49de F g a0 h := by kernel_rfl
theorem s_slices_Compact_49de (F g : Nat) : ∀ args h r, u1 (c_slices_Compact_49de F g) args h = some r → Tri Go.Proofs.Try.prog 59 args h r := by
  intro args h r e; obtain ⟨a0, rfl, e1⟩ := u1_some e; exact fn_sound Go.Proofs.Try.func59 rfl rfl rfl Go.Proofs.Try.ntmps59 (Sound.none _) ((k_slices_Compact_49de F g a0 h).trans e1)

-- "loop.example/treenumbers/impl.withBesides"
noncomputable def c_impl_withBesides_l1 (F g : Nat) : List AV → H → (List AV → H → Option R) → Option R := fun vs h kc3 => (fun x4 x5 x6 x7 => aCmpI ilt x7 x6 h fun x8 h => withBool x8 fun t9 => bc t9 (aIdxAddr 1 x5 x7 h fun x10 h => aLoad x10 h fun x11 h => bindR (c_impl_besides F g x11 h) fun x12 h => aAppend 1 16 x4 x12 h fun x13 h => aArith iadd x7 (AV.int 3 (Int.ofNat 1)) h fun x14 h => kc3 [x13, x5, x6, x14] h) (bindR (c_slices_Sort_49de F g x4 h) fun x15 h => bindR (c_slices_Compact_49de F g x4 h) fun x16 h => some (x16, h))) (hd vs) (hd (tl vs)) (hd (tl (tl vs))) (hd (tl (tl (tl vs))))
noncomputable def c_impl_withBesides (F g : Nat) (a0 : AV) (h : H) : Option R := bindR (c_slices_Clone_49de F g a0 h) fun x1 h => aLenK 1 a0 h fun x2 h => loopD F (c_impl_withBesides_l1 F g) [x1, a0, x2, (AV.int 3 (Int.ofNat 0))] h
noncomputable def A_impl_withBesides : An := (.two .o (.two .o (.two (.two .o (.two (.at_ [3, 8, 9, 10] (.two .o (.two (.two .o .o) (.two (.two (.two .o .o) .o) .o))) .o) .o)) (.two .o (.two .o .o)))))
noncomputable def b_impl_withBesides : Code := bodyOf Go.Proofs.Try.f33
theorem k_impl_withBesides (F g : Nat) (a0 : AV) (h : H) : callD Go.Proofs.Try.prog (Env.add (Env.add (Env.add (Env.add (fun _ _ _ => none : Env) 56 (u1 (c_slices_Clone_49de F g))) 57 (u1 (c_impl_besides F g))) 58 (u1 (c_slices_Sort_49de F g))) 59 (u1 (c_slices_Compact_49de F g))) 23 F b_impl_withBesides [2] A_impl_withBesides [a0] h = c_impl_withBesides F g a0 h := by kernel_rfl
theorem s_impl_withBesides (F g : Nat) : ∀ args h r, u1 (c_impl_withBesides F g) args h = some r → Tri Go.Proofs.Try.prog 33 args h r := by
  intro args h r e; obtain ⟨a0, rfl, e1⟩ := u1_some e; exact fn_sound Go.Proofs.Try.func33 rfl rfl rfl Go.Proofs.Try.ntmps33 (Sound.add (Sound.add (Sound.add (Sound.add (Sound.none _) (s_slices_Clone_49de F g)) (s_impl_besides F g)) (s_slices_Sort_49de F g)) (s_slices_Compact_49de F g)) ((k_impl_withBesides F g a0 h).trans e1)

-- "loop.example/treenumbers/impl.PairFar"
noncomputable def c_impl_PairFar_l1 (F g : Nat) : List AV → H → (List AV → H → Option R) → Option R := fun vs h kc10 => (fun x11 x12 x13 => bindR (c_slices_Contains_49de F g x12 x11 h) fun x14 h => withBool x14 fun t15 => bc t15 (some (AV.one .tup (AV.cons x13 (AV.cons (AV.bool true) (AV.leaf .nil))), h)) (bindR (c_impl_withBesides F g x12 h) fun x16 h => aLenK 1 x16 h fun x17 h => aLenK 1 x12 h fun x18 h => aCmpI ieq x17 x18 h fun x19 h => withBool x19 fun t20 => bc t20 (some (AV.one .tup (AV.cons (AV.int 3 (Int.ofNat 0)) (AV.cons (AV.bool false) (AV.leaf .nil))), h)) (aArith iadd x13 (AV.int 3 (Int.ofNat 1)) h fun x21 h => kc10 [x11, x16, x21] h))) (hd vs) (hd (tl vs)) (hd (tl (tl vs)))
noncomputable def c_impl_PairFar_j2 (F g : Nat) (vs : List AV) (h : H) : Option R := (fun x3 x4 x5 x6 => aPick x5 (AV.bool true) x6 h fun x7 h => withBool x7 fun t8 => bc t8 (some (AV.one .tup (AV.cons (AV.int 3 (Int.ofNat 0)) (AV.cons (AV.bool false) (AV.leaf .nil))), h)) (aBuildSlice 1 1 [(0, 1, x3)] h fun x9 h => loopD F (c_impl_PairFar_l1 F g) [x4, x9, (AV.int 3 (Int.ofNat 0))] h)) (hd vs) (hd (tl vs)) (hd (tl (tl vs))) (hd (tl (tl (tl vs))))
noncomputable def c_impl_PairFar (F g : Nat) (a0 a1 : AV) (h : H) : Option R := bindR (c_impl_PairIn F g a0 h) fun x1 h => aNot x1 h fun x2 h => guardB false x2 (bindR (c_impl_PairIn F g a1 h) fun x22 h => aNot x22 h fun x23 h => (c_impl_PairFar_j2 F g) [a0, a1, x2, x23] h) ((c_impl_PairFar_j2 F g) [a0, a1, x2, (AV.one .tup (AV.leaf .nil))] h)
noncomputable def A_impl_PairFar : An := (.two .o (.two (.two (.at_ [0, 1, 12, 15] .o .o) (.two (.two .o .o) .o)) (.two .o (.two .o (.two (.at_ [1, 6, 7] (.two (.two (.two (.two .o (.two (.two .o .o) .o)) (.two .o (.two (.two .o (.two (.two .o .o) .o)) .o))) .o) .o) .o) .o)))))
noncomputable def b_impl_PairFar : Code := bodyOf Go.Proofs.Try.f15
theorem k_impl_PairFar (F g : Nat) (a0 a1 : AV) (h : H) : callD Go.Proofs.Try.prog (Env.add (Env.add (Env.add (fun _ _ _ => none : Env) 31 (u1 (c_impl_PairIn F g))) 32 (u2 (c_slices_Contains_49de F g))) 33 (u1 (c_impl_withBesides F g))) 33 F b_impl_PairFar [4, 5] A_impl_PairFar [a0, a1] h = c_impl_PairFar F g a0 a1 h := by kernel_rfl
theorem s_impl_PairFar (F g : Nat) : ∀ args h r, u2 (c_impl_PairFar F g) args h = some r → Tri Go.Proofs.Try.prog 15 args h r := by
  intro args h r e; obtain ⟨a0, a1, rfl, e1⟩ := u2_some e; exact fn_sound Go.Proofs.Try.func15 rfl rfl rfl Go.Proofs.Try.ntmps15 (Sound.add (Sound.add (Sound.add (Sound.none _) (s_impl_PairIn F g)) (s_slices_Contains_49de F g)) (s_impl_withBesides F g)) ((k_impl_PairFar F g a0 a1 h).trans e1)

-- "loop.example/treenumbers/spec.l1End"
noncomputable def c_spec_l1End_j1 (F g : Nat) (kc1 : List AV → H → Option R) (vs : List AV) (h : H) : Option R := (fun x8 x9 x10 => aCmpI ieq x9 (AV.int 3 (Int.ofNat 0)) h fun x11 h => withBool x11 fun t12 => bc t12 (aArith iadd x10 (AV.int 3 (Int.ofNat 1)) h fun x13 h => some (x13, h)) (aCmpI ilt x9 (AV.int 3 (Int.ofNat 0)) h fun x14 h => withBool x14 fun t15 => bc t15 (some ((AV.int 3 (Int.negSucc 0)), h)) (aArith iadd x10 (AV.int 3 (Int.ofNat 1)) h fun x16 h => kc1 [x8, x9, x16] h))) (hd vs) (hd (tl vs)) (hd (tl (tl vs)))
noncomputable def c_spec_l1End_l2 (F g : Nat) : List AV → H → (List AV → H → Option R) → Option R := fun vs h kc1 => (fun x2 x3 x4 => aLenK 0 x2 h fun x5 h => aCmpI ilt x4 x5 h fun x6 h => withBool x6 fun t7 => bc t7 (aIdxStr x2 x4 h fun x17 h => aCmpI ieq x17 (AV.int 4 (Int.ofNat 40)) h fun x18 h => withBool x18 fun t19 => bc t19 (aArith iadd x3 (AV.int 3 (Int.ofNat 1)) h fun x20 h => (c_spec_l1End_j1 F g kc1) [x2, x20, x4] h) (aCmpI ieq x17 (AV.int 4 (Int.ofNat 41)) h fun x21 h => withBool x21 fun t22 => bc t22 (aArith isub x3 (AV.int 3 (Int.ofNat 1)) h fun x23 h => (c_spec_l1End_j1 F g kc1) [x2, x23, x4] h) (some ((AV.int 3 (Int.negSucc 0)), h)))) (some ((AV.int 3 (Int.negSucc 0)), h))) (hd vs) (hd (tl vs)) (hd (tl (tl vs)))
noncomputable def c_spec_l1End (F g : Nat) (a0 a1 : AV) (h : H) : Option R := loopD F (c_spec_l1End_l2 F g) [a0, (AV.int 3 (Int.ofNat 0)), a1] h
noncomputable def A_spec_l1End : An := (.two .o (.two .o (.two (.two .o (.two (.at_ [0, 5, 6] (.two (.two .o (.two .o .o)) (.two (.two (.at_ [0, 5, 6] (.two .o (.two (.two .o (.two .o (.two .o (.two .o (.two .o .o))))) .o)) (.two (.two .o (.two (.two .o .o) .o)) (.two .o (.two (.two .o .o) .o)))) .o) .o)) .o) .o)) (.two .o .o))))
noncomputable def b_spec_l1End : Code := bodyOf Go.Proofs.Try.f47
theorem k_spec_l1End (F g : Nat) (a0 a1 : AV) (h : H) : callD Go.Proofs.Try.prog (fun _ _ _ => none : Env) 31 F b_spec_l1End [4] A_spec_l1End [a0, a1] h = c_spec_l1End F g a0 a1 h := by kernel_rfl
theorem s_spec_l1End (F g : Nat) : ∀ args h r, u2 (c_spec_l1End F g) args h = some r → Tri Go.Proofs.Try.prog 47 args h r := by
  intro args h r e; obtain ⟨a0, a1, rfl, e1⟩ := u2_some e; exact fn_sound Go.Proofs.Try.func47 rfl rfl rfl Go.Proofs.Try.ntmps47 (Sound.none _) ((k_spec_l1End F g a0 a1 h).trans e1)

-- "loop.example/treenumbers/spec.l1Kids"
noncomputable def c_spec_l1Kids_l1 (F g : Nat) : List AV → H → (List AV → H → Option R) → Option R := fun vs h kc2 => (fun x3 x4 x5 => aLenK 0 x3 h fun x6 h => aArith isub x6 (AV.int 3 (Int.ofNat 1)) h fun x7 h => aCmpI ilt x5 x7 h fun x8 h => withBool x8 fun t9 => bc t9 (bindR (c_spec_l1End F g x3 x5 h) fun x10 h => aSliceS x3 (some x5) (some x10) none h fun x11 h => aBuildSlice 1 1 [(0, 1, x11)] h fun x12 h => aAppend 1 16 x4 x12 h fun x13 h => kc2 [x3, x13, x10] h) (some (x4, h))) (hd vs) (hd (tl vs)) (hd (tl (tl vs)))
noncomputable def c_spec_l1Kids (F g : Nat) (a0 : AV) (h : H) : Option R := aBuildSlice 0 1 [] h fun x1 h => loopD F (c_spec_l1Kids_l1 F g) [a0, x1, (AV.int 3 (Int.ofNat 1))] h
noncomputable def A_spec_l1Kids : An := (.two .o (.two .o (.two .o (.two (.two (.at_ [0, 3, 4] (.two (.two .o (.two .o .o)) (.two (.two .o (.two .o .o)) .o)) .o) .o) (.two .o .o)))))
noncomputable def b_spec_l1Kids : Code := bodyOf Go.Proofs.Try.f48
theorem k_spec_l1Kids (F g : Nat) (a0 : AV) (h : H) : callD Go.Proofs.Try.prog (Env.add (fun _ _ _ => none : Env) 47 (u2 (c_spec_l1End F g))) 24 F b_spec_l1Kids [2] A_spec_l1Kids [a0] h = c_spec_l1Kids F g a0 h := by kernel_rfl
theorem s_spec_l1Kids (F g : Nat) : ∀ args h r, u1 (c_spec_l1Kids F g) args h = some r → Tri Go.Proofs.Try.prog 48 args h r := by
  intro args h r e; obtain ⟨a0, rfl, e1⟩ := u1_some e; exact fn_sound Go.Proofs.Try.func48 rfl rfl rfl Go.Proofs.Try.ntmps48 (Sound.add (Sound.none _) (s_spec_l1End F g)) ((k_spec_l1Kids F g a0 h).trans e1)

-- "loop.example/treenumbers/spec.l8In"
noncomputable def c_spec_l8In_j1 (F g : Nat) (vs : List AV) (h : H) : Option R := (fun x16 x17 => aPick x16 (AV.bool true) x17 h fun x18 h => some (x18, h)) (hd vs) (hd (tl vs))
noncomputable def c_spec_l8In_l2 (F g : Nat) (self : AV → H → Option R) : List AV → H → (List AV → H → Option R) → Option R := fun vs h kc2 => (fun x3 x4 => aLenK 1 x3 h fun x5 h => aCmpI ilt x4 x5 h fun x6 h => withBool x6 fun t7 => bc t7 (aIdxAddr 1 x3 x4 h fun x8 h => aLoad x8 h fun x9 h => bindR (self x9 h) fun x10 h => aNot x10 h fun x11 h => withBool x11 fun t12 => bc t12 (some ((AV.bool false), h)) (aArith iadd x4 (AV.int 3 (Int.ofNat 1)) h fun x13 h => kc2 [x3, x13] h)) (aLenK 1 x3 h fun x14 h => aCmpI ieq x14 (AV.int 3 (Int.ofNat 0)) h fun x15 h => guardB false x15 (aLenK 1 x3 h fun x19 h => aCmpI ieq x19 (AV.int 3 (Int.ofNat 2)) h fun x20 h => (c_spec_l8In_j1 F g) [x15, x20] h) ((c_spec_l8In_j1 F g) [x15, (AV.one .tup (AV.leaf .nil))] h))) (hd vs) (hd (tl vs))
noncomputable def c_spec_l8In (F g : Nat) : AV → H → Option R := Nat.rec (motive := fun _ => AV → H → Option R) (fun _ _ => none) (fun g self a0 h => bindR (c_spec_l1Kids F g a0 h) fun x1 h => loopD F (c_spec_l8In_l2 F g self) [x1, (AV.int 3 (Int.ofNat 0))] h) g
noncomputable def A_spec_l8In : An := (.two .o (.two .o (.two (.two .o (.two (.at_ [3, 4] (.two (.two .o (.two .o .o)) (.two (.two (.two .o (.two (.two .o .o) .o)) .o) .o)) .o) .o)) (.two (.at_ [22, 25] .o .o) .o))))
noncomputable def b_spec_l8In : Code := bodyOf Go.Proofs.Try.f60
theorem k_spec_l8In (F g : Nat) (a0 : AV) (h : H) : callD Go.Proofs.Try.prog (Env.add (Env.add (fun _ _ _ => none : Env) 48 (u1 (c_spec_l1Kids F g))) 60 (u1 (c_spec_l8In F g))) 27 F b_spec_l8In [2] A_spec_l8In [a0] h = c_spec_l8In F (g + 1) a0 h := by kernel_rfl
theorem s_spec_l8In (F g : Nat) : ∀ args h r, u1 (c_spec_l8In F g) args h = some r → Tri Go.Proofs.Try.prog 60 args h r := by
  induction g with
  | zero => intro args h r e; obtain ⟨a0, rfl, e⟩ := u1_some e; cases e
  | succ g ih => intro args h r e; obtain ⟨a0, rfl, e1⟩ := u1_some e; exact fn_sound Go.Proofs.Try.func60 rfl rfl rfl Go.Proofs.Try.ntmps60 (Sound.add (Sound.add (Sound.none _) (s_spec_l1Kids F g)) ih) ((k_spec_l8In F g a0 h).trans e1)

-- "loop.example/treenumbers/spec.PairIn"
noncomputable def c_spec_PairIn_j1 (F g : Nat) (vs : List AV) (h : H) : Option R := (fun x2 x3 => aPick x2 x3 (AV.bool false) h fun x4 h => some (x4, h)) (hd vs) (hd (tl vs))
noncomputable def c_spec_PairIn (F g : Nat) (a0 : AV) (h : H) : Option R := bindR (c_spec_TreeIn F g a0 h) fun x1 h => guardB true x1 (bindR (c_spec_l8In F g a0 h) fun x5 h => (c_spec_PairIn_j1 F g) [x1, x5] h) ((c_spec_PairIn_j1 F g) [x1, (AV.one .tup (AV.leaf .nil))] h)
noncomputable def A_spec_PairIn : An := (.two .o (.two (.at_ [5, 7] .o .o) .o))
noncomputable def b_spec_PairIn : Code := bodyOf Go.Proofs.Try.f34
theorem k_spec_PairIn (F g : Nat) (a0 : AV) (h : H) : callD Go.Proofs.Try.prog (Env.add (Env.add (fun _ _ _ => none : Env) 25 (u1 (c_spec_TreeIn F g))) 60 (u1 (c_spec_l8In F g))) 9 F b_spec_PairIn [2] A_spec_PairIn [a0] h = c_spec_PairIn F g a0 h := by kernel_rfl
theorem s_spec_PairIn (F g : Nat) : ∀ args h r, u1 (c_spec_PairIn F g) args h = some r → Tri Go.Proofs.Try.prog 34 args h r := by
  intro args h r e; obtain ⟨a0, rfl, e1⟩ := u1_some e; exact fn_sound Go.Proofs.Try.func34 rfl rfl rfl Go.Proofs.Try.ntmps34 (Sound.add (Sound.add (Sound.none _) (s_spec_TreeIn F g)) (s_spec_l8In F g)) ((k_spec_PairIn F g a0 h).trans e1)

-- "loop.example/treenumbers/spec.l8More"
noncomputable def c_spec_l8More_j1 (F g : Nat) (kc1 : List AV → H → Option R) (vs : List AV) (h : H) : Option R := (fun x8 x9 x10 => aArith iadd x10 (AV.int 3 (Int.ofNat 1)) h fun x11 h => kc1 [x8, x9, x11] h) (hd vs) (hd (tl vs)) (hd (tl (tl vs)))
noncomputable def c_spec_l8More_j2 (F g : Nat) (kc12 : List AV → H → Option R) (vs : List AV) (h : H) : Option R := (fun x21 x22 x23 x24 x25 x26 => aPick x25 x26 (AV.bool false) h fun x27 _ => aArith iadd x24 (AV.int 3 (Int.ofNat 1)) h fun x28 h => kc12 [x21, x22, x23, x27, x28] h) (hd vs) (hd (tl vs)) (hd (tl (tl vs))) (hd (tl (tl (tl vs)))) (hd (tl (tl (tl (tl vs))))) (hd (tl (tl (tl (tl (tl vs))))))
noncomputable def c_spec_l8More_l3 (F g : Nat) (kc1 : List AV → H → Option R) : List AV → H → (List AV → H → Option R) → Option R := fun vs h kc12 => (fun x13 x14 x15 x16 x17 => aLenK 1 x13 h fun x18 h => aCmpI ilt x17 x18 h fun x19 h => withBool x19 fun t20 => bc t20 (guardB true x16 (aIdxAddr 1 x13 x17 h fun x29 _ => aLoad x29 h fun x30 _ => aIdxAddr 1 x14 x15 h fun x31 _ => aLoad x31 h fun x32 _ => aCmpS (fun a b => bnot (eqL a b)) x30 x32 h fun x33 _ => (c_spec_l8More_j2 F g kc12) [x13, x14, x15, x17, x16, x33] h) ((c_spec_l8More_j2 F g kc12) [x13, x14, x15, x17, x16, (AV.one .tup (AV.leaf .nil))] h)) (withBool x16 fun t34 => bc t34 (aIdxAddr 1 x14 x15 h fun x35 h => aLoad x35 h fun x36 h => aBuildSlice 1 1 [(0, 1, x36)] h fun x37 h => aAppend 1 16 x13 x37 h fun x38 h => (c_spec_l8More_j1 F g kc1) [x38, x14, x15] h) ((c_spec_l8More_j1 F g kc1) [x13, x14, x15] h))) (hd vs) (hd (tl vs)) (hd (tl (tl vs))) (hd (tl (tl (tl vs)))) (hd (tl (tl (tl (tl vs)))))
noncomputable def c_spec_l8More_l4 (F g : Nat) : List AV → H → (List AV → H → Option R) → Option R := fun vs h kc1 => (fun x2 x3 x4 => aLenK 1 x3 h fun x5 h => aCmpI ilt x4 x5 h fun x6 h => withBool x6 fun t7 => bc t7 (loopD F (c_spec_l8More_l3 F g kc1) [x2, x3, x4, (AV.bool true), (AV.int 3 (Int.ofNat 0))] h) (some (x2, h))) (hd vs) (hd (tl vs)) (hd (tl (tl vs)))
noncomputable def c_spec_l8More (F g : Nat) (a0 a1 : AV) (h : H) : Option R := loopD F (c_spec_l8More_l4 F g) [a0, a1, (AV.int 3 (Int.ofNat 0))] h
noncomputable def A_spec_l8More : An := (.two .o (.two (.two .o (.two (.at_ [0, 1, 5] (.two (.two .o (.two .o .o)) (.at_ [0, 1, 5] (.two (.two .o (.two (.two .o (.two (.at_ [0, 1, 5, 6, 7] (.two (.two .o (.two .o .o)) (.two (.two (.at_ [0, 1, 5, 7, 21, 30] .o .o) .o) .o)) .o) .o)) (.two .o (.two .o .o)))) .o) .o)) .o) .o)) (.two .o .o)))
noncomputable def b_spec_l8More : Code := bodyOf Go.Proofs.Try.f35
theorem k_spec_l8More (F g : Nat) (a0 a1 : AV) (h : H) : callD Go.Proofs.Try.prog (fun _ _ _ => none : Env) 41 F b_spec_l8More [4] A_spec_l8More [a0, a1] h = c_spec_l8More F g a0 a1 h := by kernel_rfl
theorem s_spec_l8More (F g : Nat) : ∀ args h r, u2 (c_spec_l8More F g) args h = some r → Tri Go.Proofs.Try.prog 35 args h r := by
  intro args h r e; obtain ⟨a0, a1, rfl, e1⟩ := u2_some e; exact fn_sound Go.Proofs.Try.func35 rfl rfl rfl Go.Proofs.Try.ntmps35 (Sound.none _) ((k_spec_l8More F g a0 a1 h).trans e1)

-- "loop.example/treenumbers/spec.PairFar"
noncomputable def c_spec_PairFar_l1 (F g : Nat) (kc16 : List AV → H → Option R) : List AV → H → (List AV → H → Option R) → Option R := fun vs h kc22 => (fun x23 x24 x25 x26 x27 x28 => aLenK 1 x24 h fun x29 h => aCmpI ilt x28 x29 h fun x30 h => withBool x30 fun t31 => bc t31 (aIdxAddr 1 x24 x28 h fun x32 h => aLoad x32 h fun x33 h => aCmpS eqL x33 x23 h fun x34 h => withBool x34 fun t35 => bc t35 (some (AV.one .tup (AV.cons x26 (AV.cons (AV.bool true) (AV.leaf .nil))), h)) (aLenK 1 x25 h fun x36 h => aIdxAddr 1 x24 x28 h fun x37 h => aLoad x37 h fun x38 h => bindR (c_spec_l8Turns F g x38 h) fun x39 h => bindR (c_spec_l8More F g x25 x39 h) fun x40 h => aIdxAddr 1 x24 x28 h fun x41 h => aLoad x41 h fun x42 h => bindR (c_spec_l8Undone F g x42 h) fun x43 h => bindR (c_spec_l8More F g x40 x43 h) fun x44 h => aSliceV 1 x44 (some x36) none none h fun x45 h => aAppend 1 16 x27 x45 h fun x46 h => aArith iadd x28 (AV.int 3 (Int.ofNat 1)) h fun x47 h => kc22 [x23, x24, x44, x26, x46, x47] h)) (aArith iadd x26 (AV.int 3 (Int.ofNat 1)) h fun x48 h => kc16 [x23, x27, x25, x48] h)) (hd vs) (hd (tl vs)) (hd (tl (tl vs))) (hd (tl (tl (tl vs)))) (hd (tl (tl (tl (tl vs))))) (hd (tl (tl (tl (tl (tl vs))))))
noncomputable def c_spec_PairFar_l2 (F g : Nat) : List AV → H → (List AV → H → Option R) → Option R := fun vs h kc16 => (fun x17 x18 x19 x20 => aBuildSlice 0 1 [] h fun x21 h => loopD F (c_spec_PairFar_l1 F g kc16) [x17, x18, x19, x20, x21, (AV.int 3 (Int.ofNat 0))] h) (hd vs) (hd (tl vs)) (hd (tl (tl vs))) (hd (tl (tl (tl vs))))
noncomputable def c_spec_PairFar_j3 (F g : Nat) (vs : List AV) (h : H) : Option R := (fun x8 x9 x10 x11 => aPick x10 (AV.bool true) x11 h fun x12 h => withBool x12 fun t13 => bc t13 (some (AV.one .tup (AV.cons (AV.int 3 (Int.ofNat 0)) (AV.cons (AV.bool false) (AV.leaf .nil))), h)) (aBuildSlice 1 1 [(0, 1, x8)] h fun x14 h => aBuildSlice 1 1 [(0, 1, x8)] h fun x15 h => loopD F (c_spec_PairFar_l2 F g) [x9, x14, x15, (AV.int 3 (Int.ofNat 0))] h)) (hd vs) (hd (tl vs)) (hd (tl (tl vs))) (hd (tl (tl (tl vs))))
noncomputable def c_spec_PairFar_j4 (F g : Nat) (vs : List AV) (h : H) : Option R := (fun x3 x4 x5 x6 => aPick x5 (AV.bool true) x6 h fun x7 h => guardB false x7 (aLenK 0 x3 h fun x49 h => aLenK 0 x4 h fun x50 h => aCmpI (fun a b => bnot (ieq a b)) x49 x50 h fun x51 h => (c_spec_PairFar_j3 F g) [x3, x4, x7, x51] h) ((c_spec_PairFar_j3 F g) [x3, x4, x7, (AV.one .tup (AV.leaf .nil))] h)) (hd vs) (hd (tl vs)) (hd (tl (tl vs))) (hd (tl (tl (tl vs))))
noncomputable def c_spec_PairFar (F g : Nat) (a0 a1 : AV) (h : H) : Option R := bindR (c_spec_PairIn F g a0 h) fun x1 h => aNot x1 h fun x2 h => guardB false x2 (bindR (c_spec_PairIn F g a1 h) fun x52 h => aNot x52 h fun x53 h => (c_spec_PairFar_j4 F g) [a0, a1, x2, x53] h) ((c_spec_PairFar_j4 F g) [a0, a1, x2, (AV.one .tup (AV.leaf .nil))] h)
noncomputable def A_spec_PairFar : An := (.two .o (.two (.two (.at_ [0, 1, 15, 18] .o (.at_ [0, 1, 20, 25] .o .o)) (.two (.two .o .o) .o)) (.two .o (.two .o (.two .o (.two (.at_ [1, 6, 7, 8] (.two (.two (.two .o (.two (.two .o (.two (.at_ [1, 6, 7, 8, 9, 10] (.two (.two .o (.two .o .o)) (.two (.two (.two (.two .o (.two (.two .o .o) .o)) (.two .o (.two .o (.two .o .o)))) .o) .o)) .o) .o)) .o)) .o) .o) .o) .o))))))
noncomputable def b_spec_PairFar : Code := bodyOf Go.Proofs.Try.f16
theorem k_spec_PairFar (F g : Nat) (a0 a1 : AV) (h : H) : callD Go.Proofs.Try.prog (Env.add (Env.add (Env.add (Env.add (fun _ _ _ => none : Env) 34 (u1 (c_spec_PairIn F g))) 36 (u1 (c_spec_l8Turns F g))) 35 (u2 (c_spec_l8More F g))) 37 (u1 (c_spec_l8Undone F g))) 69 F b_spec_PairFar [4, 5] A_spec_PairFar [a0, a1] h = c_spec_PairFar F g a0 a1 h := by kernel_rfl
theorem s_spec_PairFar (F g : Nat) : ∀ args h r, u2 (c_spec_PairFar F g) args h = some r → Tri Go.Proofs.Try.prog 16 args h r := by
  intro args h r e; obtain ⟨a0, a1, rfl, e1⟩ := u2_some e; exact fn_sound Go.Proofs.Try.func16 rfl rfl rfl Go.Proofs.Try.ntmps16 (Sound.add (Sound.add (Sound.add (Sound.add (Sound.none _) (s_spec_PairIn F g)) (s_spec_l8Turns F g)) (s_spec_l8More F g)) (s_spec_l8Undone F g)) ((k_spec_PairFar F g a0 a1 h).trans e1)

-- "slices.Reverse[[]*loop.example/treenumbers/impl.node,*loop.example/treenumbers/impl.node]"
noncomputable def c_slices_Reverse_4168_l1 (F g : Nat) : List AV → H → (List AV → H → Option R) → Option R := fun vs h kc3 => (fun x4 x5 x6 => aCmpI ilt x5 x6 h fun x7 h => withBool x7 fun t8 => bc t8 (aIdxAddr 1 x4 x6 h fun x9 _ => aLoad x9 h fun x10 _ => aIdxAddr 1 x4 x5 h fun x11 _ => aLoad x11 h fun x12 _ => aIdxAddr 1 x4 x5 h fun x13 _ => aStore x13 x10 h fun x14 h => aIdxAddr 1 x4 x6 h fun x15 _ => aStore x15 x12 h fun x16 h => aArith iadd x5 (AV.int 3 (Int.ofNat 1)) h fun x17 h => aArith isub x6 (AV.int 3 (Int.ofNat 1)) h fun x18 h => kc3 [x4, x17, x18] h) (some (AV.one .tup (AV.leaf .nil), h))) (hd vs) (hd (tl vs)) (hd (tl (tl vs)))
noncomputable def c_slices_Reverse_4168 (F g : Nat) (a0 : AV) (h : H) : Option R := aLenK 1 a0 h fun x1 h => aArith isub x1 (AV.int 3 (Int.ofNat 1)) h fun x2 h => loopD F (c_slices_Reverse_4168_l1 F g) [a0, (AV.int 3 (Int.ofNat 0)), x2] h
noncomputable def A_slices_Reverse_4168 : An := (.two .o (.two (.at_ [0, 2, 3] (.two (.two .o (.two .o .o)) (.two (.two .o .o) .o)) .o) .o))
noncomputable def b_slices_Reverse_4168 : Code := bodyOf Go.Proofs.Try.f64
theorem k_slices_Reverse_4168 (F g : Nat) (a0 : AV) (h : H) : callD Go.Proofs.Try.prog (fun _ _ _ => none : Env) 28 F b_slices_Reverse_4168 [] A_slices_Reverse_4168 [a0] h = c_slices_Reverse_4168 F g a0 h := by kernel_rfl
theorem s_slices_Reverse_4168 (F g : Nat) : ∀ args h r, u1 (c_slices_Reverse_4168 F g) args h = some r → Tri Go.Proofs.Try.prog 64 args h r := by
  intro args h r e; obtain ⟨a0, rfl, e1⟩ := u1_some e; exact fn_sound Go.Proofs.Try.func64 rfl rfl rfl Go.Proofs.Try.ntmps64 (Sound.none _) ((k_slices_Reverse_4168 F g a0 h).trans e1)

-- "(*loop.example/treenumbers/impl.node).turn"
noncomputable def c_impl_node_turn_l1 (F g : Nat) (self : AV → H → Option R) : List AV → H → (List AV → H → Option R) → Option R := fun vs h kc9 => (fun x10 x11 x12 => aCmpI ilt x12 x11 h fun x13 h => withBool x13 fun t14 => bc t14 (aIdxAddr 1 x10 x12 h fun x15 h => aLoad x15 h fun x16 h => bindR (self x16 h) fun x17 h => aArith iadd x12 (AV.int 3 (Int.ofNat 1)) h fun x18 h => kc9 [x10, x11, x18] h) (some (AV.one .tup (AV.leaf .nil), h))) (hd vs) (hd (tl vs)) (hd (tl (tl vs)))
noncomputable def c_impl_node_turn (F g : Nat) : AV → H → Option R := Nat.rec (motive := fun _ => AV → H → Option R) (fun _ _ => none) (fun g self a0 h => aNilCheck a0 h fun x1 h => aField 2 x1 h fun x2 h => aLoad x2 h fun x3 h => bindR (c_slices_Reverse_4168 F g x3 h) fun x4 h => aNilCheck a0 h fun x5 h => aField 2 x5 h fun x6 h => aLoad x6 h fun x7 h => aLenK 1 x7 h fun x8 h => loopD F (c_impl_node_turn_l1 F g self) [x7, x8, (AV.int 3 (Int.ofNat 0))] h) g
noncomputable def A_impl_node_turn : An := (.two .o (.two .o (.two (.at_ [12, 13, 14] (.two .o (.two (.two .o .o) (.two (.two (.two .o .o) .o) .o))) .o) .o)))
noncomputable def b_impl_node_turn : Code := bodyOf Go.Proofs.Try.f38
theorem k_impl_node_turn (F g : Nat) (a0 : AV) (h : H) : callD Go.Proofs.Try.prog (Env.add (Env.add (fun _ _ _ => none : Env) 64 (u1 (c_slices_Reverse_4168 F g))) 38 (u1 (c_impl_node_turn F g))) 21 F b_impl_node_turn [] A_impl_node_turn [a0] h = c_impl_node_turn F (g + 1) a0 h := by kernel_rfl
theorem s_impl_node_turn (F g : Nat) : ∀ args h r, u1 (c_impl_node_turn F g) args h = some r → Tri Go.Proofs.Try.prog 38 args h r := by
  induction g with
  | zero => intro args h r e; obtain ⟨a0, rfl, e⟩ := u1_some e; cases e
  | succ g ih => intro args h r e; obtain ⟨a0, rfl, e1⟩ := u1_some e; exact fn_sound Go.Proofs.Try.func38 rfl rfl rfl Go.Proofs.Try.ntmps38 (Sound.add (Sound.add (Sound.none _) (s_slices_Reverse_4168 F g)) ih) ((k_impl_node_turn F g a0 h).trans e1)

-- "(*loop.example/treenumbers/impl.node).text"
noncomputable def c_impl_node_text_l1 (F g : Nat) (self : AV → H → Option R) : List AV → H → (List AV → H → Option R) → Option R := fun vs h kc5 => (fun x6 x7 x8 x9 => aCmpI ilt x9 x8 h fun x10 h => withBool x10 fun t11 => bc t11 (aIdxAddr 1 x7 x9 h fun x12 h => aLoad x12 h fun x13 h => bindR (self x13 h) fun x14 h => aSAdd x6 x14 h fun x15 h => aArith iadd x9 (AV.int 3 (Int.ofNat 1)) h fun x16 h => kc5 [x15, x7, x8, x16] h) (aSAdd x6 (AV.str [41] 1) h fun x17 h => some (x17, h))) (hd vs) (hd (tl vs)) (hd (tl (tl vs))) (hd (tl (tl (tl vs))))
noncomputable def c_impl_node_text (F g : Nat) : AV → H → Option R := Nat.rec (motive := fun _ => AV → H → Option R) (fun _ _ => none) (fun g self a0 h => aNilCheck a0 h fun x1 h => aField 2 x1 h fun x2 h => aLoad x2 h fun x3 h => aLenK 1 x3 h fun x4 h => loopD F (c_impl_node_text_l1 F g self) [(AV.str [40] 1), x3, x4, (AV.int 3 (Int.ofNat 0))] h) g
noncomputable def A_impl_node_text : An := (.two .o (.two .o (.two (.two .o (.two (.at_ [3, 9, 10, 11] (.two .o (.two (.two .o .o) (.two (.two (.two .o .o) .o) .o))) .o) .o)) (.two .o .o))))
noncomputable def b_impl_node_text : Code := bodyOf Go.Proofs.Try.f39
theorem k_impl_node_text (F g : Nat) (a0 : AV) (h : H) : callD Go.Proofs.Try.prog (Env.add (fun _ _ _ => none : Env) 39 (u1 (c_impl_node_text F g))) 22 F b_impl_node_text [2] A_impl_node_text [a0] h = c_impl_node_text F (g + 1) a0 h := by kernel_rfl
theorem s_impl_node_text (F g : Nat) : ∀ args h r, u1 (c_impl_node_text F g) args h = some r → Tri Go.Proofs.Try.prog 39 args h r := by
  induction g with
  | zero => intro args h r e; obtain ⟨a0, rfl, e⟩ := u1_some e; cases e
  | succ g ih => intro args h r e; obtain ⟨a0, rfl, e1⟩ := u1_some e; exact fn_sound Go.Proofs.Try.func39 rfl rfl rfl Go.Proofs.Try.ntmps39 (Sound.add (Sound.none _) ih) ((k_impl_node_text F g a0 h).trans e1)

-- "loop.example/treenumbers/impl.TreeTurned"
noncomputable def c_impl_TreeTurned (F g : Nat) (a0 : AV) (h : H) : Option R := bindR (c_impl_readTree F g a0 h) fun x1 h => aExtract x1 0 h fun x2 h => aExtract x1 1 h fun x3 h => aNot x3 h fun x4 h => withBool x4 fun t5 => bc t5 (some (AV.one .tup (AV.cons (AV.str [] 0) (AV.cons (AV.bool false) (AV.leaf .nil))), h)) (bindR (c_impl_node_turn F g x2 h) fun x6 h => bindR (c_impl_node_text F g x2 h) fun x7 h => some (AV.one .tup (AV.cons x7 (AV.cons (AV.bool true) (AV.leaf .nil))), h))
noncomputable def A_impl_TreeTurned : An := (.two .o (.two .o (.two (.two .o (.two (.two .o .o) .o)) (.two .o (.two .o .o)))))
noncomputable def b_impl_TreeTurned : Code := bodyOf Go.Proofs.Try.f17
theorem k_impl_TreeTurned (F g : Nat) (a0 : AV) (h : H) : callD Go.Proofs.Try.prog (Env.add (Env.add (Env.add (fun _ _ _ => none : Env) 27 (u1 (c_impl_readTree F g))) 38 (u1 (c_impl_node_turn F g))) 39 (u1 (c_impl_node_text F g))) 17 F b_impl_TreeTurned [2, 3] A_impl_TreeTurned [a0] h = c_impl_TreeTurned F g a0 h := by kernel_rfl
theorem s_impl_TreeTurned (F g : Nat) : ∀ args h r, u1 (c_impl_TreeTurned F g) args h = some r → Tri Go.Proofs.Try.prog 17 args h r := by
  intro args h r e; obtain ⟨a0, rfl, e1⟩ := u1_some e; exact fn_sound Go.Proofs.Try.func17 rfl rfl rfl Go.Proofs.Try.ntmps17 (Sound.add (Sound.add (Sound.add (Sound.none _) (s_impl_readTree F g)) (s_impl_node_turn F g)) (s_impl_node_text F g)) ((k_impl_TreeTurned F g a0 h).trans e1)

-- "loop.example/treenumbers/laws.FnPairFar"
noncomputable def c_laws_FnPairFar_j1 (F g : Nat) (vs : List AV) (h : H) : Option R := (fun x34 x35 => aPick x34 x35 (AV.bool false) h fun x36 h => some (x36, h)) (hd vs) (hd (tl vs))
noncomputable def c_laws_FnPairFar_j2 (F g : Nat) (vs : List AV) (h : H) : Option R := (fun x90 x91 => aPick x90 x91 (AV.bool false) h fun x92 h => some (x92, h)) (hd vs) (hd (tl vs))
noncomputable def c_laws_FnPairFar_j3 (F g : Nat) (vs : List AV) (h : H) : Option R := (fun x84 x85 x86 x87 x88 => aPick x87 x88 (AV.bool false) h fun x89 h => guardB true x89 (aCmpI ieq x86 (AV.int 3 (Int.ofNat 0)) h fun x93 h => aCmpS eqL x84 x85 h fun x94 h => aEq false 0 x93 x94 h fun x95 h => (c_laws_FnPairFar_j2 F g) [x89, x95] h) ((c_laws_FnPairFar_j2 F g) [x89, (AV.one .tup (AV.leaf .nil))] h)) (hd vs) (hd (tl vs)) (hd (tl (tl vs))) (hd (tl (tl (tl vs)))) (hd (tl (tl (tl (tl vs)))))
noncomputable def c_laws_FnPairFar_j4 (F g : Nat) (vs : List AV) (h : H) : Option R := (fun x77 x78 x79 x80 x81 x82 => aPick x81 x82 (AV.bool false) h fun x83 h => guardB true x83 (aCmpI ieq x80 x79 h fun x96 h => (c_laws_FnPairFar_j3 F g) [x77, x78, x79, x83, x96] h) ((c_laws_FnPairFar_j3 F g) [x77, x78, x79, x83, (AV.one .tup (AV.leaf .nil))] h)) (hd vs) (hd (tl vs)) (hd (tl (tl vs))) (hd (tl (tl (tl vs)))) (hd (tl (tl (tl (tl vs))))) (hd (tl (tl (tl (tl (tl vs))))))
noncomputable def c_laws_FnPairFar_j5 (F g : Nat) (vs : List AV) (h : H) : Option R := (fun x69 x70 x71 x72 x73 x74 x75 => aPick x74 x75 (AV.bool false) h fun x76 h => guardB true x76 (aCmpI ieq x72 x71 h fun x97 h => (c_laws_FnPairFar_j4 F g) [x69, x70, x71, x73, x76, x97] h) ((c_laws_FnPairFar_j4 F g) [x69, x70, x71, x73, x76, (AV.one .tup (AV.leaf .nil))] h)) (hd vs) (hd (tl vs)) (hd (tl (tl vs))) (hd (tl (tl (tl vs)))) (hd (tl (tl (tl (tl vs))))) (hd (tl (tl (tl (tl (tl vs)))))) (hd (tl (tl (tl (tl (tl (tl vs)))))))
noncomputable def c_laws_FnPairFar_j6 (F g : Nat) (vs : List AV) (h : H) : Option R := (fun x60 x61 x62 x63 x64 x65 x66 x67 => aPick x66 x67 (AV.bool false) h fun x68 h => guardB true x68 ((c_laws_FnPairFar_j5 F g) [x60, x61, x62, x63, x64, x68, x65] h) ((c_laws_FnPairFar_j5 F g) [x60, x61, x62, x63, x64, x68, (AV.one .tup (AV.leaf .nil))] h)) (hd vs) (hd (tl vs)) (hd (tl (tl vs))) (hd (tl (tl (tl vs)))) (hd (tl (tl (tl (tl vs))))) (hd (tl (tl (tl (tl (tl vs)))))) (hd (tl (tl (tl (tl (tl (tl vs))))))) (hd (tl (tl (tl (tl (tl (tl (tl vs))))))))
noncomputable def c_laws_FnPairFar_j7 (F g : Nat) (vs : List AV) (h : H) : Option R := (fun x50 x51 x52 x53 x54 x55 x56 x57 x58 => aPick x57 x58 (AV.bool false) h fun x59 h => guardB true x59 ((c_laws_FnPairFar_j6 F g) [x50, x51, x52, x53, x55, x56, x59, x54] h) ((c_laws_FnPairFar_j6 F g) [x50, x51, x52, x53, x55, x56, x59, (AV.one .tup (AV.leaf .nil))] h)) (hd vs) (hd (tl vs)) (hd (tl (tl vs))) (hd (tl (tl (tl vs)))) (hd (tl (tl (tl (tl vs))))) (hd (tl (tl (tl (tl (tl vs)))))) (hd (tl (tl (tl (tl (tl (tl vs))))))) (hd (tl (tl (tl (tl (tl (tl (tl vs)))))))) (hd (tl (tl (tl (tl (tl (tl (tl (tl vs)))))))))
noncomputable def c_laws_FnPairFar_j8 (F g : Nat) (vs : List AV) (h : H) : Option R := (fun x23 x24 x25 x26 x27 x28 x29 x30 => aPick x29 (AV.bool true) x30 h fun x31 h => withBool x31 fun t32 => bc t32 (aEq false 0 x26 x28 h fun x33 h => guardB true x33 (aCmpI ieq x25 x27 h fun x37 h => (c_laws_FnPairFar_j1 F g) [x33, x37] h) ((c_laws_FnPairFar_j1 F g) [x33, (AV.one .tup (AV.leaf .nil))] h)) (bindR (c_impl_TreeTurned F g x23 h) fun x38 h => aExtract x38 0 h fun x39 h => aExtract x38 1 h fun x40 h => bindR (c_impl_TreeTurned F g x24 h) fun x41 h => aExtract x41 0 h fun x42 h => aExtract x41 1 h fun x43 h => bindR (c_impl_PairFar F g x24 x23 h) fun x44 h => aExtract x44 0 h fun x45 h => aExtract x44 1 h fun x46 h => bindR (c_impl_PairFar F g x39 x42 h) fun x47 h => aExtract x47 0 h fun x48 h => aExtract x47 1 h fun x49 h => guardB true x40 ((c_laws_FnPairFar_j7 F g) [x23, x24, x25, x45, x46, x48, x49, x40, x43] h) ((c_laws_FnPairFar_j7 F g) [x23, x24, x25, x45, x46, x48, x49, x40, (AV.one .tup (AV.leaf .nil))] h))) (hd vs) (hd (tl vs)) (hd (tl (tl vs))) (hd (tl (tl (tl vs)))) (hd (tl (tl (tl (tl vs))))) (hd (tl (tl (tl (tl (tl vs)))))) (hd (tl (tl (tl (tl (tl (tl vs))))))) (hd (tl (tl (tl (tl (tl (tl (tl vs))))))))
noncomputable def c_laws_FnPairFar_j9 (F g : Nat) (vs : List AV) (h : H) : Option R := (fun x14 x15 x16 x17 x18 x19 x20 x21 => aPick x20 (AV.bool true) x21 h fun x22 h => guardB false x22 (aNot x17 h fun x98 h => (c_laws_FnPairFar_j8 F g) [x14, x15, x16, x17, x18, x19, x22, x98] h) ((c_laws_FnPairFar_j8 F g) [x14, x15, x16, x17, x18, x19, x22, (AV.one .tup (AV.leaf .nil))] h)) (hd vs) (hd (tl vs)) (hd (tl (tl vs))) (hd (tl (tl (tl vs)))) (hd (tl (tl (tl (tl vs))))) (hd (tl (tl (tl (tl (tl vs)))))) (hd (tl (tl (tl (tl (tl (tl vs))))))) (hd (tl (tl (tl (tl (tl (tl (tl vs))))))))
noncomputable def c_laws_FnPairFar_r10 (F g : Nat) (x4 : AV) (h : H) : Option R := aExtract x4 0 h fun x5 h => aExtract x4 1 h fun x6 h => bindR (c_impl_PairFar F g x5 x6 h) fun x7 h => aExtract x7 0 h fun x8 h => aExtract x7 1 h fun x9 h => bindR (c_spec_PairFar F g x5 x6 h) fun x10 h => aExtract x10 0 h fun x11 h => aExtract x10 1 h fun x12 h => aEq true 0 x9 x12 h fun x13 h => guardB false x13 (aCmpI (fun a b => bnot (ieq a b)) x8 x11 h fun x99 h => (c_laws_FnPairFar_j9 F g) [x5, x6, x8, x9, x11, x12, x13, x99] h) ((c_laws_FnPairFar_j9 F g) [x5, x6, x8, x9, x11, x12, x13, (AV.one .tup (AV.leaf .nil))] h)
noncomputable def c_laws_FnPairFar (F g : Nat) (a0 : AV) (h : H) : Option R := aLenK 1 a0 h fun x1 h => aCmpI (fun a b => ilt b a) x1 (AV.int 3 (Int.ofNat 1048576)) h fun x2 h => withBool x2 fun t3 => bc t3 (some ((AV.bool true), h)) (bindR (c_spec_DrawPairFar F g a0 h) fun x4 h => c_laws_FnPairFar_r10 F g x4 h)
noncomputable def A_laws_FnPairFar : An := (.two .o (.two (.two .o (.two (.two .o .o) .o)) (.two .o (.two .o (.two .o (.two (.two (.at_ [3, 4, 5, 6, 7, 8, 40, 43] .o (.at_ [3, 4, 5, 6, 7, 8, 45, 47] .o .o)) (.two (.two (.at_ [52, 55] .o .o) .o) .o)) (.two .o (.two .o (.two .o (.two .o (.two (.at_ [3, 4, 5, 13, 14, 15, 16, 80, 81] .o (.at_ [3, 4, 5, 13, 15, 16, 83, 84] .o (.at_ [3, 4, 5, 13, 15, 86, 87] .o (.at_ [3, 4, 5, 15, 89, 92] .o (.at_ [3, 4, 5, 94, 97] .o (.at_ [99, 105] .o .o)))))) .o)))))))))))
noncomputable def b_laws_FnPairFar : Code := bodyOf Go.Proofs.Try.f4
theorem k_laws_FnPairFar (F g : Nat) (a0 : AV) (h : H) : callD Go.Proofs.Try.prog (Env.add (Env.add (Env.add (Env.add (fun _ _ _ => none : Env) 14 (u1 (c_spec_DrawPairFar F g))) 15 (u2 (c_impl_PairFar F g))) 16 (u2 (c_spec_PairFar F g))) 17 (u1 (c_impl_TreeTurned F g))) 107 F b_laws_FnPairFar [2] A_laws_FnPairFar [a0] h = c_laws_FnPairFar F g a0 h := by kernel_rfl
theorem s_laws_FnPairFar (F g : Nat) : ∀ args h r, u1 (c_laws_FnPairFar F g) args h = some r → Tri Go.Proofs.Try.prog 4 args h r := by
  intro args h r e; obtain ⟨a0, rfl, e1⟩ := u1_some e; exact fn_sound Go.Proofs.Try.func4 rfl rfl rfl Go.Proofs.Try.ntmps4 (Sound.add (Sound.add (Sound.add (Sound.add (Sound.none _) (s_spec_DrawPairFar F g)) (s_impl_PairFar F g)) (s_spec_PairFar F g)) (s_impl_TreeTurned F g)) ((k_laws_FnPairFar F g a0 h).trans e1)

end
end Go.AI.T
