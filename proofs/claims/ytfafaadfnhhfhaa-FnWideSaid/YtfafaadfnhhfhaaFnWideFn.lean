/- The functions that the law FnWide reaches, as the evaluator reads them. -/
import Derived.Test.YtfafaadfnhhfhaaRaw
import Derived.Test.YtfafaadfnhhfhaaProg
import Derived.KernelRfl
namespace Go.AI
open Go Go.RowKit Go.AI
set_option linter.unusedVariables false
set_option linter.unusedSimpArgs false
set_option maxRecDepth 100000
noncomputable section
-- "loop.example/treenumbers/spec.DrawLevelsWide"
noncomputable def c_spec_DrawLevelsWide (F g : Nat) (a0 : AV) (h : H) : Option R := bindR (c_spec_l91Some F g a0 h) fun x1 h => some (x1, h)
noncomputable def A_spec_DrawLevelsWide : An := (.two .o (.two .o .o))
noncomputable def b_spec_DrawLevelsWide : Code := bodyOf Go.Proofs.Try.f69
theorem k_spec_DrawLevelsWide (F g : Nat) (a0 : AV) (h : H) : callD Go.Proofs.Try.prog (Env.add (fun _ _ _ => none : Env) 90 (u1 (c_spec_l91Some F g))) 5 F b_spec_DrawLevelsWide [2] A_spec_DrawLevelsWide [a0] h = c_spec_DrawLevelsWide F g a0 h := by kernel_rfl
theorem s_spec_DrawLevelsWide (F g : Nat) : ∀ args h r, u1 (c_spec_DrawLevelsWide F g) args h = some r → Tri Go.Proofs.Try.prog 69 args h r := by
  intro args h r e; obtain ⟨a0, rfl, e1⟩ := u1_some e; exact fn_sound Go.Proofs.Try.func69 rfl rfl rfl Go.Proofs.Try.ntmps69 (Sound.add (Sound.none _) (s_spec_l91Some F g)) ((k_spec_DrawLevelsWide F g a0 h).trans e1)

end
end Go.AI
namespace Go.AI.T
open Go Go.RowKit Go.AI
set_option linter.unusedVariables false
set_option linter.unusedSimpArgs false
set_option maxRecDepth 100000
noncomputable section
def c_spec_DrawLevelsWide (F g : Nat) (a0 : AV) (h : H) : Option R := quietC (Go.AI.c_spec_DrawLevelsWide 20000 20) a0 h
theorem s_spec_DrawLevelsWide (F g : Nat) : ∀ args h r, u1 (c_spec_DrawLevelsWide F g) args h = some r → Tri Go.Proofs.Try.prog id_spec_DrawLevelsWide args h r := quietC_sound (Go.AI.s_spec_DrawLevelsWide 20000 20)
theorem draw_FnWide (F g : Nat) {a0 : AV} {n : Nat} {L : List AV} {B : Blk} (ha : (a0 = .leaf .nils ∧ n = 0) ∨ a0 = .osl 0 0 n 1) (hB : 0 < n → B = .cells 2 L) (hb : ∀ i, i < n → ∃ v, L[i]? = some (.int 4 (.ofNat v)) ∧ v < 256) :
    ∃ l, (l.length ≤ 300 ∧ (isTree l = true → l.length ≤ 16)) ∧ c_spec_DrawLevelsWide F g a0 (hCode B) = some (.str l l.length, hCode B) := by
  obtain ⟨l, h', hl, e, hlo⟩ := some_ok (F := 20000) (g := 20) (h := hCode B) (by omega) ha (fun hn => ⟨2, hB hn⟩) hb (Nat.le_refl _) (Nat.le_refl _)
  refine ⟨l, hl, quietC_ok (h' := h') ?_ rfl hlo⟩
  show bindR (Go.AI.c_spec_l91Some 20000 20 a0 (hCode B)) _ = _
  rw [e]; rfl
end
end Go.AI.T
namespace Go.AI.T
open Go Go.RowKit Go.AI
set_option linter.unusedVariables false
set_option linter.unusedSimpArgs false
set_option maxRecDepth 100000
noncomputable section
-- "(*loop.example/treenumbers/impl.node).nodes"
noncomputable def c_impl_node_nodes_l1 (F g : Nat) (self : AV → H → Option R) : List AV → H → (List AV → H → Option R) → Option R := fun vs h kc6 => (fun x7 x8 x9 x10 => aCmpI ilt x10 x9 h fun x11 h => withBool x11 fun t12 => bc t12 (aIdxAddr 1 x8 x10 h fun x13 h => aLoad x13 h fun x14 h => bindR (self x14 h) fun x15 h => aAppend 1 8 x7 x15 h fun x16 h => aArith iadd x10 (AV.int 3 (Int.ofNat 1)) h fun x17 h => kc6 [x16, x8, x9, x17] h) (some (x7, h))) (hd vs) (hd (tl vs)) (hd (tl (tl vs))) (hd (tl (tl (tl vs))))
noncomputable def c_impl_node_nodes (F g : Nat) : AV → H → Option R := Nat.rec (motive := fun _ => AV → H → Option R) (fun _ _ => none) (fun g self a0 h => aBuildSlice 1 1 [(0, 1, a0)] h fun x1 h => aNilCheck a0 h fun x2 h => aField 2 x2 h fun x3 h => aLoad x3 h fun x4 h => aLenK 1 x4 h fun x5 h => loopD F (c_impl_node_nodes_l1 F g self) [x1, x4, x5, (AV.int 3 (Int.ofNat 0))] h) g
noncomputable def A_impl_node_nodes : An := (.two .o (.two .o (.two (.two .o (.two (.at_ [3, 11, 12, 13] (.two .o (.two (.two .o .o) (.two (.two (.two .o .o) .o) .o))) .o) .o)) (.two .o .o))))
noncomputable def b_impl_node_nodes : Code := bodyOf Go.Proofs.Try.f95
theorem k_impl_node_nodes (F g : Nat) (a0 : AV) (h : H) : callD Go.Proofs.Try.prog (Env.add (fun _ _ _ => none : Env) 95 (u1 (c_impl_node_nodes F g))) 23 F b_impl_node_nodes [2] A_impl_node_nodes [a0] h = c_impl_node_nodes F (g + 1) a0 h := by kernel_rfl
theorem s_impl_node_nodes (F g : Nat) : ∀ args h r, u1 (c_impl_node_nodes F g) args h = some r → Tri Go.Proofs.Try.prog 95 args h r := by
  induction g with
  | zero => intro args h r e; obtain ⟨a0, rfl, e⟩ := u1_some e; cases e
  | succ g ih => intro args h r e; obtain ⟨a0, rfl, e1⟩ := u1_some e; exact fn_sound Go.Proofs.Try.func95 rfl rfl rfl Go.Proofs.Try.ntmps95 (Sound.add (Sound.none _) ih) ((k_impl_node_nodes F g a0 h).trans e1)

-- "loop.example/treenumbers/impl.TreeUp"
noncomputable def c_impl_TreeUp_l1 (F g : Nat) : List AV → H → (List AV → H → Option R) → Option R := fun vs h kc10 => (fun x11 x12 x13 x14 => aCmpI ilt x14 x13 h fun x15 h => withBool x15 fun t16 => bc t16 (aIdxAddr 1 x12 x14 h fun x17 h => aLoad x17 h fun x18 h => aNilCheck x18 h fun x19 h => aField 1 x19 h fun x20 h => aLoad x20 h fun x21 h => aNilCheck x21 h fun x22 h => aField 0 x22 h fun x23 h => aLoad x23 h fun x24 h => aBuildSlice 1 1 [(0, 1, x24)] h fun x25 h => aAppend 1 8 x11 x25 h fun x26 h => aArith iadd x14 (AV.int 3 (Int.ofNat 1)) h fun x27 h => kc10 [x26, x12, x13, x27] h) (some (AV.one .tup (AV.cons x11 (AV.cons (AV.bool true) (AV.leaf .nil))), h))) (hd vs) (hd (tl vs)) (hd (tl (tl vs))) (hd (tl (tl (tl vs))))
noncomputable def c_impl_TreeUp (F g : Nat) (a0 : AV) (h : H) : Option R := bindR (c_impl_readTree F g a0 h) fun x1 h => aExtract x1 0 h fun x2 h => aExtract x1 1 h fun x3 h => aNot x3 h fun x4 h => withBool x4 fun t5 => bc t5 (some (AV.one .tup (AV.cons (AV.leaf .nils) (AV.cons (AV.bool false) (AV.leaf .nil))), h)) (aBuildSlice 1 1 [(0, 1, (AV.int 3 (Int.negSucc 0)))] h fun x6 h => bindR (c_impl_node_nodes F g x2 h) fun x7 h => aSliceV 1 x7 (some (AV.int 3 (Int.ofNat 1))) none none h fun x8 h => aLenK 1 x8 h fun x9 h => loopD F (c_impl_TreeUp_l1 F g) [x6, x8, x9, (AV.int 3 (Int.ofNat 0))] h)
noncomputable def A_impl_TreeUp : An := (.two .o (.two .o (.two (.two .o (.two (.two .o .o) .o)) (.two .o (.two (.two .o (.two (.at_ [6, 19, 20, 21] (.two .o (.two (.two .o .o) (.two (.two (.two .o .o) .o) .o))) .o) .o)) (.two .o .o))))))
noncomputable def b_impl_TreeUp : Code := bodyOf Go.Proofs.Try.f53
theorem k_impl_TreeUp (F g : Nat) (a0 : AV) (h : H) : callD Go.Proofs.Try.prog (Env.add (Env.add (fun _ _ _ => none : Env) 91 (u1 (c_impl_readTree F g))) 95 (u1 (c_impl_node_nodes F g))) 37 F b_impl_TreeUp [2, 3] A_impl_TreeUp [a0] h = c_impl_TreeUp F g a0 h := by kernel_rfl
theorem s_impl_TreeUp (F g : Nat) : ∀ args h r, u1 (c_impl_TreeUp F g) args h = some r → Tri Go.Proofs.Try.prog 53 args h r := by
  intro args h r e; obtain ⟨a0, rfl, e1⟩ := u1_some e; exact fn_sound Go.Proofs.Try.func53 rfl rfl rfl Go.Proofs.Try.ntmps53 (Sound.add (Sound.add (Sound.none _) (s_impl_readTree F g)) (s_impl_node_nodes F g)) ((k_impl_TreeUp F g a0 h).trans e1)

-- "loop.example/treenumbers/impl.LevelsOf"
noncomputable def c_impl_LevelsOf_l1 (F g : Nat) : List AV → H → (List AV → H → Option R) → Option R := fun vs h kc9 => (fun x10 x11 x12 x13 => aCmpI ilt x13 x12 h fun x14 h => withBool x14 fun t15 => bc t15 (aIdxAddr 1 x11 x13 h fun x16 h => aLoad x16 h fun x17 h => aIdxAddr 1 x10 x17 h fun x18 h => aLoad x18 h fun x19 h => aArith iadd x19 (AV.int 3 (Int.ofNat 1)) h fun x20 h => aBuildSlice 1 1 [(0, 1, x20)] h fun x21 h => aAppend 1 8 x10 x21 h fun x22 h => aArith iadd x13 (AV.int 3 (Int.ofNat 1)) h fun x23 h => kc9 [x22, x11, x12, x23] h) (some (AV.one .tup (AV.cons x10 (AV.cons (AV.bool true) (AV.leaf .nil))), h))) (hd vs) (hd (tl vs)) (hd (tl (tl vs))) (hd (tl (tl (tl vs))))
noncomputable def c_impl_LevelsOf (F g : Nat) (a0 : AV) (h : H) : Option R := bindR (c_impl_TreeUp F g a0 h) fun x1 h => aExtract x1 0 h fun x2 h => aExtract x1 1 h fun x3 h => aNot x3 h fun x4 h => withBool x4 fun t5 => bc t5 (some (AV.one .tup (AV.cons (AV.leaf .nils) (AV.cons (AV.bool false) (AV.leaf .nil))), h)) (aBuildSlice 1 1 [(0, 1, (AV.int 3 (Int.ofNat 0)))] h fun x6 h => aSliceV 1 x2 (some (AV.int 3 (Int.ofNat 1))) none none h fun x7 h => aLenK 1 x7 h fun x8 h => loopD F (c_impl_LevelsOf_l1 F g) [x6, x7, x8, (AV.int 3 (Int.ofNat 0))] h)
noncomputable def A_impl_LevelsOf : An := (.two .o (.two .o (.two (.two .o (.two (.two .o .o) .o)) (.two .o (.two (.two .o (.two (.at_ [6, 18, 19, 20] (.two .o (.two (.two .o .o) (.two (.two (.two .o .o) .o) .o))) .o) .o)) (.two .o .o))))))
noncomputable def b_impl_LevelsOf : Code := bodyOf Go.Proofs.Try.f56
theorem k_impl_LevelsOf (F g : Nat) (a0 : AV) (h : H) : callD Go.Proofs.Try.prog (Env.add (fun _ _ _ => none : Env) 53 (u1 (c_impl_TreeUp F g))) 34 F b_impl_LevelsOf [2, 3] A_impl_LevelsOf [a0] h = c_impl_LevelsOf F g a0 h := by kernel_rfl
theorem s_impl_LevelsOf (F g : Nat) : ∀ args h r, u1 (c_impl_LevelsOf F g) args h = some r → Tri Go.Proofs.Try.prog 56 args h r := by
  intro args h r e; obtain ⟨a0, rfl, e1⟩ := u1_some e; exact fn_sound Go.Proofs.Try.func56 rfl rfl rfl Go.Proofs.Try.ntmps56 (Sound.add (Sound.none _) (s_impl_TreeUp F g)) ((k_impl_LevelsOf F g a0 h).trans e1)

-- "(loop.example/treenumbers/impl.levels).wide"
noncomputable def c_impl_levels_wide_j1 (F g : Nat) (kc3 : List AV → H → Option R) (vs : List AV) (h : H) : Option R := (fun x12 x13 x14 x15 x16 => aIdxAddr 1 x12 x13 h fun x17 h => aLoad x17 h fun x18 h => aArith iadd x18 (AV.int 3 (Int.ofNat 1)) h fun x19 h => aIdxAddr 1 x12 x13 h fun x20 h => aStore x20 x19 h fun x21 h => aArith iadd x16 (AV.int 3 (Int.ofNat 1)) h fun x22 h => kc3 [x12, x14, x15, x22] h) (hd vs) (hd (tl vs)) (hd (tl (tl vs))) (hd (tl (tl (tl vs)))) (hd (tl (tl (tl (tl vs)))))
noncomputable def c_impl_levels_wide_l2 (F g : Nat) : List AV → H → (List AV → H → Option R) → Option R := fun vs h kc3 => (fun x4 x5 x6 x7 => aCmpI ilt x7 x6 h fun x8 h => withBool x8 fun t9 => bc t9 (aIdxAddr 1 x5 x7 h fun x10 h => aLoad x10 h fun x11 h => aLenK 1 x4 h fun x23 h => aCmpI ieq x11 x23 h fun x24 h => withBool x24 fun t25 => bc t25 (aBuildSlice 1 1 [(0, 1, (AV.int 3 (Int.ofNat 0)))] h fun x26 h => aAppend 1 8 x4 x26 h fun x27 h => (c_impl_levels_wide_j1 F g kc3) [x27, x11, x5, x6, x7] h) ((c_impl_levels_wide_j1 F g kc3) [x4, x11, x5, x6, x7] h)) (some (x4, h))) (hd vs) (hd (tl vs)) (hd (tl (tl vs))) (hd (tl (tl (tl vs))))
noncomputable def c_impl_levels_wide (F g : Nat) (a0 : AV) (h : H) : Option R := aBuildSlice 0 1 [] h fun x1 h => aLenK 1 a0 h fun x2 h => loopD F (c_impl_levels_wide_l2 F g) [x1, a0, x2, (AV.int 3 (Int.ofNat 0))] h
noncomputable def A_impl_levels_wide : An := (.two .o (.two .o (.two (.two .o (.two (.at_ [3, 7, 8, 9] (.two .o (.two (.two .o .o) (.two (.two (.two .o (.at_ [3, 5, 7, 8, 9] (.two .o (.two .o .o)) .o)) .o) .o))) .o) .o)) (.two .o .o))))
noncomputable def b_impl_levels_wide : Code := bodyOf Go.Proofs.Try.f123
theorem k_impl_levels_wide (F g : Nat) (a0 : AV) (h : H) : callD Go.Proofs.Try.prog (fun _ _ _ => none : Env) 28 F b_impl_levels_wide [2] A_impl_levels_wide [a0] h = c_impl_levels_wide F g a0 h := by kernel_rfl
theorem s_impl_levels_wide (F g : Nat) : ∀ args h r, u1 (c_impl_levels_wide F g) args h = some r → Tri Go.Proofs.Try.prog 123 args h r := by
  intro args h r e; obtain ⟨a0, rfl, e1⟩ := u1_some e; exact fn_sound Go.Proofs.Try.func123 rfl rfl rfl Go.Proofs.Try.ntmps123 (Sound.none _) ((k_impl_levels_wide F g a0 h).trans e1)

-- "loop.example/treenumbers/impl.LevelsWide"
noncomputable def c_impl_LevelsWide (F g : Nat) (a0 : AV) (h : H) : Option R := bindR (c_impl_LevelsOf F g a0 h) fun x1 h => aExtract x1 0 h fun x2 h => aExtract x1 1 h fun x3 h => aNot x3 h fun x4 h => withBool x4 fun t5 => bc t5 (some (AV.one .tup (AV.cons (AV.leaf .nils) (AV.cons (AV.bool false) (AV.leaf .nil))), h)) (bindR (c_impl_levels_wide F g x2 h) fun x6 h => some (AV.one .tup (AV.cons x6 (AV.cons (AV.bool true) (AV.leaf .nil))), h))
noncomputable def A_impl_LevelsWide : An := (.two .o (.two .o (.two (.two .o (.two (.two .o .o) .o)) (.two .o .o))))
noncomputable def b_impl_LevelsWide : Code := bodyOf Go.Proofs.Try.f70
theorem k_impl_LevelsWide (F g : Nat) (a0 : AV) (h : H) : callD Go.Proofs.Try.prog (Env.add (Env.add (fun _ _ _ => none : Env) 56 (u1 (c_impl_LevelsOf F g))) 123 (u1 (c_impl_levels_wide F g))) 15 F b_impl_LevelsWide [2, 3] A_impl_LevelsWide [a0] h = c_impl_LevelsWide F g a0 h := by kernel_rfl
theorem s_impl_LevelsWide (F g : Nat) : ∀ args h r, u1 (c_impl_LevelsWide F g) args h = some r → Tri Go.Proofs.Try.prog 70 args h r := by
  intro args h r e; obtain ⟨a0, rfl, e1⟩ := u1_some e; exact fn_sound Go.Proofs.Try.func70 rfl rfl rfl Go.Proofs.Try.ntmps70 (Sound.add (Sound.add (Sound.none _) (s_impl_LevelsOf F g)) (s_impl_levels_wide F g)) ((k_impl_LevelsWide F g a0 h).trans e1)

-- "loop.example/treenumbers/spec.l1Depths"
noncomputable def c_spec_l1Depths_j1 (F g : Nat) (kc2 : List AV → H → Option R) (vs : List AV) (h : H) : Option R := (fun x10 x11 x12 x13 => aArith iadd x13 (AV.int 3 (Int.ofNat 1)) h fun x14 h => kc2 [x10, x11, x12, x14] h) (hd vs) (hd (tl vs)) (hd (tl (tl vs))) (hd (tl (tl (tl vs))))
noncomputable def c_spec_l1Depths_l2 (F g : Nat) : List AV → H → (List AV → H → Option R) → Option R := fun vs h kc2 => (fun x3 x4 x5 x6 => aLenK 0 x3 h fun x7 h => aCmpI ilt x6 x7 h fun x8 h => withBool x8 fun t9 => bc t9 (aIdxStr x3 x6 h fun x15 h => aCmpI ieq x15 (AV.int 4 (Int.ofNat 40)) h fun x16 h => withBool x16 fun t17 => bc t17 (aBuildSlice 1 1 [(0, 1, x5)] h fun x18 h => aAppend 1 8 x4 x18 h fun x19 h => aArith iadd x5 (AV.int 3 (Int.ofNat 1)) h fun x20 h => (c_spec_l1Depths_j1 F g kc2) [x3, x19, x20, x6] h) (aArith isub x5 (AV.int 3 (Int.ofNat 1)) h fun x21 h => (c_spec_l1Depths_j1 F g kc2) [x3, x4, x21, x6] h)) (some (x4, h))) (hd vs) (hd (tl vs)) (hd (tl (tl vs))) (hd (tl (tl (tl vs))))
noncomputable def c_spec_l1Depths (F g : Nat) (a0 : AV) (h : H) : Option R := aBuildSlice 0 1 [] h fun x1 h => loopD F (c_spec_l1Depths_l2 F g) [a0, x1, (AV.int 3 (Int.ofNat 0)), (AV.int 3 (Int.ofNat 0))] h
noncomputable def A_spec_l1Depths : An := (.two .o (.two .o (.two .o (.two (.two .o (.two (.at_ [0, 3, 4, 5] (.two (.two .o (.two .o .o)) (.at_ [0, 3, 4, 5] (.two (.two .o (.two (.two .o .o) .o)) .o) .o)) .o) .o)) (.two .o .o)))))
noncomputable def b_spec_l1Depths : Code := bodyOf Go.Proofs.Try.f101
theorem k_spec_l1Depths (F g : Nat) (a0 : AV) (h : H) : callD Go.Proofs.Try.prog (fun _ _ _ => none : Env) 26 F b_spec_l1Depths [2] A_spec_l1Depths [a0] h = c_spec_l1Depths F g a0 h := by kernel_rfl
theorem s_spec_l1Depths (F g : Nat) : ∀ args h r, u1 (c_spec_l1Depths F g) args h = some r → Tri Go.Proofs.Try.prog 101 args h r := by
  intro args h r e; obtain ⟨a0, rfl, e1⟩ := u1_some e; exact fn_sound Go.Proofs.Try.func101 rfl rfl rfl Go.Proofs.Try.ntmps101 (Sound.none _) ((k_spec_l1Depths F g a0 h).trans e1)

-- "loop.example/treenumbers/spec.l1Most"
noncomputable def c_spec_l1Most_l1 (F g : Nat) : List AV → H → (List AV → H → Option R) → Option R := fun vs h kc1 => (fun x2 x3 x4 => aLenK 1 x2 h fun x5 h => aCmpI ilt x4 x5 h fun x6 h => withBool x6 fun t7 => bc t7 (aIdxAddr 1 x2 x4 h fun x8 h => aLoad x8 h fun x9 h => aMM true x3 x9 h fun x10 h => aArith iadd x4 (AV.int 3 (Int.ofNat 1)) h fun x11 h => kc1 [x2, x10, x11] h) (some (x3, h))) (hd vs) (hd (tl vs)) (hd (tl (tl vs)))
noncomputable def c_spec_l1Most (F g : Nat) (a0 : AV) (h : H) : Option R := loopD F (c_spec_l1Most_l1 F g) [a0, (AV.int 3 (Int.ofNat 0)), (AV.int 3 (Int.ofNat 0))] h
noncomputable def A_spec_l1Most : An := (.two .o (.two .o (.two (.two .o (.two (.at_ [0, 3, 4] (.two (.two .o (.two .o .o)) (.two (.two .o .o) .o)) .o) .o)) (.two .o .o))))
noncomputable def b_spec_l1Most : Code := bodyOf Go.Proofs.Try.f100
theorem k_spec_l1Most (F g : Nat) (a0 : AV) (h : H) : callD Go.Proofs.Try.prog (fun _ _ _ => none : Env) 18 F b_spec_l1Most [2] A_spec_l1Most [a0] h = c_spec_l1Most F g a0 h := by kernel_rfl
theorem s_spec_l1Most (F g : Nat) : ∀ args h r, u1 (c_spec_l1Most F g) args h = some r → Tri Go.Proofs.Try.prog 100 args h r := by
  intro args h r e; obtain ⟨a0, rfl, e1⟩ := u1_some e; exact fn_sound Go.Proofs.Try.func100 rfl rfl rfl Go.Proofs.Try.ntmps100 (Sound.none _) ((k_spec_l1Most F g a0 h).trans e1)

-- "loop.example/treenumbers/spec.LevelsWide"
noncomputable def c_spec_LevelsWide_l1 (F g : Nat) : List AV → H → (List AV → H → Option R) → Option R := fun vs h kc9 => (fun x10 x11 x12 => aLenK 1 x10 h fun x13 h => aCmpI ilt x12 x13 h fun x14 h => withBool x14 fun t15 => bc t15 (aIdxAddr 1 x10 x12 h fun x16 _ => aLoad x16 h fun x17 _ => aIdxAddr 1 x10 x12 h fun x18 _ => aLoad x18 h fun x19 _ => aIdxAddr 1 x11 x19 h fun x20 _ => aLoad x20 h fun x21 _ => aArith iadd x21 (AV.int 3 (Int.ofNat 1)) h fun x22 _ => aIdxAddr 1 x11 x17 h fun x23 _ => aStore x23 x22 h fun x24 h => aArith iadd x12 (AV.int 3 (Int.ofNat 1)) h fun x25 h => kc9 [x10, x11, x25] h) (some (AV.one .tup (AV.cons x11 (AV.cons (AV.bool true) (AV.leaf .nil))), h))) (hd vs) (hd (tl vs)) (hd (tl (tl vs)))
noncomputable def c_spec_LevelsWide (F g : Nat) (a0 : AV) (h : H) : Option R := bindR (c_spec_TreeIn F g a0 h) fun x1 h => aNot x1 h fun x2 h => withBool x2 fun t3 => bc t3 (aBuildSlice 0 1 [] h fun x4 h => some (AV.one .tup (AV.cons x4 (AV.cons (AV.bool false) (AV.leaf .nil))), h)) (bindR (c_spec_l1Depths F g a0 h) fun x5 h => bindR (c_spec_l1Most F g x5 h) fun x6 h => aArith iadd x6 (AV.int 3 (Int.ofNat 1)) h fun x7 h => aMake 8 [(AV.int 3 (Int.ofNat 0))] x7 x7 h fun x8 h => loopD F (c_spec_LevelsWide_l1 F g) [x5, x8, (AV.int 3 (Int.ofNat 0))] h)
noncomputable def A_spec_LevelsWide : An := (.two .o (.two (.two .o (.two (.two .o .o) .o)) (.two .o (.two .o (.two (.two .o (.two (.at_ [4, 5, 6] (.two (.two .o (.two .o .o)) (.two (.two .o .o) .o)) .o) .o)) (.two .o .o))))))
noncomputable def b_spec_LevelsWide : Code := bodyOf Go.Proofs.Try.f71
theorem k_spec_LevelsWide (F g : Nat) (a0 : AV) (h : H) : callD Go.Proofs.Try.prog (Env.add (Env.add (Env.add (fun _ _ _ => none : Env) 25 (u1 (c_spec_TreeIn F g))) 101 (u1 (c_spec_l1Depths F g))) 100 (u1 (c_spec_l1Most F g))) 38 F b_spec_LevelsWide [2, 3] A_spec_LevelsWide [a0] h = c_spec_LevelsWide F g a0 h := by kernel_rfl
theorem s_spec_LevelsWide (F g : Nat) : ∀ args h r, u1 (c_spec_LevelsWide F g) args h = some r → Tri Go.Proofs.Try.prog 71 args h r := by
  intro args h r e; obtain ⟨a0, rfl, e1⟩ := u1_some e; exact fn_sound Go.Proofs.Try.func71 rfl rfl rfl Go.Proofs.Try.ntmps71 (Sound.add (Sound.add (Sound.add (Sound.none _) (s_spec_TreeIn F g)) (s_spec_l1Depths F g)) (s_spec_l1Most F g)) ((k_spec_LevelsWide F g a0 h).trans e1)

-- "loop.example/treenumbers/laws.sameInts"
noncomputable def c_laws_sameInts_l1 (F g : Nat) : List AV → H → (List AV → H → Option R) → Option R := fun vs h kc5 => (fun x6 x7 x8 => aLenK 1 x6 h fun x9 h => aCmpI ilt x8 x9 h fun x10 h => withBool x10 fun t11 => bc t11 (aIdxAddr 1 x6 x8 h fun x12 _ => aLoad x12 h fun x13 _ => aIdxAddr 1 x7 x8 h fun x14 _ => aLoad x14 h fun x15 _ => aCmpI (fun a b => bnot (ieq a b)) x13 x15 h fun x16 _ => withBool x16 fun t17 => bc t17 (some ((AV.bool false), h)) (aArith iadd x8 (AV.int 3 (Int.ofNat 1)) h fun x18 h => kc5 [x6, x7, x18] h)) (some ((AV.bool true), h))) (hd vs) (hd (tl vs)) (hd (tl (tl vs)))
noncomputable def c_laws_sameInts (F g : Nat) (a0 a1 : AV) (h : H) : Option R := aLenK 1 a0 h fun x1 h => aLenK 1 a1 h fun x2 h => aCmpI (fun a b => bnot (ieq a b)) x1 x2 h fun x3 h => withBool x3 fun t4 => bc t4 (some ((AV.bool false), h)) (loopD F (c_laws_sameInts_l1 F g) [a0, a1, (AV.int 3 (Int.ofNat 0))] h)
noncomputable def A_laws_sameInts : An := (.two .o (.two (.two .o (.two (.two .o .o) .o)) (.two (.two .o (.two (.at_ [0, 1, 5] (.two (.two .o (.two .o .o)) (.two (.two (.two .o (.two (.two .o .o) .o)) .o) .o)) .o) .o)) (.two .o .o))))
noncomputable def b_laws_sameInts : Code := bodyOf Go.Proofs.Try.f55
theorem k_laws_sameInts (F g : Nat) (a0 a1 : AV) (h : H) : callD Go.Proofs.Try.prog (fun _ _ _ => none : Env) 26 F b_laws_sameInts [4] A_laws_sameInts [a0, a1] h = c_laws_sameInts F g a0 a1 h := by kernel_rfl
theorem s_laws_sameInts (F g : Nat) : ∀ args h r, u2 (c_laws_sameInts F g) args h = some r → Tri Go.Proofs.Try.prog 55 args h r := by
  intro args h r e; obtain ⟨a0, a1, rfl, e1⟩ := u2_some e; exact fn_sound Go.Proofs.Try.func55 rfl rfl rfl Go.Proofs.Try.ntmps55 (Sound.none _) ((k_laws_sameInts F g a0 a1 h).trans e1)

-- "loop.example/treenumbers/impl.TreeNodes"
noncomputable def c_impl_TreeNodes (F g : Nat) (a0 : AV) (h : H) : Option R := bindR (c_impl_readTree F g a0 h) fun x1 h => aExtract x1 0 h fun x2 h => aExtract x1 1 h fun x3 h => aNot x3 h fun x4 h => withBool x4 fun t5 => bc t5 (some (AV.one .tup (AV.cons (AV.int 3 (Int.ofNat 0)) (AV.cons (AV.bool false) (AV.leaf .nil))), h)) (bindR (c_impl_node_nodes F g x2 h) fun x6 h => aLenK 1 x6 h fun x7 h => some (AV.one .tup (AV.cons x7 (AV.cons (AV.bool true) (AV.leaf .nil))), h))
noncomputable def A_impl_TreeNodes : An := (.two .o (.two .o (.two (.two .o (.two (.two .o .o) .o)) (.two .o .o))))
noncomputable def b_impl_TreeNodes : Code := bodyOf Go.Proofs.Try.f29
theorem k_impl_TreeNodes (F g : Nat) (a0 : AV) (h : H) : callD Go.Proofs.Try.prog (Env.add (Env.add (fun _ _ _ => none : Env) 91 (u1 (c_impl_readTree F g))) 95 (u1 (c_impl_node_nodes F g))) 16 F b_impl_TreeNodes [2, 3] A_impl_TreeNodes [a0] h = c_impl_TreeNodes F g a0 h := by kernel_rfl
theorem s_impl_TreeNodes (F g : Nat) : ∀ args h r, u1 (c_impl_TreeNodes F g) args h = some r → Tri Go.Proofs.Try.prog 29 args h r := by
  intro args h r e; obtain ⟨a0, rfl, e1⟩ := u1_some e; exact fn_sound Go.Proofs.Try.func29 rfl rfl rfl Go.Proofs.Try.ntmps29 (Sound.add (Sound.add (Sound.none _) (s_impl_readTree F g)) (s_impl_node_nodes F g)) ((k_impl_TreeNodes F g a0 h).trans e1)

-- "(*loop.example/treenumbers/impl.node).height"
noncomputable def c_impl_node_height_l1 (F g : Nat) (self : AV → H → Option R) : List AV → H → (List AV → H → Option R) → Option R := fun vs h kc5 => (fun x6 x7 x8 x9 => aCmpI ilt x9 x8 h fun x10 h => withBool x10 fun t11 => bc t11 (aIdxAddr 1 x7 x9 h fun x12 h => aLoad x12 h fun x13 h => bindR (self x13 h) fun x14 h => aArith iadd x14 (AV.int 3 (Int.ofNat 1)) h fun x15 h => aMM true x6 x15 h fun x16 h => aArith iadd x9 (AV.int 3 (Int.ofNat 1)) h fun x17 h => kc5 [x16, x7, x8, x17] h) (some (x6, h))) (hd vs) (hd (tl vs)) (hd (tl (tl vs))) (hd (tl (tl (tl vs))))
noncomputable def c_impl_node_height (F g : Nat) : AV → H → Option R := Nat.rec (motive := fun _ => AV → H → Option R) (fun _ _ => none) (fun g self a0 h => aNilCheck a0 h fun x1 h => aField 2 x1 h fun x2 h => aLoad x2 h fun x3 h => aLenK 1 x3 h fun x4 h => loopD F (c_impl_node_height_l1 F g self) [(AV.int 3 (Int.ofNat 0)), x3, x4, (AV.int 3 (Int.ofNat 0))] h) g
noncomputable def A_impl_node_height : An := (.two .o (.two .o (.two (.two .o (.two (.at_ [3, 9, 10, 11] (.two .o (.two (.two .o .o) (.two (.two (.two .o .o) .o) .o))) .o) .o)) (.two .o .o))))
noncomputable def b_impl_node_height : Code := bodyOf Go.Proofs.Try.f99
theorem k_impl_node_height (F g : Nat) (a0 : AV) (h : H) : callD Go.Proofs.Try.prog (Env.add (fun _ _ _ => none : Env) 99 (u1 (c_impl_node_height F g))) 22 F b_impl_node_height [2] A_impl_node_height [a0] h = c_impl_node_height F (g + 1) a0 h := by kernel_rfl
theorem s_impl_node_height (F g : Nat) : ∀ args h r, u1 (c_impl_node_height F g) args h = some r → Tri Go.Proofs.Try.prog 99 args h r := by
  induction g with
  | zero => intro args h r e; obtain ⟨a0, rfl, e⟩ := u1_some e; cases e
  | succ g ih => intro args h r e; obtain ⟨a0, rfl, e1⟩ := u1_some e; exact fn_sound Go.Proofs.Try.func99 rfl rfl rfl Go.Proofs.Try.ntmps99 (Sound.add (Sound.none _) ih) ((k_impl_node_height F g a0 h).trans e1)

-- "loop.example/treenumbers/impl.TreeHeight"
noncomputable def c_impl_TreeHeight (F g : Nat) (a0 : AV) (h : H) : Option R := bindR (c_impl_readTree F g a0 h) fun x1 h => aExtract x1 0 h fun x2 h => aExtract x1 1 h fun x3 h => aNot x3 h fun x4 h => withBool x4 fun t5 => bc t5 (some (AV.one .tup (AV.cons (AV.int 3 (Int.ofNat 0)) (AV.cons (AV.bool false) (AV.leaf .nil))), h)) (bindR (c_impl_node_height F g x2 h) fun x6 h => some (AV.one .tup (AV.cons x6 (AV.cons (AV.bool true) (AV.leaf .nil))), h))
noncomputable def A_impl_TreeHeight : An := (.two .o (.two .o (.two (.two .o (.two (.two .o .o) .o)) (.two .o .o))))
noncomputable def b_impl_TreeHeight : Code := bodyOf Go.Proofs.Try.f37
theorem k_impl_TreeHeight (F g : Nat) (a0 : AV) (h : H) : callD Go.Proofs.Try.prog (Env.add (Env.add (fun _ _ _ => none : Env) 91 (u1 (c_impl_readTree F g))) 99 (u1 (c_impl_node_height F g))) 15 F b_impl_TreeHeight [2, 3] A_impl_TreeHeight [a0] h = c_impl_TreeHeight F g a0 h := by kernel_rfl
theorem s_impl_TreeHeight (F g : Nat) : ∀ args h r, u1 (c_impl_TreeHeight F g) args h = some r → Tri Go.Proofs.Try.prog 37 args h r := by
  intro args h r e; obtain ⟨a0, rfl, e1⟩ := u1_some e; exact fn_sound Go.Proofs.Try.func37 rfl rfl rfl Go.Proofs.Try.ntmps37 (Sound.add (Sound.add (Sound.none _) (s_impl_readTree F g)) (s_impl_node_height F g)) ((k_impl_TreeHeight F g a0 h).trans e1)

-- "loop.example/treenumbers/laws.total"
noncomputable def c_laws_total_l1 (F g : Nat) : List AV → H → (List AV → H → Option R) → Option R := fun vs h kc1 => (fun x2 x3 x4 => aLenK 1 x2 h fun x5 h => aCmpI ilt x4 x5 h fun x6 h => withBool x6 fun t7 => bc t7 (aIdxAddr 1 x2 x4 h fun x8 h => aLoad x8 h fun x9 h => aArith iadd x3 x9 h fun x10 h => aArith iadd x4 (AV.int 3 (Int.ofNat 1)) h fun x11 h => kc1 [x2, x10, x11] h) (some (x3, h))) (hd vs) (hd (tl vs)) (hd (tl (tl vs)))
noncomputable def c_laws_total (F g : Nat) (a0 : AV) (h : H) : Option R := loopD F (c_laws_total_l1 F g) [a0, (AV.int 3 (Int.ofNat 0)), (AV.int 3 (Int.ofNat 0))] h
noncomputable def A_laws_total : An := (.two .o (.two .o (.two (.two .o (.two (.at_ [0, 3, 4] (.two (.two .o (.two .o .o)) (.two (.two .o .o) .o)) .o) .o)) (.two .o .o))))
noncomputable def b_laws_total : Code := bodyOf Go.Proofs.Try.f72
theorem k_laws_total (F g : Nat) (a0 : AV) (h : H) : callD Go.Proofs.Try.prog (fun _ _ _ => none : Env) 18 F b_laws_total [2] A_laws_total [a0] h = c_laws_total F g a0 h := by kernel_rfl
theorem s_laws_total (F g : Nat) : ∀ args h r, u1 (c_laws_total F g) args h = some r → Tri Go.Proofs.Try.prog 72 args h r := by
  intro args h r e; obtain ⟨a0, rfl, e1⟩ := u1_some e; exact fn_sound Go.Proofs.Try.func72 rfl rfl rfl Go.Proofs.Try.ntmps72 (Sound.none _) ((k_laws_total F g a0 h).trans e1)

-- "loop.example/treenumbers/laws.FnWide"
noncomputable def c_laws_FnWide_j1 (F g : Nat) (vs : List AV) (h : H) : Option R := (fun x30 x31 => aPick x30 x31 (AV.bool false) h fun x32 h => some (x32, h)) (hd vs) (hd (tl vs))
noncomputable def c_laws_FnWide_j2 (F g : Nat) (vs : List AV) (h : H) : Option R := (fun x72 x73 => aPick x72 x73 (AV.bool false) h fun x74 h => some (x74, h)) (hd vs) (hd (tl vs))
noncomputable def c_laws_FnWide_j3 (F g : Nat) (vs : List AV) (h : H) : Option R := (fun x67 x68 x69 x70 => aPick x69 x70 (AV.bool false) h fun x71 h => guardB true x71 (aLenK 1 x67 h fun x75 h => aArith iadd x68 (AV.int 3 (Int.ofNat 1)) h fun x76 h => aCmpI ieq x75 x76 h fun x77 h => (c_laws_FnWide_j2 F g) [x71, x77] h) ((c_laws_FnWide_j2 F g) [x71, (AV.one .tup (AV.leaf .nil))] h)) (hd vs) (hd (tl vs)) (hd (tl (tl vs))) (hd (tl (tl (tl vs))))
noncomputable def c_laws_FnWide_j4 (F g : Nat) (vs : List AV) (h : H) : Option R := (fun x61 x62 x63 x64 x65 => aPick x64 x65 (AV.bool false) h fun x66 h => guardB true x66 (bindR (c_laws_total F g x61 h) fun x78 h => aCmpI ieq x78 x62 h fun x79 h => (c_laws_FnWide_j3 F g) [x61, x63, x66, x79] h) ((c_laws_FnWide_j3 F g) [x61, x63, x66, (AV.one .tup (AV.leaf .nil))] h)) (hd vs) (hd (tl vs)) (hd (tl (tl vs))) (hd (tl (tl (tl vs)))) (hd (tl (tl (tl (tl vs)))))
noncomputable def c_laws_FnWide_j5 (F g : Nat) (vs : List AV) (h : H) : Option R := (fun x55 x56 x57 x58 x59 => aPick x58 x59 (AV.bool false) h fun x60 h => guardB true x60 (aIdxAddr 1 x55 (AV.int 3 (Int.ofNat 0)) h fun x80 h => aLoad x80 h fun x81 h => aCmpI ieq x81 (AV.int 3 (Int.ofNat 1)) h fun x82 h => (c_laws_FnWide_j4 F g) [x55, x56, x57, x60, x82] h) ((c_laws_FnWide_j4 F g) [x55, x56, x57, x60, (AV.one .tup (AV.leaf .nil))] h)) (hd vs) (hd (tl vs)) (hd (tl (tl vs))) (hd (tl (tl (tl vs)))) (hd (tl (tl (tl (tl vs)))))
noncomputable def c_laws_FnWide_l6 (F g : Nat) : List AV → H → (List AV → H → Option R) → Option R := fun vs h kc40 => (fun x41 x42 x43 x44 x45 x46 => aLenK 1 x41 h fun x47 h => aCmpI ilt x46 x47 h fun x48 h => withBool x48 fun t49 => bc t49 (aIdxAddr 1 x41 x46 h fun x50 h => aLoad x50 h fun x51 h => aCmpI ilt x51 (AV.int 3 (Int.ofNat 1)) h fun x52 h => withBool x52 fun t53 => bc t53 (some ((AV.bool false), h)) (aArith iadd x46 (AV.int 3 (Int.ofNat 1)) h fun x54 h => kc40 [x41, x42, x43, x44, x45, x54] h)) (guardB true x43 ((c_laws_FnWide_j5 F g) [x41, x42, x44, x43, x45] h) ((c_laws_FnWide_j5 F g) [x41, x42, x44, x43, (AV.one .tup (AV.leaf .nil))] h))) (hd vs) (hd (tl vs)) (hd (tl (tl vs))) (hd (tl (tl (tl vs)))) (hd (tl (tl (tl (tl vs))))) (hd (tl (tl (tl (tl (tl vs))))))
noncomputable def c_laws_FnWide_j7 (F g : Nat) (vs : List AV) (h : H) : Option R := (fun x20 x21 x22 x23 x24 x25 x26 => aPick x25 (AV.bool true) x26 h fun x27 h => withBool x27 fun t28 => bc t28 (aEq false 0 x22 x24 h fun x29 h => guardB true x29 (bindR (c_laws_sameInts F g x21 x23 h) fun x33 h => (c_laws_FnWide_j1 F g) [x29, x33] h) ((c_laws_FnWide_j1 F g) [x29, (AV.one .tup (AV.leaf .nil))] h)) (bindR (c_impl_TreeNodes F g x20 h) fun x34 h => aExtract x34 0 h fun x35 h => aExtract x34 1 h fun x36 h => bindR (c_impl_TreeHeight F g x20 h) fun x37 h => aExtract x37 0 h fun x38 h => aExtract x37 1 h fun x39 h => loopD F (c_laws_FnWide_l6 F g) [x21, x35, x36, x38, x39, (AV.int 3 (Int.ofNat 0))] h)) (hd vs) (hd (tl vs)) (hd (tl (tl vs))) (hd (tl (tl (tl vs)))) (hd (tl (tl (tl (tl vs))))) (hd (tl (tl (tl (tl (tl vs)))))) (hd (tl (tl (tl (tl (tl (tl vs)))))))
noncomputable def c_laws_FnWide_j8 (F g : Nat) (vs : List AV) (h : H) : Option R := (fun x12 x13 x14 x15 x16 x17 x18 => aPick x17 (AV.bool true) x18 h fun x19 h => guardB false x19 (aNot x14 h fun x83 h => (c_laws_FnWide_j7 F g) [x12, x13, x14, x15, x16, x19, x83] h) ((c_laws_FnWide_j7 F g) [x12, x13, x14, x15, x16, x19, (AV.one .tup (AV.leaf .nil))] h)) (hd vs) (hd (tl vs)) (hd (tl (tl vs))) (hd (tl (tl (tl vs)))) (hd (tl (tl (tl (tl vs))))) (hd (tl (tl (tl (tl (tl vs)))))) (hd (tl (tl (tl (tl (tl (tl vs)))))))
noncomputable def c_laws_FnWide_r9 (F g : Nat) (x4 : AV) (h : H) : Option R := bindR (c_impl_LevelsWide F g x4 h) fun x5 h => aExtract x5 0 h fun x6 h => aExtract x5 1 h fun x7 h => bindR (c_spec_LevelsWide F g x4 h) fun x8 h => aExtract x8 0 h fun x9 h => aExtract x8 1 h fun x10 h => aEq true 0 x7 x10 h fun x11 h => guardB false x11 (bindR (c_laws_sameInts F g x6 x9 h) fun x84 h => aNot x84 h fun x85 h => (c_laws_FnWide_j8 F g) [x4, x6, x7, x9, x10, x11, x85] h) ((c_laws_FnWide_j8 F g) [x4, x6, x7, x9, x10, x11, (AV.one .tup (AV.leaf .nil))] h)
noncomputable def c_laws_FnWide (F g : Nat) (a0 : AV) (h : H) : Option R := aLenK 1 a0 h fun x1 h => aCmpI (fun a b => ilt b a) x1 (AV.int 3 (Int.ofNat 1048576)) h fun x2 h => withBool x2 fun t3 => bc t3 (some ((AV.bool true), h)) (bindR (c_spec_DrawLevelsWide F g a0 h) fun x4 h => c_laws_FnWide_r9 F g x4 h)
noncomputable def A_laws_FnWide : An := (.two .o (.two (.two .o (.two (.two .o .o) .o)) (.two .o (.two .o (.two .o (.two (.two (.at_ [3, 4, 5, 6, 7, 31, 35] .o (.at_ [3, 4, 5, 6, 7, 37, 39] .o .o)) (.two (.two (.at_ [44, 47] .o .o) .o) .o)) (.two .o (.two .o (.two (.two .o (.two (.at_ [4, 8, 9, 10, 11, 12] (.two (.two .o (.two .o .o)) (.two (.two (.two .o (.two (.two .o .o) .o)) .o) .o)) .o) .o)) (.two (.at_ [4, 8, 10, 71, 72] .o (.at_ [4, 8, 10, 74, 78] .o (.at_ [4, 10, 80, 84] .o (.at_ [86, 91] .o .o)))) .o))))))))))
noncomputable def b_laws_FnWide : Code := bodyOf Go.Proofs.Try.f17
theorem k_laws_FnWide (F g : Nat) (a0 : AV) (h : H) : callD Go.Proofs.Try.prog (Env.add (Env.add (Env.add (Env.add (Env.add (Env.add (Env.add (fun _ _ _ => none : Env) 69 (u1 (c_spec_DrawLevelsWide F g))) 70 (u1 (c_impl_LevelsWide F g))) 71 (u1 (c_spec_LevelsWide F g))) 55 (u2 (c_laws_sameInts F g))) 29 (u1 (c_impl_TreeNodes F g))) 37 (u1 (c_impl_TreeHeight F g))) 72 (u1 (c_laws_total F g))) 93 F b_laws_FnWide [2] A_laws_FnWide [a0] h = c_laws_FnWide F g a0 h := by kernel_rfl
theorem s_laws_FnWide (F g : Nat) : ∀ args h r, u1 (c_laws_FnWide F g) args h = some r → Tri Go.Proofs.Try.prog 17 args h r := by
  intro args h r e; obtain ⟨a0, rfl, e1⟩ := u1_some e; exact fn_sound Go.Proofs.Try.func17 rfl rfl rfl Go.Proofs.Try.ntmps17 (Sound.add (Sound.add (Sound.add (Sound.add (Sound.add (Sound.add (Sound.add (Sound.none _) (s_spec_DrawLevelsWide F g)) (s_impl_LevelsWide F g)) (s_spec_LevelsWide F g)) (s_laws_sameInts F g)) (s_impl_TreeNodes F g)) (s_impl_TreeHeight F g)) (s_laws_total F g)) ((k_laws_FnWide F g a0 h).trans e1)

end
end Go.AI.T
