/- The functions that the law FnTops reaches, as the evaluator reads them. -/
import Derived.Test.YtfafaadfnhhfhaaRaw
import Derived.Test.YtfafaadfnhhfhaaGiv
import Derived.Test.YtfafaadfnhhfhaaProg
import Derived.KernelRfl
namespace Go.AI
open Go Go.RowKit Go.AI
set_option linter.unusedVariables false
set_option linter.unusedSimpArgs false
set_option maxRecDepth 100000
noncomputable section
-- "loop.example/treenumbers/spec.DrawCutTops"
noncomputable def c_spec_DrawCutTops (F g : Nat) (a0 : AV) (h : H) : Option R := bindR (c_spec_l91Some F g a0 h) fun x1 h => some (x1, h)
noncomputable def A_spec_DrawCutTops : An := (.two .o (.two .o .o))
noncomputable def b_spec_DrawCutTops : Code := bodyOf Go.Proofs.Try.f87
theorem k_spec_DrawCutTops (F g : Nat) (a0 : AV) (h : H) : callD Go.Proofs.Try.prog (Env.add (fun _ _ _ => none : Env) 90 (u1 (c_spec_l91Some F g))) 5 F b_spec_DrawCutTops [2] A_spec_DrawCutTops [a0] h = c_spec_DrawCutTops F g a0 h := by kernel_rfl
theorem s_spec_DrawCutTops (F g : Nat) : ∀ args h r, u1 (c_spec_DrawCutTops F g) args h = some r → Tri Go.Proofs.Try.prog 87 args h r := by
  intro args h r e; obtain ⟨a0, rfl, e1⟩ := u1_some e; exact fn_sound Go.Proofs.Try.func87 rfl rfl rfl Go.Proofs.Try.ntmps87 (Sound.add (Sound.none _) (s_spec_l91Some F g)) ((k_spec_DrawCutTops F g a0 h).trans e1)

end
end Go.AI
namespace Go.AI.T
open Go Go.RowKit Go.AI
set_option linter.unusedVariables false
set_option linter.unusedSimpArgs false
set_option maxRecDepth 100000
noncomputable section
def c_spec_DrawCutTops (F g : Nat) (a0 : AV) (h : H) : Option R := quietC (Go.AI.c_spec_DrawCutTops 20000 20) a0 h
theorem s_spec_DrawCutTops (F g : Nat) : ∀ args h r, u1 (c_spec_DrawCutTops F g) args h = some r → Tri Go.Proofs.Try.prog id_spec_DrawCutTops args h r := quietC_sound (Go.AI.s_spec_DrawCutTops 20000 20)
theorem draw_FnTops (F g : Nat) {a0 : AV} {n : Nat} {L : List AV} {B : Blk} (ha : (a0 = .leaf .nils ∧ n = 0) ∨ a0 = .osl 0 0 n 1) (hB : 0 < n → B = .cells 2 L) (hb : ∀ i, i < n → ∃ v, L[i]? = some (.int 4 (.ofNat v)) ∧ v < 256) :
    ∃ l, (l.length ≤ 300 ∧ (isTree l = true → l.length ≤ 16)) ∧ c_spec_DrawCutTops F g a0 (hCode B) = some (.str l l.length, hCode B) := by
  obtain ⟨l, h', hl, e, hlo⟩ := some_ok (F := 20000) (g := 20) (h := hCode B) (by omega) ha (fun hn => ⟨2, hB hn⟩) hb (Nat.le_refl _) (Nat.le_refl _)
  refine ⟨l, hl, quietC_ok (h' := h') ?_ rfl hlo⟩
  show bindR (Go.AI.c_spec_l91Some 20000 20 a0 (hCode B)) _ = _
  rw [e]; rfl
end
end Go.AI.T
namespace Go.AI.T
open Go Go.RowKit Go.AI
set_option linter.unusedVariables false
set_option linter.unusedSimpArgs false
set_option maxRecDepth 100000
noncomputable section
-- "(*loop.example/treenumbers/impl.node).tops"
noncomputable def c_impl_node_tops_l1 (F g : Nat) (self : AV → H → Option R) : List AV → H → (List AV → H → Option R) → Option R := fun vs h kc5 => (fun x6 x7 x8 x9 => aCmpI ilt x9 x8 h fun x10 h => withBool x10 fun t11 => bc t11 (aIdxAddr 1 x7 x9 h fun x12 h => aLoad x12 h fun x13 h => bindR (self x13 h) fun x14 h => aArith iadd x14 (AV.int 3 (Int.ofNat 1)) h fun x15 h => aArith imul x6 x15 h fun x16 h => aArith iadd x9 (AV.int 3 (Int.ofNat 1)) h fun x17 h => kc5 [x16, x7, x8, x17] h) (some (x6, h))) (hd vs) (hd (tl vs)) (hd (tl (tl vs))) (hd (tl (tl (tl vs))))
noncomputable def c_impl_node_tops (F g : Nat) : AV → H → Option R := Nat.rec (motive := fun _ => AV → H → Option R) (fun _ _ => none) (fun g self a0 h => aNilCheck a0 h fun x1 h => aField 2 x1 h fun x2 h => aLoad x2 h fun x3 h => aLenK 1 x3 h fun x4 h => loopD F (c_impl_node_tops_l1 F g self) [(AV.int 3 (Int.ofNat 1)), x3, x4, (AV.int 3 (Int.ofNat 0))] h) g
noncomputable def A_impl_node_tops : An := (.two .o (.two .o (.two (.two .o (.two (.at_ [3, 9, 10, 11] (.two .o (.two (.two .o .o) (.two (.two (.two .o .o) .o) .o))) .o) .o)) (.two .o .o))))
noncomputable def b_impl_node_tops : Code := bodyOf Go.Proofs.Try.f133
theorem k_impl_node_tops (F g : Nat) (a0 : AV) (h : H) : callD Go.Proofs.Try.prog (Env.add (fun _ _ _ => none : Env) 133 (u1 (c_impl_node_tops F g))) 22 F b_impl_node_tops [2] A_impl_node_tops [a0] h = c_impl_node_tops F (g + 1) a0 h := by kernel_rfl
theorem s_impl_node_tops (F g : Nat) : ∀ args h r, u1 (c_impl_node_tops F g) args h = some r → Tri Go.Proofs.Try.prog 133 args h r := by
  induction g with
  | zero => intro args h r e; obtain ⟨a0, rfl, e⟩ := u1_some e; cases e
  | succ g ih => intro args h r e; obtain ⟨a0, rfl, e1⟩ := u1_some e; exact fn_sound Go.Proofs.Try.func133 rfl rfl rfl Go.Proofs.Try.ntmps133 (Sound.add (Sound.none _) ih) ((k_impl_node_tops F g a0 h).trans e1)

-- "loop.example/treenumbers/impl.CutTops"
noncomputable def c_impl_CutTops (F g : Nat) (a0 : AV) (h : H) : Option R := bindR (c_impl_readTree F g a0 h) fun x1 h => aExtract x1 0 h fun x2 h => aExtract x1 1 h fun x3 h => aNot x3 h fun x4 h => withBool x4 fun t5 => bc t5 (some (AV.one .tup (AV.cons (AV.int 3 (Int.ofNat 0)) (AV.cons (AV.bool false) (AV.leaf .nil))), h)) (bindR (c_impl_node_tops F g x2 h) fun x6 h => some (AV.one .tup (AV.cons x6 (AV.cons (AV.bool true) (AV.leaf .nil))), h))
noncomputable def A_impl_CutTops : An := (.two .o (.two .o (.two (.two .o (.two (.two .o .o) .o)) (.two .o .o))))
noncomputable def b_impl_CutTops : Code := bodyOf Go.Proofs.Try.f88
theorem k_impl_CutTops (F g : Nat) (a0 : AV) (h : H) : callD Go.Proofs.Try.prog (Env.add (Env.add (fun _ _ _ => none : Env) 91 (u1 (c_impl_readTree F g))) 133 (u1 (c_impl_node_tops F g))) 15 F b_impl_CutTops [2, 3] A_impl_CutTops [a0] h = c_impl_CutTops F g a0 h := by kernel_rfl
theorem s_impl_CutTops (F g : Nat) : ∀ args h r, u1 (c_impl_CutTops F g) args h = some r → Tri Go.Proofs.Try.prog 88 args h r := by
  intro args h r e; obtain ⟨a0, rfl, e1⟩ := u1_some e; exact fn_sound Go.Proofs.Try.func88 rfl rfl rfl Go.Proofs.Try.ntmps88 (Sound.add (Sound.add (Sound.none _) (s_impl_readTree F g)) (s_impl_node_tops F g)) ((k_impl_CutTops F g a0 h).trans e1)

-- "loop.example/treenumbers/spec.l1End"
noncomputable def c_spec_l1End_j1 (F g : Nat) (kc1 : List AV → H → Option R) (vs : List AV) (h : H) : Option R := (fun x8 x9 x10 => aCmpI ieq x9 (AV.int 3 (Int.ofNat 0)) h fun x11 h => withBool x11 fun t12 => bc t12 (aArith iadd x10 (AV.int 3 (Int.ofNat 1)) h fun x13 h => some (x13, h)) (aCmpI ilt x9 (AV.int 3 (Int.ofNat 0)) h fun x14 h => withBool x14 fun t15 => bc t15 (some ((AV.int 3 (Int.negSucc 0)), h)) (aArith iadd x10 (AV.int 3 (Int.ofNat 1)) h fun x16 h => kc1 [x8, x9, x16] h))) (hd vs) (hd (tl vs)) (hd (tl (tl vs)))
noncomputable def c_spec_l1End_l2 (F g : Nat) : List AV → H → (List AV → H → Option R) → Option R := fun vs h kc1 => (fun x2 x3 x4 => aLenK 0 x2 h fun x5 h => aCmpI ilt x4 x5 h fun x6 h => withBool x6 fun t7 => bc t7 (aIdxStr x2 x4 h fun x17 h => aCmpI ieq x17 (AV.int 4 (Int.ofNat 40)) h fun x18 h => withBool x18 fun t19 => bc t19 (aArith iadd x3 (AV.int 3 (Int.ofNat 1)) h fun x20 h => (c_spec_l1End_j1 F g kc1) [x2, x20, x4] h) (aCmpI ieq x17 (AV.int 4 (Int.ofNat 41)) h fun x21 h => withBool x21 fun t22 => bc t22 (aArith isub x3 (AV.int 3 (Int.ofNat 1)) h fun x23 h => (c_spec_l1End_j1 F g kc1) [x2, x23, x4] h) (some ((AV.int 3 (Int.negSucc 0)), h)))) (some ((AV.int 3 (Int.negSucc 0)), h))) (hd vs) (hd (tl vs)) (hd (tl (tl vs)))
noncomputable def c_spec_l1End (F g : Nat) (a0 a1 : AV) (h : H) : Option R := loopD F (c_spec_l1End_l2 F g) [a0, (AV.int 3 (Int.ofNat 0)), a1] h
noncomputable def A_spec_l1End : An := (.two .o (.two .o (.two (.two .o (.two (.at_ [0, 5, 6] (.two (.two .o (.two .o .o)) (.two (.two (.at_ [0, 5, 6] (.two .o (.two (.two .o (.two .o (.two .o (.two .o (.two .o .o))))) .o)) (.two (.two .o (.two (.two .o .o) .o)) (.two .o (.two (.two .o .o) .o)))) .o) .o)) .o) .o)) (.two .o .o))))
noncomputable def b_spec_l1End : Code := bodyOf Go.Proofs.Try.f92
theorem k_spec_l1End (F g : Nat) (a0 a1 : AV) (h : H) : callD Go.Proofs.Try.prog (fun _ _ _ => none : Env) 31 F b_spec_l1End [4] A_spec_l1End [a0, a1] h = c_spec_l1End F g a0 a1 h := by kernel_rfl
theorem s_spec_l1End (F g : Nat) : ∀ args h r, u2 (c_spec_l1End F g) args h = some r → Tri Go.Proofs.Try.prog 92 args h r := by
  intro args h r e; obtain ⟨a0, a1, rfl, e1⟩ := u2_some e; exact fn_sound Go.Proofs.Try.func92 rfl rfl rfl Go.Proofs.Try.ntmps92 (Sound.none _) ((k_spec_l1End F g a0 a1 h).trans e1)

-- "loop.example/treenumbers/spec.l1Kids"
noncomputable def c_spec_l1Kids_l1 (F g : Nat) : List AV → H → (List AV → H → Option R) → Option R := fun vs h kc2 => (fun x3 x4 x5 => aLenK 0 x3 h fun x6 h => aArith isub x6 (AV.int 3 (Int.ofNat 1)) h fun x7 h => aCmpI ilt x5 x7 h fun x8 h => withBool x8 fun t9 => bc t9 (bindR (c_spec_l1End F g x3 x5 h) fun x10 h => aSliceS x3 (some x5) (some x10) none h fun x11 h => aBuildSlice 1 1 [(0, 1, x11)] h fun x12 h => aAppend 1 16 x4 x12 h fun x13 h => kc2 [x3, x13, x10] h) (some (x4, h))) (hd vs) (hd (tl vs)) (hd (tl (tl vs)))
noncomputable def c_spec_l1Kids (F g : Nat) (a0 : AV) (h : H) : Option R := aBuildSlice 0 1 [] h fun x1 h => loopD F (c_spec_l1Kids_l1 F g) [a0, x1, (AV.int 3 (Int.ofNat 1))] h
noncomputable def A_spec_l1Kids : An := (.two .o (.two .o (.two .o (.two (.two (.at_ [0, 3, 4] (.two (.two .o (.two .o .o)) (.two (.two .o (.two .o .o)) .o)) .o) .o) (.two .o .o)))))
noncomputable def b_spec_l1Kids : Code := bodyOf Go.Proofs.Try.f102
theorem k_spec_l1Kids (F g : Nat) (a0 : AV) (h : H) : callD Go.Proofs.Try.prog (Env.add (fun _ _ _ => none : Env) 92 (u2 (c_spec_l1End F g))) 24 F b_spec_l1Kids [2] A_spec_l1Kids [a0] h = c_spec_l1Kids F g a0 h := by kernel_rfl
theorem s_spec_l1Kids (F g : Nat) : ∀ args h r, u1 (c_spec_l1Kids F g) args h = some r → Tri Go.Proofs.Try.prog 102 args h r := by
  intro args h r e; obtain ⟨a0, rfl, e1⟩ := u1_some e; exact fn_sound Go.Proofs.Try.func102 rfl rfl rfl Go.Proofs.Try.ntmps102 (Sound.add (Sound.none _) (s_spec_l1End F g)) ((k_spec_l1Kids F g a0 h).trans e1)

-- "loop.example/treenumbers/spec.l7Tops"
noncomputable def c_spec_l7Tops_l1 (F g : Nat) (self : AV → H → Option R) : List AV → H → (List AV → H → Option R) → Option R := fun vs h kc2 => (fun x3 x4 x5 => aLenK 1 x4 h fun x6 h => aCmpI ilt x5 x6 h fun x7 h => withBool x7 fun t8 => bc t8 (aIdxAddr 1 x4 x5 h fun x9 h => aLoad x9 h fun x10 h => bindR (self x10 h) fun x11 h => aArith iadd (AV.int 3 (Int.ofNat 1)) x11 h fun x12 h => aArith imul x3 x12 h fun x13 h => aArith iadd x5 (AV.int 3 (Int.ofNat 1)) h fun x14 h => kc2 [x13, x4, x14] h) (some (x3, h))) (hd vs) (hd (tl vs)) (hd (tl (tl vs)))
noncomputable def c_spec_l7Tops (F g : Nat) : AV → H → Option R := Nat.rec (motive := fun _ => AV → H → Option R) (fun _ _ => none) (fun g self a0 h => bindR (c_spec_l1Kids F g a0 h) fun x1 h => loopD F (c_spec_l7Tops_l1 F g self) [(AV.int 3 (Int.ofNat 1)), x1, (AV.int 3 (Int.ofNat 0))] h) g
noncomputable def A_spec_l7Tops : An := (.two .o (.two .o (.two .o (.two (.two .o (.two (.at_ [3, 4, 5] (.two (.two .o (.two .o .o)) (.two (.two .o .o) .o)) .o) .o)) (.two .o .o)))))
noncomputable def b_spec_l7Tops : Code := bodyOf Go.Proofs.Try.f134
theorem k_spec_l7Tops (F g : Nat) (a0 : AV) (h : H) : callD Go.Proofs.Try.prog (Env.add (Env.add (fun _ _ _ => none : Env) 102 (u1 (c_spec_l1Kids F g))) 134 (u1 (c_spec_l7Tops F g))) 23 F b_spec_l7Tops [2] A_spec_l7Tops [a0] h = c_spec_l7Tops F (g + 1) a0 h := by kernel_rfl
theorem s_spec_l7Tops (F g : Nat) : ∀ args h r, u1 (c_spec_l7Tops F g) args h = some r → Tri Go.Proofs.Try.prog 134 args h r := by
  induction g with
  | zero => intro args h r e; obtain ⟨a0, rfl, e⟩ := u1_some e; cases e
  | succ g ih => intro args h r e; obtain ⟨a0, rfl, e1⟩ := u1_some e; exact fn_sound Go.Proofs.Try.func134 rfl rfl rfl Go.Proofs.Try.ntmps134 (Sound.add (Sound.add (Sound.none _) (s_spec_l1Kids F g)) ih) ((k_spec_l7Tops F g a0 h).trans e1)

-- "loop.example/treenumbers/spec.CutTops"
noncomputable def c_spec_CutTops (F g : Nat) (a0 : AV) (h : H) : Option R := bindR (c_spec_TreeIn F g a0 h) fun x1 h => aNot x1 h fun x2 h => withBool x2 fun t3 => bc t3 (some (AV.one .tup (AV.cons (AV.int 3 (Int.ofNat 0)) (AV.cons (AV.bool false) (AV.leaf .nil))), h)) (bindR (c_spec_l7Tops F g a0 h) fun x4 h => some (AV.one .tup (AV.cons x4 (AV.cons (AV.bool true) (AV.leaf .nil))), h))
noncomputable def A_spec_CutTops : An := (.two .o (.two (.two .o (.two (.two .o .o) .o)) (.two .o .o)))
noncomputable def b_spec_CutTops : Code := bodyOf Go.Proofs.Try.f89
theorem k_spec_CutTops (F g : Nat) (a0 : AV) (h : H) : callD Go.Proofs.Try.prog (Env.add (Env.add (fun _ _ _ => none : Env) 25 (u1 (c_spec_TreeIn F g))) 134 (u1 (c_spec_l7Tops F g))) 9 F b_spec_CutTops [2, 3] A_spec_CutTops [a0] h = c_spec_CutTops F g a0 h := by kernel_rfl
theorem s_spec_CutTops (F g : Nat) : ∀ args h r, u1 (c_spec_CutTops F g) args h = some r → Tri Go.Proofs.Try.prog 89 args h r := by
  intro args h r e; obtain ⟨a0, rfl, e1⟩ := u1_some e; exact fn_sound Go.Proofs.Try.func89 rfl rfl rfl Go.Proofs.Try.ntmps89 (Sound.add (Sound.add (Sound.none _) (s_spec_TreeIn F g)) (s_spec_l7Tops F g)) ((k_spec_CutTops F g a0 h).trans e1)

-- "(*loop.example/treenumbers/impl.node).nodes"
noncomputable def c_impl_node_nodes_l1 (F g : Nat) (self : AV → H → Option R) : List AV → H → (List AV → H → Option R) → Option R := fun vs h kc6 => (fun x7 x8 x9 x10 => aCmpI ilt x10 x9 h fun x11 h => withBool x11 fun t12 => bc t12 (aIdxAddr 1 x8 x10 h fun x13 h => aLoad x13 h fun x14 h => bindR (self x14 h) fun x15 h => aAppend 1 8 x7 x15 h fun x16 h => aArith iadd x10 (AV.int 3 (Int.ofNat 1)) h fun x17 h => kc6 [x16, x8, x9, x17] h) (some (x7, h))) (hd vs) (hd (tl vs)) (hd (tl (tl vs))) (hd (tl (tl (tl vs))))
noncomputable def c_impl_node_nodes (F g : Nat) : AV → H → Option R := Nat.rec (motive := fun _ => AV → H → Option R) (fun _ _ => none) (fun g self a0 h => aBuildSlice 1 1 [(0, 1, a0)] h fun x1 h => aNilCheck a0 h fun x2 h => aField 2 x2 h fun x3 h => aLoad x3 h fun x4 h => aLenK 1 x4 h fun x5 h => loopD F (c_impl_node_nodes_l1 F g self) [x1, x4, x5, (AV.int 3 (Int.ofNat 0))] h) g
noncomputable def A_impl_node_nodes : An := (.two .o (.two .o (.two (.two .o (.two (.at_ [3, 11, 12, 13] (.two .o (.two (.two .o .o) (.two (.two (.two .o .o) .o) .o))) .o) .o)) (.two .o .o))))
noncomputable def b_impl_node_nodes : Code := bodyOf Go.Proofs.Try.f95
theorem k_impl_node_nodes (F g : Nat) (a0 : AV) (h : H) : callD Go.Proofs.Try.prog (Env.add (fun _ _ _ => none : Env) 95 (u1 (c_impl_node_nodes F g))) 23 F b_impl_node_nodes [2] A_impl_node_nodes [a0] h = c_impl_node_nodes F (g + 1) a0 h := by kernel_rfl
theorem s_impl_node_nodes (F g : Nat) : ∀ args h r, u1 (c_impl_node_nodes F g) args h = some r → Tri Go.Proofs.Try.prog 95 args h r := by
  induction g with
  | zero => intro args h r e; obtain ⟨a0, rfl, e⟩ := u1_some e; cases e
  | succ g ih => intro args h r e; obtain ⟨a0, rfl, e1⟩ := u1_some e; exact fn_sound Go.Proofs.Try.func95 rfl rfl rfl Go.Proofs.Try.ntmps95 (Sound.add (Sound.none _) ih) ((k_impl_node_nodes F g a0 h).trans e1)

-- "loop.example/treenumbers/impl.TreeNodes"
noncomputable def c_impl_TreeNodes (F g : Nat) (a0 : AV) (h : H) : Option R := bindR (c_impl_readTree F g a0 h) fun x1 h => aExtract x1 0 h fun x2 h => aExtract x1 1 h fun x3 h => aNot x3 h fun x4 h => withBool x4 fun t5 => bc t5 (some (AV.one .tup (AV.cons (AV.int 3 (Int.ofNat 0)) (AV.cons (AV.bool false) (AV.leaf .nil))), h)) (bindR (c_impl_node_nodes F g x2 h) fun x6 h => aLenK 1 x6 h fun x7 h => some (AV.one .tup (AV.cons x7 (AV.cons (AV.bool true) (AV.leaf .nil))), h))
noncomputable def A_impl_TreeNodes : An := (.two .o (.two .o (.two (.two .o (.two (.two .o .o) .o)) (.two .o .o))))
noncomputable def b_impl_TreeNodes : Code := bodyOf Go.Proofs.Try.f29
theorem k_impl_TreeNodes (F g : Nat) (a0 : AV) (h : H) : callD Go.Proofs.Try.prog (Env.add (Env.add (fun _ _ _ => none : Env) 91 (u1 (c_impl_readTree F g))) 95 (u1 (c_impl_node_nodes F g))) 16 F b_impl_TreeNodes [2, 3] A_impl_TreeNodes [a0] h = c_impl_TreeNodes F g a0 h := by kernel_rfl
theorem s_impl_TreeNodes (F g : Nat) : ∀ args h r, u1 (c_impl_TreeNodes F g) args h = some r → Tri Go.Proofs.Try.prog 29 args h r := by
  intro args h r e; obtain ⟨a0, rfl, e1⟩ := u1_some e; exact fn_sound Go.Proofs.Try.func29 rfl rfl rfl Go.Proofs.Try.ntmps29 (Sound.add (Sound.add (Sound.none _) (s_impl_readTree F g)) (s_impl_node_nodes F g)) ((k_impl_TreeNodes F g a0 h).trans e1)

-- "loop.example/treenumbers/impl.TreeOf"
noncomputable def c_impl_TreeOf_j1 (F g : Nat) (kc2 : List AV → H → Option R) (vs : List AV) (h : H) : Option R := (fun x17 x18 x19 x20 x21 x22 x23 => aPick x22 (AV.bool true) x23 h fun x24 h => withBool x24 fun t25 => bc t25 (some (AV.one .tup (AV.cons (AV.str [] 0) (AV.cons (AV.bool false) (AV.leaf .nil))), h)) (aArith iadd x21 (AV.int 3 (Int.ofNat 1)) h fun x26 h => kc2 [x17, x18, x19, x20, x26] h)) (hd vs) (hd (tl vs)) (hd (tl (tl vs))) (hd (tl (tl (tl vs)))) (hd (tl (tl (tl (tl vs))))) (hd (tl (tl (tl (tl (tl vs)))))) (hd (tl (tl (tl (tl (tl (tl vs)))))))
noncomputable def c_impl_TreeOf_l2 (F g : Nat) : List AV → H → (List AV → H → Option R) → Option R := fun vs h kc2 => (fun x3 x4 x5 x6 x7 => aCmpI ilt x7 x6 h fun x8 h => withBool x8 fun t9 => bc t9 (aIdxAddr 1 x5 x7 h fun x10 h => aLoad x10 h fun x11 h => bindR (c_impl_TreeNodes F g x11 h) fun x12 h => aExtract x12 0 h fun x13 h => aExtract x12 1 h fun x14 h => aArith iadd x4 x13 h fun x15 h => aNot x14 h fun x16 h => guardB false x16 (aCmpI (fun a b => ilt b a) x15 (AV.int 3 (Int.ofNat 9)) h fun x27 h => (c_impl_TreeOf_j1 F g kc2) [x3, x15, x5, x6, x7, x16, x27] h) ((c_impl_TreeOf_j1 F g kc2) [x3, x15, x5, x6, x7, x16, (AV.one .tup (AV.leaf .nil))] h)) (bindR (c_strings_Join F g x3 (AV.str [] 0) h) fun x28 h => aSAdd (AV.str [40] 1) x28 h fun x29 h => aSAdd x29 (AV.str [41] 1) h fun x30 h => some (AV.one .tup (AV.cons x30 (AV.cons (AV.bool true) (AV.leaf .nil))), h))) (hd vs) (hd (tl vs)) (hd (tl (tl vs))) (hd (tl (tl (tl vs)))) (hd (tl (tl (tl (tl vs)))))
noncomputable def c_impl_TreeOf (F g : Nat) (a0 : AV) (h : H) : Option R := aLenK 1 a0 h fun x1 h => loopD F (c_impl_TreeOf_l2 F g) [a0, (AV.int 3 (Int.ofNat 1)), a0, x1, (AV.int 3 (Int.ofNat 0))] h
noncomputable def A_impl_TreeOf : An := (.two .o (.two .o (.two (.two .o (.two (.at_ [0, 4, 9, 10, 11] (.two .o (.two (.two .o .o) (.two (.two (.two .o (.two .o (.two .o (.two (.at_ [0, 4, 9, 10, 11, 25, 27] .o .o) (.two (.two .o .o) .o))))) .o) .o))) .o) .o)) (.two .o .o))))
noncomputable def b_impl_TreeOf : Code := bodyOf Go.Proofs.Try.f27
theorem k_impl_TreeOf (F g : Nat) (a0 : AV) (h : H) : callD Go.Proofs.Try.prog (Env.add (Env.add (fun _ _ _ => none : Env) 29 (u1 (c_impl_TreeNodes F g))) 94 (u2 (c_strings_Join F g))) 34 F b_impl_TreeOf [2, 3] A_impl_TreeOf [a0] h = c_impl_TreeOf F g a0 h := by kernel_rfl
theorem s_impl_TreeOf (F g : Nat) : ∀ args h r, u1 (c_impl_TreeOf F g) args h = some r → Tri Go.Proofs.Try.prog 27 args h r := by
  intro args h r e; obtain ⟨a0, rfl, e1⟩ := u1_some e; exact fn_sound Go.Proofs.Try.func27 rfl rfl rfl Go.Proofs.Try.ntmps27 (Sound.add (Sound.add (Sound.none _) (s_impl_TreeNodes F g)) (s_strings_Join F g)) ((k_impl_TreeOf F g a0 h).trans e1)

-- "loop.example/treenumbers/laws.FnTops"
noncomputable def c_laws_FnTops_j1 (F g : Nat) (vs : List AV) (h : H) : Option R := (fun x30 x31 => aPick x30 x31 (AV.bool false) h fun x32 h => some (x32, h)) (hd vs) (hd (tl vs))
noncomputable def c_laws_FnTops_j2 (F g : Nat) (vs : List AV) (h : H) : Option R := (fun x68 x69 => aPick x68 x69 (AV.bool false) h fun x70 h => some (x70, h)) (hd vs) (hd (tl vs))
noncomputable def c_laws_FnTops_j3 (F g : Nat) (vs : List AV) (h : H) : Option R := (fun x65 x66 x67 => guardB true x65 (aPick x66 (AV.bool true) x67 h fun x71 h => (c_laws_FnTops_j2 F g) [x65, x71] h) ((c_laws_FnTops_j2 F g) [x65, (AV.one .tup (AV.leaf .nil))] h)) (hd vs) (hd (tl vs)) (hd (tl (tl vs)))
noncomputable def c_laws_FnTops_j4 (F g : Nat) (vs : List AV) (h : H) : Option R := (fun x61 x62 x63 x64 => guardB false x62 (aPick x63 x64 (AV.bool false) h fun x72 h => (c_laws_FnTops_j3 F g) [x61, x62, x72] h) ((c_laws_FnTops_j3 F g) [x61, x62, (AV.one .tup (AV.leaf .nil))] h)) (hd vs) (hd (tl vs)) (hd (tl (tl vs))) (hd (tl (tl (tl vs))))
noncomputable def c_laws_FnTops_j5 (F g : Nat) (vs : List AV) (h : H) : Option R := (fun x56 x57 x58 x59 x60 => guardB true x60 (aArith iadd x56 (AV.int 3 (Int.ofNat 1)) h fun x73 h => aCmpI ieq x57 x73 h fun x74 h => (c_laws_FnTops_j4 F g) [x58, x59, x60, x74] h) ((c_laws_FnTops_j4 F g) [x58, x59, x60, (AV.one .tup (AV.leaf .nil))] h)) (hd vs) (hd (tl vs)) (hd (tl (tl vs))) (hd (tl (tl (tl vs)))) (hd (tl (tl (tl (tl vs)))))
noncomputable def c_laws_FnTops_j6 (F g : Nat) (vs : List AV) (h : H) : Option R := (fun x51 x52 x53 x54 x55 => guardB false x55 ((c_laws_FnTops_j5 F g) [x51, x52, x54, x55, x53] h) ((c_laws_FnTops_j5 F g) [x51, x52, x54, x55, (AV.one .tup (AV.leaf .nil))] h)) (hd vs) (hd (tl vs)) (hd (tl (tl vs))) (hd (tl (tl (tl vs)))) (hd (tl (tl (tl (tl vs)))))
noncomputable def c_laws_FnTops_j7 (F g : Nat) (vs : List AV) (h : H) : Option R := (fun x44 x45 x46 x47 x48 x49 => aPick x48 x49 (AV.bool false) h fun x50 h => guardB true x50 (aNot x45 h fun x75 h => (c_laws_FnTops_j6 F g) [x44, x46, x47, x50, x75] h) ((c_laws_FnTops_j6 F g) [x44, x46, x47, x50, (AV.one .tup (AV.leaf .nil))] h)) (hd vs) (hd (tl vs)) (hd (tl (tl vs))) (hd (tl (tl (tl vs)))) (hd (tl (tl (tl (tl vs))))) (hd (tl (tl (tl (tl (tl vs))))))
noncomputable def c_laws_FnTops_j8 (F g : Nat) (vs : List AV) (h : H) : Option R := (fun x20 x21 x22 x23 x24 x25 x26 => aPick x25 (AV.bool true) x26 h fun x27 h => withBool x27 fun t28 => bc t28 (aEq false 0 x22 x24 h fun x29 h => guardB true x29 (aCmpI ieq x21 x23 h fun x33 h => (c_laws_FnTops_j1 F g) [x29, x33] h) ((c_laws_FnTops_j1 F g) [x29, (AV.one .tup (AV.leaf .nil))] h)) (aBuildSlice 1 1 [(0, 1, x20)] h fun x34 h => bindR (c_impl_TreeOf F g x34 h) fun x35 h => aExtract x35 0 h fun x36 h => aExtract x35 1 h fun x37 h => bindR (c_impl_CutTops F g x36 h) fun x38 h => aExtract x38 0 h fun x39 h => aExtract x38 1 h fun x40 h => bindR (c_impl_TreeNodes F g x20 h) fun x41 h => aExtract x41 0 h fun x42 h => aExtract x41 1 h fun x43 h => guardB true x43 (aCmpI (fun a b => ile b a) x21 x42 h fun x76 h => (c_laws_FnTops_j7 F g) [x21, x37, x39, x40, x43, x76] h) ((c_laws_FnTops_j7 F g) [x21, x37, x39, x40, x43, (AV.one .tup (AV.leaf .nil))] h))) (hd vs) (hd (tl vs)) (hd (tl (tl vs))) (hd (tl (tl (tl vs)))) (hd (tl (tl (tl (tl vs))))) (hd (tl (tl (tl (tl (tl vs)))))) (hd (tl (tl (tl (tl (tl (tl vs)))))))
noncomputable def c_laws_FnTops_j9 (F g : Nat) (vs : List AV) (h : H) : Option R := (fun x12 x13 x14 x15 x16 x17 x18 => aPick x17 (AV.bool true) x18 h fun x19 h => guardB false x19 (aNot x14 h fun x77 h => (c_laws_FnTops_j8 F g) [x12, x13, x14, x15, x16, x19, x77] h) ((c_laws_FnTops_j8 F g) [x12, x13, x14, x15, x16, x19, (AV.one .tup (AV.leaf .nil))] h)) (hd vs) (hd (tl vs)) (hd (tl (tl vs))) (hd (tl (tl (tl vs)))) (hd (tl (tl (tl (tl vs))))) (hd (tl (tl (tl (tl (tl vs)))))) (hd (tl (tl (tl (tl (tl (tl vs)))))))
noncomputable def c_laws_FnTops_r10 (F g : Nat) (x4 : AV) (h : H) : Option R := bindR (c_impl_CutTops F g x4 h) fun x5 h => aExtract x5 0 h fun x6 h => aExtract x5 1 h fun x7 h => bindR (c_spec_CutTops F g x4 h) fun x8 h => aExtract x8 0 h fun x9 h => aExtract x8 1 h fun x10 h => aEq true 0 x7 x10 h fun x11 h => guardB false x11 (aCmpI (fun a b => bnot (ieq a b)) x6 x9 h fun x78 h => (c_laws_FnTops_j9 F g) [x4, x6, x7, x9, x10, x11, x78] h) ((c_laws_FnTops_j9 F g) [x4, x6, x7, x9, x10, x11, (AV.one .tup (AV.leaf .nil))] h)
noncomputable def c_laws_FnTops (F g : Nat) (a0 : AV) (h : H) : Option R := aLenK 1 a0 h fun x1 h => aCmpI (fun a b => ilt b a) x1 (AV.int 3 (Int.ofNat 1048576)) h fun x2 h => withBool x2 fun t3 => bc t3 (some ((AV.bool true), h)) (bindR (c_spec_DrawCutTops F g a0 h) fun x4 h => c_laws_FnTops_r10 F g x4 h)
noncomputable def A_laws_FnTops : An := (.two .o (.two (.two .o (.two (.two .o .o) .o)) (.two .o (.two .o (.two .o (.two (.two (.at_ [3, 4, 5, 6, 7, 32, 35] .o (.at_ [3, 4, 5, 6, 7, 37, 39] .o .o)) (.two (.two (.at_ [44, 47] .o .o) .o) .o)) (.two .o (.two .o (.two .o (.two (.at_ [4, 9, 10, 11, 66, 69] .o (.at_ [4, 10, 11, 71, 74] .o (.at_ [4, 10, 71, 74, 76] .o (.at_ [71, 74, 76, 80] .o (.at_ [71, 74, 81] .o (.at_ [71, 82] .o .o)))))) .o))))))))))
noncomputable def b_laws_FnTops : Code := bodyOf Go.Proofs.Try.f22
theorem k_laws_FnTops (F g : Nat) (a0 : AV) (h : H) : callD Go.Proofs.Try.prog (Env.add (Env.add (Env.add (Env.add (Env.add (fun _ _ _ => none : Env) 87 (u1 (c_spec_DrawCutTops F g))) 88 (u1 (c_impl_CutTops F g))) 89 (u1 (c_spec_CutTops F g))) 27 (u1 (c_impl_TreeOf F g))) 29 (u1 (c_impl_TreeNodes F g))) 84 F b_laws_FnTops [2] A_laws_FnTops [a0] h = c_laws_FnTops F g a0 h := by kernel_rfl
theorem s_laws_FnTops (F g : Nat) : ∀ args h r, u1 (c_laws_FnTops F g) args h = some r → Tri Go.Proofs.Try.prog 22 args h r := by
  intro args h r e; obtain ⟨a0, rfl, e1⟩ := u1_some e; exact fn_sound Go.Proofs.Try.func22 rfl rfl rfl Go.Proofs.Try.ntmps22 (Sound.add (Sound.add (Sound.add (Sound.add (Sound.add (Sound.none _) (s_spec_DrawCutTops F g)) (s_impl_CutTops F g)) (s_spec_CutTops F g)) (s_impl_TreeOf F g)) (s_impl_TreeNodes F g)) ((k_laws_FnTops F g a0 h).trans e1)

end
end Go.AI.T
