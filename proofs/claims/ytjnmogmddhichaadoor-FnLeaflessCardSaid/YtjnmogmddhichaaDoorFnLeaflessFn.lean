/- The functions that the law FnLeafless reaches, as the evaluator reads them. -/
import Derived.Test.YtjnmogmddhichaaDoorRaw
import Derived.Test.YtjnmogmddhichaaDoorRpl
import Derived.Test.YtjnmogmddhichaaDoorProg
import Derived.KernelRfl
namespace Go.AI
open Go Go.RowKit Go.AI
set_option linter.unusedVariables false
set_option linter.unusedSimpArgs false
set_option maxRecDepth 100000
noncomputable section
-- "loop.example/treenumbers/spec.DrawCutLeaf"
noncomputable def c_spec_DrawCutLeaf (F g : Nat) (a0 : AV) (h : H) : Option R := bindR (c_spec_l91Some F g a0 h) fun x1 h => some (x1, h)
noncomputable def A_spec_DrawCutLeaf : An := (.two .o (.two .o .o))
noncomputable def b_spec_DrawCutLeaf : Code := bodyOf Go.Proofs.Tryd.f18
theorem k_spec_DrawCutLeaf (F g : Nat) (a0 : AV) (h : H) : callD Go.Proofs.Tryd.prog (Env.add (fun _ _ _ => none : Env) 22 (u1 (c_spec_l91Some F g))) 5 F b_spec_DrawCutLeaf [2] A_spec_DrawCutLeaf [a0] h = c_spec_DrawCutLeaf F g a0 h := by kernel_rfl
theorem s_spec_DrawCutLeaf (F g : Nat) : ∀ args h r, u1 (c_spec_DrawCutLeaf F g) args h = some r → Tri Go.Proofs.Tryd.prog 18 args h r := by
  intro args h r e; obtain ⟨a0, rfl, e1⟩ := u1_some e; exact fn_sound Go.Proofs.Tryd.func18 rfl rfl rfl Go.Proofs.Tryd.ntmps18 (Sound.add (Sound.none _) (s_spec_l91Some F g)) ((k_spec_DrawCutLeaf F g a0 h).trans e1)

end
end Go.AI
namespace Go.AI.T
open Go Go.RowKit Go.AI
set_option linter.unusedVariables false
set_option linter.unusedSimpArgs false
set_option maxRecDepth 100000
noncomputable section
def c_spec_DrawCutLeaf (F g : Nat) (a0 : AV) (h : H) : Option R := quietC (Go.AI.c_spec_DrawCutLeaf 20000 20) a0 h
theorem s_spec_DrawCutLeaf (F g : Nat) : ∀ args h r, u1 (c_spec_DrawCutLeaf F g) args h = some r → Tri Go.Proofs.Tryd.prog id_spec_DrawCutLeaf args h r := quietC_sound (Go.AI.s_spec_DrawCutLeaf 20000 20)
theorem draw_FnLeafless (F g : Nat) {a0 : AV} {n : Nat} {L : List AV} {B : Blk} (ha : (a0 = .leaf .nils ∧ n = 0) ∨ a0 = .osl 1 0 n 1) (hB : 0 < n → B = .cells 2 L) (hb : ∀ i, i < n → ∃ v, L[i]? = some (.int 4 (.ofNat v)) ∧ v < 256) :
    ∃ l, (l.length ≤ 300 ∧ (isTree l = true → l.length ≤ 16)) ∧ c_spec_DrawCutLeaf F g a0 (hCode B) = some (.str l l.length, hCode B) := by
  obtain ⟨l, h', hl, e, hlo⟩ := some_ok (F := 20000) (g := 20) (h := hCode B) (by omega) ha (fun hn => ⟨2, hB hn⟩) hb (Nat.le_refl _) (Nat.le_refl _)
  refine ⟨l, hl, quietC_ok (h' := h') ?_ rfl hlo⟩
  show bindR (Go.AI.c_spec_l91Some 20000 20 a0 (hCode B)) _ = _
  rw [e]; rfl
end
end Go.AI.T
namespace Go.AI.T
open Go Go.RowKit Go.AI
set_option linter.unusedVariables false
set_option linter.unusedSimpArgs false
set_option maxRecDepth 100000
noncomputable section
-- "loop.example/treenumbers/impl.TreeIn"
noncomputable def c_impl_TreeIn (F g : Nat) (a0 : AV) (h : H) : Option R := bindR (c_impl_readTree F g a0 h) fun x1 h => aExtract x1 0 h fun x2 h => aExtract x1 1 h fun x3 h => some (x3, h)
noncomputable def A_impl_TreeIn : An := (.two .o (.two .o (.two .o .o)))
noncomputable def b_impl_TreeIn : Code := bodyOf Go.Proofs.Tryd.f28
theorem k_impl_TreeIn (F g : Nat) (a0 : AV) (h : H) : callD Go.Proofs.Tryd.prog (Env.add (fun _ _ _ => none : Env) 23 (u1 (c_impl_readTree F g))) 11 F b_impl_TreeIn [2] A_impl_TreeIn [a0] h = c_impl_TreeIn F g a0 h := by kernel_rfl
theorem s_impl_TreeIn (F g : Nat) : ∀ args h r, u1 (c_impl_TreeIn F g) args h = some r → Tri Go.Proofs.Tryd.prog 28 args h r := by
  intro args h r e; obtain ⟨a0, rfl, e1⟩ := u1_some e; exact fn_sound Go.Proofs.Tryd.func28 rfl rfl rfl Go.Proofs.Tryd.ntmps28 (Sound.add (Sound.none _) (s_impl_readTree F g)) ((k_impl_TreeIn F g a0 h).trans e1)

-- "loop.example/treenumbers/impl.CutLeaf"
noncomputable def c_impl_CutLeaf (F g : Nat) (a0 : AV) (h : H) : Option R := bindR (c_impl_TreeIn F g a0 h) fun x1 h => aNot x1 h fun x2 h => withBool x2 fun t3 => bc t3 (some (AV.one .tup (AV.cons (AV.str [] 0) (AV.cons (AV.bool false) (AV.leaf .nil))), h)) (bindR (c_strings_ReplaceAll F g a0 (AV.str [40, 41] 2) (AV.str [] 0) h) fun x4 h => bindR (c_impl_TreeIn F g x4 h) fun x5 h => some (AV.one .tup (AV.cons x4 (AV.cons x5 (AV.leaf .nil))), h))
noncomputable def A_impl_CutLeaf : An := (.two .o (.two (.two .o (.two (.two .o .o) .o)) (.two .o (.two .o .o))))
noncomputable def b_impl_CutLeaf : Code := bodyOf Go.Proofs.Tryd.f11
theorem k_impl_CutLeaf (F g : Nat) (a0 : AV) (h : H) : callD Go.Proofs.Tryd.prog (Env.add (Env.add (fun _ _ _ => none : Env) 28 (u1 (c_impl_TreeIn F g))) 29 (u3 (c_strings_ReplaceAll F g))) 13 F b_impl_CutLeaf [2, 3] A_impl_CutLeaf [a0] h = c_impl_CutLeaf F g a0 h := by kernel_rfl
theorem s_impl_CutLeaf (F g : Nat) : ∀ args h r, u1 (c_impl_CutLeaf F g) args h = some r → Tri Go.Proofs.Tryd.prog 11 args h r := by
  intro args h r e; obtain ⟨a0, rfl, e1⟩ := u1_some e; exact fn_sound Go.Proofs.Tryd.func11 rfl rfl rfl Go.Proofs.Tryd.ntmps11 (Sound.add (Sound.add (Sound.none _) (s_impl_TreeIn F g)) (s_strings_ReplaceAll F g)) ((k_impl_CutLeaf F g a0 h).trans e1)

-- "loop.example/treenumbers/spec.l1Done"
noncomputable def c_spec_l1Done (F g : Nat) (a0 : AV) (h : H) : Option R := bindR (c_spec_TreeIn F g a0 h) fun x1 h => aNot x1 h fun x2 h => withBool x2 fun t3 => bc t3 (some (AV.one .tup (AV.cons (AV.str [] 0) (AV.cons (AV.bool false) (AV.leaf .nil))), h)) (some (AV.one .tup (AV.cons a0 (AV.cons (AV.bool true) (AV.leaf .nil))), h))
noncomputable def A_spec_l1Done : An := (.two .o (.two (.two .o (.two (.two .o .o) .o)) (.two .o .o)))
noncomputable def b_spec_l1Done : Code := bodyOf Go.Proofs.Tryd.f42
theorem k_spec_l1Done (F g : Nat) (a0 : AV) (h : H) : callD Go.Proofs.Tryd.prog (Env.add (fun _ _ _ => none : Env) 26 (u1 (c_spec_TreeIn F g))) 8 F b_spec_l1Done [2, 3] A_spec_l1Done [a0] h = c_spec_l1Done F g a0 h := by kernel_rfl
theorem s_spec_l1Done (F g : Nat) : ∀ args h r, u1 (c_spec_l1Done F g) args h = some r → Tri Go.Proofs.Tryd.prog 42 args h r := by
  intro args h r e; obtain ⟨a0, rfl, e1⟩ := u1_some e; exact fn_sound Go.Proofs.Tryd.func42 rfl rfl rfl Go.Proofs.Tryd.ntmps42 (Sound.add (Sound.none _) (s_spec_TreeIn F g)) ((k_spec_l1Done F g a0 h).trans e1)

-- "loop.example/treenumbers/spec.CutLeaf"
noncomputable def c_spec_CutLeaf_j1 (F g : Nat) (kc4 : List AV → H → Option R) (vs : List AV) (h : H) : Option R := (fun x11 x12 x13 => aArith iadd x13 (AV.int 3 (Int.ofNat 1)) h fun x14 h => kc4 [x11, x12, x14] h) (hd vs) (hd (tl vs)) (hd (tl (tl vs)))
noncomputable def c_spec_CutLeaf_j2 (F g : Nat) (kc4 : List AV → H → Option R) (vs : List AV) (h : H) : Option R := (fun x24 x25 x26 x27 x28 => aPick x27 x28 (AV.bool false) h fun x29 h => withBool x29 fun t30 => bc t30 (aArith iadd x26 (AV.int 3 (Int.ofNat 1)) h fun x31 h => (c_spec_CutLeaf_j1 F g kc4) [x24, x25, x31] h) (aArith iadd x26 (AV.int 3 (Int.ofNat 1)) h fun x32 h => aSliceS x24 (some x26) (some x32) none h fun x33 h => aSAdd x25 x33 h fun x34 h => (c_spec_CutLeaf_j1 F g kc4) [x24, x34, x26] h)) (hd vs) (hd (tl vs)) (hd (tl (tl vs))) (hd (tl (tl (tl vs)))) (hd (tl (tl (tl (tl vs)))))
noncomputable def c_spec_CutLeaf_j3 (F g : Nat) (kc4 : List AV → H → Option R) (vs : List AV) (h : H) : Option R := (fun x18 x19 x20 x21 x22 => aPick x21 x22 (AV.bool false) h fun x23 h => guardB true x23 (aArith iadd x20 (AV.int 3 (Int.ofNat 1)) h fun x35 h => aIdxStr x18 x35 h fun x36 h => aCmpI ieq x36 (AV.int 4 (Int.ofNat 41)) h fun x37 h => (c_spec_CutLeaf_j2 F g kc4) [x18, x19, x20, x23, x37] h) ((c_spec_CutLeaf_j2 F g kc4) [x18, x19, x20, x23, (AV.one .tup (AV.leaf .nil))] h)) (hd vs) (hd (tl vs)) (hd (tl (tl vs))) (hd (tl (tl (tl vs)))) (hd (tl (tl (tl (tl vs)))))
noncomputable def c_spec_CutLeaf_l4 (F g : Nat) : List AV → H → (List AV → H → Option R) → Option R := fun vs h kc4 => (fun x5 x6 x7 => aLenK 0 x5 h fun x8 h => aCmpI ilt x7 x8 h fun x9 h => withBool x9 fun t10 => bc t10 (aArith iadd x7 (AV.int 3 (Int.ofNat 1)) h fun x15 h => aLenK 0 x5 h fun x16 h => aCmpI ilt x15 x16 h fun x17 h => guardB true x17 (aIdxStr x5 x7 h fun x38 h => aCmpI ieq x38 (AV.int 4 (Int.ofNat 40)) h fun x39 h => (c_spec_CutLeaf_j3 F g kc4) [x5, x6, x7, x17, x39] h) ((c_spec_CutLeaf_j3 F g kc4) [x5, x6, x7, x17, (AV.one .tup (AV.leaf .nil))] h)) (bindR (c_spec_l1Done F g x6 h) fun x40 h => aExtract x40 0 h fun x41 h => aExtract x40 1 h fun x42 h => some (AV.one .tup (AV.cons x41 (AV.cons x42 (AV.leaf .nil))), h))) (hd vs) (hd (tl vs)) (hd (tl (tl vs)))
noncomputable def c_spec_CutLeaf (F g : Nat) (a0 : AV) (h : H) : Option R := bindR (c_spec_TreeIn F g a0 h) fun x1 h => aNot x1 h fun x2 h => withBool x2 fun t3 => bc t3 (some (AV.one .tup (AV.cons (AV.str [] 0) (AV.cons (AV.bool false) (AV.leaf .nil))), h)) (loopD F (c_spec_CutLeaf_l4 F g) [a0, (AV.str [] 0), (AV.int 3 (Int.ofNat 0))] h)
noncomputable def A_spec_CutLeaf : An := (.two .o (.two (.two .o (.two (.two .o .o) .o)) (.two .o (.two (.two .o (.two (.at_ [0, 4, 5] (.two (.two .o (.two .o .o)) (.at_ [0, 4, 5] (.two (.two (.at_ [0, 4, 5, 20, 24] .o (.at_ [0, 4, 5, 26, 31] .o .o)) (.two .o .o)) .o) .o)) .o) .o)) (.two .o .o)))))
noncomputable def b_spec_CutLeaf : Code := bodyOf Go.Proofs.Tryd.f19
theorem k_spec_CutLeaf (F g : Nat) (a0 : AV) (h : H) : callD Go.Proofs.Tryd.prog (Env.add (Env.add (fun _ _ _ => none : Env) 26 (u1 (c_spec_TreeIn F g))) 42 (u1 (c_spec_l1Done F g))) 46 F b_spec_CutLeaf [2, 3] A_spec_CutLeaf [a0] h = c_spec_CutLeaf F g a0 h := by kernel_rfl
theorem s_spec_CutLeaf (F g : Nat) : ∀ args h r, u1 (c_spec_CutLeaf F g) args h = some r → Tri Go.Proofs.Tryd.prog 19 args h r := by
  intro args h r e; obtain ⟨a0, rfl, e1⟩ := u1_some e; exact fn_sound Go.Proofs.Tryd.func19 rfl rfl rfl Go.Proofs.Tryd.ntmps19 (Sound.add (Sound.add (Sound.none _) (s_spec_TreeIn F g)) (s_spec_l1Done F g)) ((k_spec_CutLeaf F g a0 h).trans e1)

-- "(*loop.example/treenumbers/impl.node).height"
noncomputable def c_impl_node_height_l1 (F g : Nat) (self : AV → H → Option R) : List AV → H → (List AV → H → Option R) → Option R := fun vs h kc5 => (fun x6 x7 x8 x9 => aCmpI ilt x9 x8 h fun x10 h => withBool x10 fun t11 => bc t11 (aIdxAddr 1 x7 x9 h fun x12 h => aLoad x12 h fun x13 h => bindR (self x13 h) fun x14 h => aArith iadd x14 (AV.int 3 (Int.ofNat 1)) h fun x15 h => aMM true x6 x15 h fun x16 h => aArith iadd x9 (AV.int 3 (Int.ofNat 1)) h fun x17 h => kc5 [x16, x7, x8, x17] h) (some (x6, h))) (hd vs) (hd (tl vs)) (hd (tl (tl vs))) (hd (tl (tl (tl vs))))
noncomputable def c_impl_node_height (F g : Nat) : AV → H → Option R := Nat.rec (motive := fun _ => AV → H → Option R) (fun _ _ => none) (fun g self a0 h => aNilCheck a0 h fun x1 h => aField 2 x1 h fun x2 h => aLoad x2 h fun x3 h => aLenK 1 x3 h fun x4 h => loopD F (c_impl_node_height_l1 F g self) [(AV.int 3 (Int.ofNat 0)), x3, x4, (AV.int 3 (Int.ofNat 0))] h) g
noncomputable def A_impl_node_height : An := (.two .o (.two .o (.two (.two .o (.two (.at_ [3, 9, 10, 11] (.two .o (.two (.two .o .o) (.two (.two (.two .o .o) .o) .o))) .o) .o)) (.two .o .o))))
noncomputable def b_impl_node_height : Code := bodyOf Go.Proofs.Tryd.f46
theorem k_impl_node_height (F g : Nat) (a0 : AV) (h : H) : callD Go.Proofs.Tryd.prog (Env.add (fun _ _ _ => none : Env) 46 (u1 (c_impl_node_height F g))) 22 F b_impl_node_height [2] A_impl_node_height [a0] h = c_impl_node_height F (g + 1) a0 h := by kernel_rfl
theorem s_impl_node_height (F g : Nat) : ∀ args h r, u1 (c_impl_node_height F g) args h = some r → Tri Go.Proofs.Tryd.prog 46 args h r := by
  induction g with
  | zero => intro args h r e; obtain ⟨a0, rfl, e⟩ := u1_some e; cases e
  | succ g ih => intro args h r e; obtain ⟨a0, rfl, e1⟩ := u1_some e; exact fn_sound Go.Proofs.Tryd.func46 rfl rfl rfl Go.Proofs.Tryd.ntmps46 (Sound.add (Sound.none _) ih) ((k_impl_node_height F g a0 h).trans e1)

-- "loop.example/treenumbers/impl.TreeHeight"
noncomputable def c_impl_TreeHeight (F g : Nat) (a0 : AV) (h : H) : Option R := bindR (c_impl_readTree F g a0 h) fun x1 h => aExtract x1 0 h fun x2 h => aExtract x1 1 h fun x3 h => aNot x3 h fun x4 h => withBool x4 fun t5 => bc t5 (some (AV.one .tup (AV.cons (AV.int 3 (Int.ofNat 0)) (AV.cons (AV.bool false) (AV.leaf .nil))), h)) (bindR (c_impl_node_height F g x2 h) fun x6 h => some (AV.one .tup (AV.cons x6 (AV.cons (AV.bool true) (AV.leaf .nil))), h))
noncomputable def A_impl_TreeHeight : An := (.two .o (.two .o (.two (.two .o (.two (.two .o .o) .o)) (.two .o .o))))
noncomputable def b_impl_TreeHeight : Code := bodyOf Go.Proofs.Tryd.f20
theorem k_impl_TreeHeight (F g : Nat) (a0 : AV) (h : H) : callD Go.Proofs.Tryd.prog (Env.add (Env.add (fun _ _ _ => none : Env) 23 (u1 (c_impl_readTree F g))) 46 (u1 (c_impl_node_height F g))) 15 F b_impl_TreeHeight [2, 3] A_impl_TreeHeight [a0] h = c_impl_TreeHeight F g a0 h := by kernel_rfl
theorem s_impl_TreeHeight (F g : Nat) : ∀ args h r, u1 (c_impl_TreeHeight F g) args h = some r → Tri Go.Proofs.Tryd.prog 20 args h r := by
  intro args h r e; obtain ⟨a0, rfl, e1⟩ := u1_some e; exact fn_sound Go.Proofs.Tryd.func20 rfl rfl rfl Go.Proofs.Tryd.ntmps20 (Sound.add (Sound.add (Sound.none _) (s_impl_readTree F g)) (s_impl_node_height F g)) ((k_impl_TreeHeight F g a0 h).trans e1)

-- "(*loop.example/treenumbers/impl.node).nodes"
noncomputable def c_impl_node_nodes_l1 (F g : Nat) (self : AV → H → Option R) : List AV → H → (List AV → H → Option R) → Option R := fun vs h kc6 => (fun x7 x8 x9 x10 => aCmpI ilt x10 x9 h fun x11 h => withBool x11 fun t12 => bc t12 (aIdxAddr 1 x8 x10 h fun x13 h => aLoad x13 h fun x14 h => bindR (self x14 h) fun x15 h => aAppend 1 8 x7 x15 h fun x16 h => aArith iadd x10 (AV.int 3 (Int.ofNat 1)) h fun x17 h => kc6 [x16, x8, x9, x17] h) (some (x7, h))) (hd vs) (hd (tl vs)) (hd (tl (tl vs))) (hd (tl (tl (tl vs))))
noncomputable def c_impl_node_nodes (F g : Nat) : AV → H → Option R := Nat.rec (motive := fun _ => AV → H → Option R) (fun _ _ => none) (fun g self a0 h => aBuildSlice 1 1 [(0, 1, a0)] h fun x1 h => aNilCheck a0 h fun x2 h => aField 2 x2 h fun x3 h => aLoad x3 h fun x4 h => aLenK 1 x4 h fun x5 h => loopD F (c_impl_node_nodes_l1 F g self) [x1, x4, x5, (AV.int 3 (Int.ofNat 0))] h) g
noncomputable def A_impl_node_nodes : An := (.two .o (.two .o (.two (.two .o (.two (.at_ [3, 11, 12, 13] (.two .o (.two (.two .o .o) (.two (.two (.two .o .o) .o) .o))) .o) .o)) (.two .o .o))))
noncomputable def b_impl_node_nodes : Code := bodyOf Go.Proofs.Tryd.f43
theorem k_impl_node_nodes (F g : Nat) (a0 : AV) (h : H) : callD Go.Proofs.Tryd.prog (Env.add (fun _ _ _ => none : Env) 43 (u1 (c_impl_node_nodes F g))) 23 F b_impl_node_nodes [2] A_impl_node_nodes [a0] h = c_impl_node_nodes F (g + 1) a0 h := by kernel_rfl
theorem s_impl_node_nodes (F g : Nat) : ∀ args h r, u1 (c_impl_node_nodes F g) args h = some r → Tri Go.Proofs.Tryd.prog 43 args h r := by
  induction g with
  | zero => intro args h r e; obtain ⟨a0, rfl, e⟩ := u1_some e; cases e
  | succ g ih => intro args h r e; obtain ⟨a0, rfl, e1⟩ := u1_some e; exact fn_sound Go.Proofs.Tryd.func43 rfl rfl rfl Go.Proofs.Tryd.ntmps43 (Sound.add (Sound.none _) ih) ((k_impl_node_nodes F g a0 h).trans e1)

-- "loop.example/treenumbers/impl.TreeLeaves"
noncomputable def c_impl_TreeLeaves_j1 (F g : Nat) (kc8 : List AV → H → Option R) (vs : List AV) (h : H) : Option R := (fun x15 x16 x17 x18 => aArith iadd x18 (AV.int 3 (Int.ofNat 1)) h fun x19 h => kc8 [x15, x16, x17, x19] h) (hd vs) (hd (tl vs)) (hd (tl (tl vs))) (hd (tl (tl (tl vs))))
noncomputable def c_impl_TreeLeaves_l2 (F g : Nat) : List AV → H → (List AV → H → Option R) → Option R := fun vs h kc8 => (fun x9 x10 x11 x12 => aCmpI ilt x12 x11 h fun x13 h => withBool x13 fun t14 => bc t14 (aIdxAddr 1 x10 x12 h fun x20 h => aLoad x20 h fun x21 h => aNilCheck x21 h fun x22 h => aField 2 x22 h fun x23 h => aLoad x23 h fun x24 h => aLenK 1 x24 h fun x25 h => aCmpI ieq x25 (AV.int 3 (Int.ofNat 0)) h fun x26 h => withBool x26 fun t27 => bc t27 (aArith iadd x9 (AV.int 3 (Int.ofNat 1)) h fun x28 h => (c_impl_TreeLeaves_j1 F g kc8) [x28, x10, x11, x12] h) ((c_impl_TreeLeaves_j1 F g kc8) [x9, x10, x11, x12] h)) (some (AV.one .tup (AV.cons x9 (AV.cons (AV.bool true) (AV.leaf .nil))), h))) (hd vs) (hd (tl vs)) (hd (tl (tl vs))) (hd (tl (tl (tl vs))))
noncomputable def c_impl_TreeLeaves (F g : Nat) (a0 : AV) (h : H) : Option R := bindR (c_impl_readTree F g a0 h) fun x1 h => aExtract x1 0 h fun x2 h => aExtract x1 1 h fun x3 h => aNot x3 h fun x4 h => withBool x4 fun t5 => bc t5 (some (AV.one .tup (AV.cons (AV.int 3 (Int.ofNat 0)) (AV.cons (AV.bool false) (AV.leaf .nil))), h)) (bindR (c_impl_node_nodes F g x2 h) fun x6 h => aLenK 1 x6 h fun x7 h => loopD F (c_impl_TreeLeaves_l2 F g) [(AV.int 3 (Int.ofNat 0)), x6, x7, (AV.int 3 (Int.ofNat 0))] h)
noncomputable def A_impl_TreeLeaves : An := (.two .o (.two .o (.two (.two .o (.two (.two .o .o) .o)) (.two .o (.two (.two .o (.two (.at_ [6, 17, 18, 19] (.two .o (.two (.two .o .o) (.at_ [6, 17, 18, 19] (.two (.two .o (.two .o (.two .o .o))) .o) .o))) .o) .o)) (.two .o .o))))))
noncomputable def b_impl_TreeLeaves : Code := bodyOf Go.Proofs.Tryd.f21
theorem k_impl_TreeLeaves (F g : Nat) (a0 : AV) (h : H) : callD Go.Proofs.Tryd.prog (Env.add (Env.add (fun _ _ _ => none : Env) 23 (u1 (c_impl_readTree F g))) 43 (u1 (c_impl_node_nodes F g))) 33 F b_impl_TreeLeaves [2, 3] A_impl_TreeLeaves [a0] h = c_impl_TreeLeaves F g a0 h := by kernel_rfl
theorem s_impl_TreeLeaves (F g : Nat) : ∀ args h r, u1 (c_impl_TreeLeaves F g) args h = some r → Tri Go.Proofs.Tryd.prog 21 args h r := by
  intro args h r e; obtain ⟨a0, rfl, e1⟩ := u1_some e; exact fn_sound Go.Proofs.Tryd.func21 rfl rfl rfl Go.Proofs.Tryd.ntmps21 (Sound.add (Sound.add (Sound.none _) (s_impl_readTree F g)) (s_impl_node_nodes F g)) ((k_impl_TreeLeaves F g a0 h).trans e1)

-- "loop.example/treenumbers/laws.FnLeafless"
noncomputable def c_laws_FnLeafless_j1 (F g : Nat) (vs : List AV) (h : H) : Option R := (fun x30 x31 => aPick x30 x31 (AV.bool false) h fun x32 h => some (x32, h)) (hd vs) (hd (tl vs))
noncomputable def c_laws_FnLeafless_j2 (F g : Nat) (vs : List AV) (h : H) : Option R := (fun x66 x67 => aPick x66 x67 (AV.bool false) h fun x68 h => some (x68, h)) (hd vs) (hd (tl vs))
noncomputable def c_laws_FnLeafless_j3 (F g : Nat) (vs : List AV) (h : H) : Option R := (fun x60 x61 x62 x63 x64 => aPick x63 x64 (AV.bool false) h fun x65 h => guardB true x65 (aLenK 0 x61 h fun x69 h => aArith imul (AV.int 3 (Int.ofNat 2)) x62 h fun x70 h => aArith iadd x69 x70 h fun x71 h => aLenK 0 x60 h fun x72 h => aCmpI ieq x71 x72 h fun x73 h => (c_laws_FnLeafless_j2 F g) [x65, x73] h) ((c_laws_FnLeafless_j2 F g) [x65, (AV.one .tup (AV.leaf .nil))] h)) (hd vs) (hd (tl vs)) (hd (tl (tl vs))) (hd (tl (tl (tl vs)))) (hd (tl (tl (tl (tl vs)))))
noncomputable def c_laws_FnLeafless_j4 (F g : Nat) (vs : List AV) (h : H) : Option R := (fun x52 x53 x54 x55 x56 x57 x58 => aPick x57 x58 (AV.bool false) h fun x59 h => guardB true x59 (aArith isub x54 (AV.int 3 (Int.ofNat 1)) h fun x74 h => aCmpI ieq x55 x74 h fun x75 h => (c_laws_FnLeafless_j3 F g) [x52, x53, x56, x59, x75] h) ((c_laws_FnLeafless_j3 F g) [x52, x53, x56, x59, (AV.one .tup (AV.leaf .nil))] h)) (hd vs) (hd (tl vs)) (hd (tl (tl vs))) (hd (tl (tl (tl vs)))) (hd (tl (tl (tl (tl vs))))) (hd (tl (tl (tl (tl (tl vs)))))) (hd (tl (tl (tl (tl (tl (tl vs)))))))
noncomputable def c_laws_FnLeafless_j5 (F g : Nat) (vs : List AV) (h : H) : Option R := (fun x43 x44 x45 x46 x47 x48 x49 x50 => aPick x49 x50 (AV.bool false) h fun x51 h => guardB true x51 ((c_laws_FnLeafless_j4 F g) [x43, x44, x45, x46, x47, x51, x48] h) ((c_laws_FnLeafless_j4 F g) [x43, x44, x45, x46, x47, x51, (AV.one .tup (AV.leaf .nil))] h)) (hd vs) (hd (tl vs)) (hd (tl (tl vs))) (hd (tl (tl (tl vs)))) (hd (tl (tl (tl (tl vs))))) (hd (tl (tl (tl (tl (tl vs)))))) (hd (tl (tl (tl (tl (tl (tl vs))))))) (hd (tl (tl (tl (tl (tl (tl (tl vs))))))))
noncomputable def c_laws_FnLeafless_j6 (F g : Nat) (vs : List AV) (h : H) : Option R := (fun x20 x21 x22 x23 x24 x25 x26 => aPick x25 (AV.bool true) x26 h fun x27 h => withBool x27 fun t28 => bc t28 (aEq false 0 x22 x24 h fun x29 h => guardB true x29 (aCmpS eqL x21 x23 h fun x33 h => (c_laws_FnLeafless_j1 F g) [x29, x33] h) ((c_laws_FnLeafless_j1 F g) [x29, (AV.one .tup (AV.leaf .nil))] h)) (bindR (c_impl_TreeHeight F g x20 h) fun x34 h => aExtract x34 0 h fun x35 h => aExtract x34 1 h fun x36 h => bindR (c_impl_TreeHeight F g x21 h) fun x37 h => aExtract x37 0 h fun x38 h => aExtract x37 1 h fun x39 h => bindR (c_impl_TreeLeaves F g x20 h) fun x40 h => aExtract x40 0 h fun x41 h => aExtract x40 1 h fun x42 h => guardB true x36 ((c_laws_FnLeafless_j5 F g) [x20, x21, x35, x38, x41, x42, x36, x39] h) ((c_laws_FnLeafless_j5 F g) [x20, x21, x35, x38, x41, x42, x36, (AV.one .tup (AV.leaf .nil))] h))) (hd vs) (hd (tl vs)) (hd (tl (tl vs))) (hd (tl (tl (tl vs)))) (hd (tl (tl (tl (tl vs))))) (hd (tl (tl (tl (tl (tl vs)))))) (hd (tl (tl (tl (tl (tl (tl vs)))))))
noncomputable def c_laws_FnLeafless_j7 (F g : Nat) (vs : List AV) (h : H) : Option R := (fun x12 x13 x14 x15 x16 x17 x18 => aPick x17 (AV.bool true) x18 h fun x19 h => guardB false x19 (aNot x14 h fun x76 h => (c_laws_FnLeafless_j6 F g) [x12, x13, x14, x15, x16, x19, x76] h) ((c_laws_FnLeafless_j6 F g) [x12, x13, x14, x15, x16, x19, (AV.one .tup (AV.leaf .nil))] h)) (hd vs) (hd (tl vs)) (hd (tl (tl vs))) (hd (tl (tl (tl vs)))) (hd (tl (tl (tl (tl vs))))) (hd (tl (tl (tl (tl (tl vs)))))) (hd (tl (tl (tl (tl (tl (tl vs)))))))
noncomputable def c_laws_FnLeafless_r8 (F g : Nat) (x4 : AV) (h : H) : Option R := bindR (c_impl_CutLeaf F g x4 h) fun x5 h => aExtract x5 0 h fun x6 h => aExtract x5 1 h fun x7 h => bindR (c_spec_CutLeaf F g x4 h) fun x8 h => aExtract x8 0 h fun x9 h => aExtract x8 1 h fun x10 h => aEq true 0 x7 x10 h fun x11 h => guardB false x11 (aCmpS (fun a b => bnot (eqL a b)) x6 x9 h fun x77 h => (c_laws_FnLeafless_j7 F g) [x4, x6, x7, x9, x10, x11, x77] h) ((c_laws_FnLeafless_j7 F g) [x4, x6, x7, x9, x10, x11, (AV.one .tup (AV.leaf .nil))] h)
noncomputable def c_laws_FnLeafless (F g : Nat) (a0 : AV) (h : H) : Option R := aLenK 1 a0 h fun x1 h => aCmpI (fun a b => ilt b a) x1 (AV.int 3 (Int.ofNat 1048576)) h fun x2 h => withBool x2 fun t3 => bc t3 (some ((AV.bool true), h)) (bindR (c_spec_DrawCutLeaf F g a0 h) fun x4 h => c_laws_FnLeafless_r8 F g x4 h)
noncomputable def A_laws_FnLeafless : An := (.two .o (.two (.two .o (.two (.two .o .o) .o)) (.two .o (.two .o (.two .o (.two (.two (.at_ [3, 4, 5, 6, 7, 32, 35] .o (.at_ [3, 4, 5, 6, 7, 37, 39] .o .o)) (.two (.two (.at_ [44, 47] .o .o) .o) .o)) (.two .o (.two .o (.two .o (.two (.at_ [3, 4, 8, 10, 12, 13, 65, 66] .o (.at_ [3, 4, 8, 10, 12, 68, 69] .o (.at_ [3, 4, 12, 71, 75] .o (.at_ [77, 85] .o .o)))) .o))))))))))
noncomputable def b_laws_FnLeafless : Code := bodyOf Go.Proofs.Tryd.f5
theorem k_laws_FnLeafless (F g : Nat) (a0 : AV) (h : H) : callD Go.Proofs.Tryd.prog (Env.add (Env.add (Env.add (Env.add (Env.add (fun _ _ _ => none : Env) 18 (u1 (c_spec_DrawCutLeaf F g))) 11 (u1 (c_impl_CutLeaf F g))) 19 (u1 (c_spec_CutLeaf F g))) 20 (u1 (c_impl_TreeHeight F g))) 21 (u1 (c_impl_TreeLeaves F g))) 87 F b_laws_FnLeafless [2] A_laws_FnLeafless [a0] h = c_laws_FnLeafless F g a0 h := by kernel_rfl
theorem s_laws_FnLeafless (F g : Nat) : ∀ args h r, u1 (c_laws_FnLeafless F g) args h = some r → Tri Go.Proofs.Tryd.prog 5 args h r := by
  intro args h r e; obtain ⟨a0, rfl, e1⟩ := u1_some e; exact fn_sound Go.Proofs.Tryd.func5 rfl rfl rfl Go.Proofs.Tryd.ntmps5 (Sound.add (Sound.add (Sound.add (Sound.add (Sound.add (Sound.none _) (s_spec_DrawCutLeaf F g)) (s_impl_CutLeaf F g)) (s_spec_CutLeaf F g)) (s_impl_TreeHeight F g)) (s_impl_TreeLeaves F g)) ((k_laws_FnLeafless F g a0 h).trans e1)

end
end Go.AI.T
