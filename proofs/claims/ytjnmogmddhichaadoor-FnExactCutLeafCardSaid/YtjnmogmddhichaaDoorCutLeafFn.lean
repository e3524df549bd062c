/- The functions that the law FnExactCutLeaf reaches, as the evaluator reads them. -/
import Derived.KernelRfl
import Derived.Test.YtjnmogmddhichaaDoorRaw
import Derived.Test.YtjnmogmddhichaaDoorRpl
import Derived.Test.YtjnmogmddhichaaDoorProg
namespace Go.AI.T
open Go Go.RowKit Go.AI
set_option linter.unusedVariables false
set_option linter.unusedSimpArgs false
set_option maxRecDepth 100000
noncomputable section
-- "loop.example/treenumbers/spec.l1Done"
noncomputable def c_spec_l1Done (F g : Nat) (a0 : AV) (h : H) : Option R := bindR (c_spec_TreeIn F g a0 h) fun x1 h => aNot x1 h fun x2 h => withBool x2 fun t3 => bc t3 (some (AV.one .tup (AV.cons (AV.str [] 0) (AV.cons (AV.bool false) (AV.leaf .nil))), h)) (some (AV.one .tup (AV.cons a0 (AV.cons (AV.bool true) (AV.leaf .nil))), h))
noncomputable def A_spec_l1Done : An := (.two .o (.two (.two .o (.two (.two .o .o) .o)) (.two .o .o)))
noncomputable def b_spec_l1Done : Code := bodyOf Go.Proofs.Tryd.f42
theorem k_spec_l1Done (F g : Nat) (a0 : AV) (h : H) : callD Go.Proofs.Tryd.prog (Env.add (fun _ _ _ => none : Env) 26 (u1 (c_spec_TreeIn F g))) 8 F b_spec_l1Done [2, 3] A_spec_l1Done [a0] h = c_spec_l1Done F g a0 h := by kernel_rfl
theorem s_spec_l1Done (F g : Nat) : ∀ args h r, u1 (c_spec_l1Done F g) args h = some r → Tri Go.Proofs.Tryd.prog 42 args h r := by
  intro args h r e; obtain ⟨a0, rfl, e1⟩ := u1_some e; exact fn_sound Go.Proofs.Tryd.func42 rfl rfl rfl Go.Proofs.Tryd.ntmps42 (Sound.add (Sound.none _) (s_spec_TreeIn F g)) ((k_spec_l1Done F g a0 h).trans e1)

-- "loop.example/treenumbers/spec.CutLeaf"
noncomputable def c_spec_CutLeaf_j1 (F g : Nat) (kc4 : List AV → H → Option R) (vs : List AV) (h : H) : Option R := (fun x11 x12 x13 => aArith iadd x13 (AV.int 3 (Int.ofNat 1)) h fun x14 h => kc4 [x11, x12, x14] h) (hd vs) (hd (tl vs)) (hd (tl (tl vs)))
noncomputable def c_spec_CutLeaf_j2 (F g : Nat) (kc4 : List AV → H → Option R) (vs : List AV) (h : H) : Option R := (fun x24 x25 x26 x27 x28 => aPick x27 x28 (AV.bool false) h fun x29 h => withBool x29 fun t30 => bc t30 (aArith iadd x26 (AV.int 3 (Int.ofNat 1)) h fun x31 h => (c_spec_CutLeaf_j1 F g kc4) [x24, x25, x31] h) (aArith iadd x26 (AV.int 3 (Int.ofNat 1)) h fun x32 h => aSliceS x24 (some x26) (some x32) none h fun x33 h => aSAdd x25 x33 h fun x34 h => (c_spec_CutLeaf_j1 F g kc4) [x24, x34, x26] h)) (hd vs) (hd (tl vs)) (hd (tl (tl vs))) (hd (tl (tl (tl vs)))) (hd (tl (tl (tl (tl vs)))))
noncomputable def c_spec_CutLeaf_j3 (F g : Nat) (kc4 : List AV → H → Option R) (vs : List AV) (h : H) : Option R := (fun x18 x19 x20 x21 x22 => aPick x21 x22 (AV.bool false) h fun x23 h => guardB true x23 (aArith iadd x20 (AV.int 3 (Int.ofNat 1)) h fun x35 h => aIdxStr x18 x35 h fun x36 h => aCmpI ieq x36 (AV.int 4 (Int.ofNat 41)) h fun x37 h => (c_spec_CutLeaf_j2 F g kc4) [x18, x19, x20, x23, x37] h) ((c_spec_CutLeaf_j2 F g kc4) [x18, x19, x20, x23, (AV.one .tup (AV.leaf .nil))] h)) (hd vs) (hd (tl vs)) (hd (tl (tl vs))) (hd (tl (tl (tl vs)))) (hd (tl (tl (tl (tl vs)))))
noncomputable def c_spec_CutLeaf_l4 (F g : Nat) : List AV → H → (List AV → H → Option R) → Option R := fun vs h kc4 => (fun x5 x6 x7 => aLenK 0 x5 h fun x8 h => aCmpI ilt x7 x8 h fun x9 h => withBool x9 fun t10 => bc t10 (aArith iadd x7 (AV.int 3 (Int.ofNat 1)) h fun x15 h => aLenK 0 x5 h fun x16 h => aCmpI ilt x15 x16 h fun x17 h => guardB true x17 (aIdxStr x5 x7 h fun x38 h => aCmpI ieq x38 (AV.int 4 (Int.ofNat 40)) h fun x39 h => (c_spec_CutLeaf_j3 F g kc4) [x5, x6, x7, x17, x39] h) ((c_spec_CutLeaf_j3 F g kc4) [x5, x6, x7, x17, (AV.one .tup (AV.leaf .nil))] h)) (bindR (c_spec_l1Done F g x6 h) fun x40 h => aExtract x40 0 h fun x41 h => aExtract x40 1 h fun x42 h => some (AV.one .tup (AV.cons x41 (AV.cons x42 (AV.leaf .nil))), h))) (hd vs) (hd (tl vs)) (hd (tl (tl vs)))
noncomputable def c_spec_CutLeaf (F g : Nat) (a0 : AV) (h : H) : Option R := bindR (c_spec_TreeIn F g a0 h) fun x1 h => aNot x1 h fun x2 h => withBool x2 fun t3 => bc t3 (some (AV.one .tup (AV.cons (AV.str [] 0) (AV.cons (AV.bool false) (AV.leaf .nil))), h)) (loopD F (c_spec_CutLeaf_l4 F g) [a0, (AV.str [] 0), (AV.int 3 (Int.ofNat 0))] h)
noncomputable def A_spec_CutLeaf : An := (.two .o (.two (.two .o (.two (.two .o .o) .o)) (.two .o (.two (.two .o (.two (.at_ [0, 4, 5] (.two (.two .o (.two .o .o)) (.at_ [0, 4, 5] (.two (.two (.at_ [0, 4, 5, 20, 24] .o (.at_ [0, 4, 5, 26, 31] .o .o)) (.two .o .o)) .o) .o)) .o) .o)) (.two .o .o)))))
noncomputable def b_spec_CutLeaf : Code := bodyOf Go.Proofs.Tryd.f19
theorem k_spec_CutLeaf (F g : Nat) (a0 : AV) (h : H) : callD Go.Proofs.Tryd.prog (Env.add (Env.add (fun _ _ _ => none : Env) 26 (u1 (c_spec_TreeIn F g))) 42 (u1 (c_spec_l1Done F g))) 46 F b_spec_CutLeaf [2, 3] A_spec_CutLeaf [a0] h = c_spec_CutLeaf F g a0 h := by kernel_rfl
theorem s_spec_CutLeaf (F g : Nat) : ∀ args h r, u1 (c_spec_CutLeaf F g) args h = some r → Tri Go.Proofs.Tryd.prog 19 args h r := by
  intro args h r e; obtain ⟨a0, rfl, e1⟩ := u1_some e; exact fn_sound Go.Proofs.Tryd.func19 rfl rfl rfl Go.Proofs.Tryd.ntmps19 (Sound.add (Sound.add (Sound.none _) (s_spec_TreeIn F g)) (s_spec_l1Done F g)) ((k_spec_CutLeaf F g a0 h).trans e1)

-- "loop.example/treenumbers/impl.TreeIn"
noncomputable def c_impl_TreeIn (F g : Nat) (a0 : AV) (h : H) : Option R := bindR (c_impl_readTree F g a0 h) fun x1 h => aExtract x1 0 h fun x2 h => aExtract x1 1 h fun x3 h => some (x3, h)
noncomputable def A_impl_TreeIn : An := (.two .o (.two .o (.two .o .o)))
noncomputable def b_impl_TreeIn : Code := bodyOf Go.Proofs.Tryd.f28
theorem k_impl_TreeIn (F g : Nat) (a0 : AV) (h : H) : callD Go.Proofs.Tryd.prog (Env.add (fun _ _ _ => none : Env) 23 (u1 (c_impl_readTree F g))) 11 F b_impl_TreeIn [2] A_impl_TreeIn [a0] h = c_impl_TreeIn F g a0 h := by kernel_rfl
theorem s_impl_TreeIn (F g : Nat) : ∀ args h r, u1 (c_impl_TreeIn F g) args h = some r → Tri Go.Proofs.Tryd.prog 28 args h r := by
  intro args h r e; obtain ⟨a0, rfl, e1⟩ := u1_some e; exact fn_sound Go.Proofs.Tryd.func28 rfl rfl rfl Go.Proofs.Tryd.ntmps28 (Sound.add (Sound.none _) (s_impl_readTree F g)) ((k_impl_TreeIn F g a0 h).trans e1)

-- "loop.example/treenumbers/impl.CutLeaf"
noncomputable def c_impl_CutLeaf (F g : Nat) (a0 : AV) (h : H) : Option R := bindR (c_impl_TreeIn F g a0 h) fun x1 h => aNot x1 h fun x2 h => withBool x2 fun t3 => bc t3 (some (AV.one .tup (AV.cons (AV.str [] 0) (AV.cons (AV.bool false) (AV.leaf .nil))), h)) (bindR (c_strings_ReplaceAll F g a0 (AV.str [40, 41] 2) (AV.str [] 0) h) fun x4 h => bindR (c_impl_TreeIn F g x4 h) fun x5 h => some (AV.one .tup (AV.cons x4 (AV.cons x5 (AV.leaf .nil))), h))
noncomputable def A_impl_CutLeaf : An := (.two .o (.two (.two .o (.two (.two .o .o) .o)) (.two .o (.two .o .o))))
noncomputable def b_impl_CutLeaf : Code := bodyOf Go.Proofs.Tryd.f11
theorem k_impl_CutLeaf (F g : Nat) (a0 : AV) (h : H) : callD Go.Proofs.Tryd.prog (Env.add (Env.add (fun _ _ _ => none : Env) 28 (u1 (c_impl_TreeIn F g))) 29 (u3 (c_strings_ReplaceAll F g))) 13 F b_impl_CutLeaf [2, 3] A_impl_CutLeaf [a0] h = c_impl_CutLeaf F g a0 h := by kernel_rfl
theorem s_impl_CutLeaf (F g : Nat) : ∀ args h r, u1 (c_impl_CutLeaf F g) args h = some r → Tri Go.Proofs.Tryd.prog 11 args h r := by
  intro args h r e; obtain ⟨a0, rfl, e1⟩ := u1_some e; exact fn_sound Go.Proofs.Tryd.func11 rfl rfl rfl Go.Proofs.Tryd.ntmps11 (Sound.add (Sound.add (Sound.none _) (s_impl_TreeIn F g)) (s_strings_ReplaceAll F g)) ((k_impl_CutLeaf F g a0 h).trans e1)

-- "loop.example/treenumbers/laws.FnExactCutLeaf"
noncomputable def c_laws_FnExactCutLeaf_j1 (F g : Nat) (vs : List AV) (h : H) : Option R := (fun x11 x12 => aPick x11 (AV.bool true) x12 h fun x13 h => withBool x13 fun t14 => bc t14 (some ((AV.bool false), h)) (some ((AV.bool true), h))) (hd vs) (hd (tl vs))
noncomputable def c_laws_FnExactCutLeaf (F g : Nat) (a0 : AV) (h : H) : Option R := aLenK 0 a0 h fun x1 h => aCmpI (fun a b => ilt b a) x1 (AV.int 3 (Int.ofNat 1048576)) h fun x2 h => withBool x2 fun t3 => bc t3 (some ((AV.bool true), h)) (bindR (c_spec_CutLeaf F g a0 h) fun x4 h => aExtract x4 0 h fun x5 h => aExtract x4 1 h fun x6 h => bindR (c_impl_CutLeaf F g a0 h) fun x7 h => aExtract x7 0 h fun x8 h => aExtract x7 1 h fun x9 h => aCmpS (fun a b => bnot (eqL a b)) x8 x5 h fun x10 h => guardB false x10 (aEq true 0 x9 x6 h fun x15 h => (c_laws_FnExactCutLeaf_j1 F g) [x10, x15] h) ((c_laws_FnExactCutLeaf_j1 F g) [x10, (AV.one .tup (AV.leaf .nil))] h))
noncomputable def A_laws_FnExactCutLeaf : An := (.two .o (.two (.two .o (.two (.two .o .o) .o)) (.two .o (.two .o (.two (.two (.at_ [23, 26] .o .o) (.two (.two .o .o) .o)) (.two .o .o))))))
noncomputable def b_laws_FnExactCutLeaf : Code := bodyOf Go.Proofs.Tryd.f7
theorem k_laws_FnExactCutLeaf (F g : Nat) (a0 : AV) (h : H) : callD Go.Proofs.Tryd.prog (Env.add (Env.add (fun _ _ _ => none : Env) 19 (u1 (c_spec_CutLeaf F g))) 11 (u1 (c_impl_CutLeaf F g))) 28 F b_laws_FnExactCutLeaf [2] A_laws_FnExactCutLeaf [a0] h = c_laws_FnExactCutLeaf F g a0 h := by kernel_rfl
theorem s_laws_FnExactCutLeaf (F g : Nat) : ∀ args h r, u1 (c_laws_FnExactCutLeaf F g) args h = some r → Tri Go.Proofs.Tryd.prog 7 args h r := by
  intro args h r e; obtain ⟨a0, rfl, e1⟩ := u1_some e; exact fn_sound Go.Proofs.Tryd.func7 rfl rfl rfl Go.Proofs.Tryd.ntmps7 (Sound.add (Sound.add (Sound.none _) (s_spec_CutLeaf F g)) (s_impl_CutLeaf F g)) ((k_laws_FnExactCutLeaf F g a0 h).trans e1)

end
end Go.AI.T
