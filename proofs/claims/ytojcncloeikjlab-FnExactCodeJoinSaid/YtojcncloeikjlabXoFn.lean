/- The functions that the law FnExactTreeOf reaches, as the evaluator reads them. -/
import Derived.Test.YtojcncloeikjlabXoRow
import Derived.Test.YtojcncloeikjlabGiv
import Derived.Test.YtojcncloeikjlabProg
import Derived.KernelRfl
namespace Go.AI
open Go Go.RowKit
noncomputable section
set_option linter.unusedVariables false
set_option linter.unusedSimpArgs false
variable {P : Program}
def fgC (c : AV → H → Option R) (a0 : AV) (h : H) : Option R := bc a0.plain (onSome (c a0 H0) fun r => bc r.1.plain (some (r.1, h)) none) none
theorem fgC_sound {f : FuncId} {c : AV → H → Option R} (hs : ∀ args h r, u1 c args h = some r → Tri P f args h r) : ∀ args h r, u1 (fgC c) args h = some r → Tri P f args h r := by
  intro args h r e
  obtain ⟨a0, rfl, e1⟩ := u1_some e
  obtain ⟨h0, e1⟩ := bif_some e1
  obtain ⟨r1, h1, e2⟩ := onSome_some e1
  obtain ⟨h2, e3⟩ := bif_some e2
  cases e3
  exact Tri.forget (hs [a0] H0 r1 h1) (fun a hm => by cases hm with | head => exact h0 | tail _ hm => cases hm) h2 h
end
end Go.AI
namespace Go.AI.V
open Go Go.RowKit Go.AI
set_option linter.unusedVariables false
set_option linter.unusedSimpArgs false
set_option maxRecDepth 100000
noncomputable section
-- "(*loop.example/treenumbers/impl.node).nodes"
noncomputable def c_impl_node_nodes_l1 (F g : Nat) (self : AV → H → Option R) : List AV → H → (List AV → H → Option R) → Option R := fun vs h kc6 => (fun x7 x8 x9 x10 => aCmpI ilt x10 x9 h fun x11 h => withBool x11 fun t12 => bc t12 (aIdxAddr 1 x8 x10 h fun x13 h => aLoad x13 h fun x14 h => bindR (self x14 h) fun x15 h => aAppend 1 8 x7 x15 h fun x16 h => aArith iadd x10 (AV.int 3 (Int.ofNat 1)) h fun x17 h => kc6 [x16, x8, x9, x17] h) (some (x7, h))) (hd vs) (hd (tl vs)) (hd (tl (tl vs))) (hd (tl (tl (tl vs))))
noncomputable def c_impl_node_nodes (F g : Nat) : AV → H → Option R := Nat.rec (motive := fun _ => AV → H → Option R) (fun _ _ => none) (fun g self a0 h => aBuildSlice 1 1 [(0, 1, a0)] h fun x1 h => aNilCheck a0 h fun x2 h => aField 2 x2 h fun x3 h => aLoad x3 h fun x4 h => aLenK 1 x4 h fun x5 h => loopD F (c_impl_node_nodes_l1 F g self) [x1, x4, x5, (AV.int 3 (Int.ofNat 0))] h) g
noncomputable def A_impl_node_nodes : An := (.two .o (.two .o (.two (.two .o (.two (.at_ [3, 11, 12, 13] (.two .o (.two (.two .o .o) (.two (.two (.two .o .o) .o) .o))) .o) .o)) (.two .o .o))))
noncomputable def b_impl_node_nodes : Code := bodyOf Go.Proofs.Try.f64
theorem k_impl_node_nodes (F g : Nat) (a0 : AV) (h : H) : callD Go.Proofs.Try.prog (Env.add (fun _ _ _ => none : Env) 64 (u1 (c_impl_node_nodes F g))) 23 F b_impl_node_nodes [2] A_impl_node_nodes [a0] h = c_impl_node_nodes F (g + 1) a0 h := by kernel_rfl
theorem s_impl_node_nodes (F g : Nat) : ∀ args h r, u1 (c_impl_node_nodes F g) args h = some r → Tri Go.Proofs.Try.prog 64 args h r := by
  induction g with
  | zero => intro args h r e; obtain ⟨a0, rfl, e⟩ := u1_some e; cases e
  | succ g ih => intro args h r e; obtain ⟨a0, rfl, e1⟩ := u1_some e; exact fn_sound Go.Proofs.Try.func64 rfl rfl rfl Go.Proofs.Try.ntmps64 (Sound.add (Sound.none _) ih) ((k_impl_node_nodes F g a0 h).trans e1)

-- "loop.example/treenumbers/impl.TreeNodes"
noncomputable def c_impl_TreeNodes (F g : Nat) (a0 : AV) (h : H) : Option R := bindR (Go.AI.T.c_impl_readTree F g a0 h) fun x1 h => aExtract x1 0 h fun x2 h => aExtract x1 1 h fun x3 h => aNot x3 h fun x4 h => withBool x4 fun t5 => bc t5 (some (AV.one .tup (AV.cons (AV.int 3 (Int.ofNat 0)) (AV.cons (AV.bool false) (AV.leaf .nil))), h)) (bindR (c_impl_node_nodes F g x2 h) fun x6 h => aLenK 1 x6 h fun x7 h => some (AV.one .tup (AV.cons x7 (AV.cons (AV.bool true) (AV.leaf .nil))), h))
noncomputable def A_impl_TreeNodes : An := (.two .o (.two .o (.two (.two .o (.two (.two .o .o) .o)) (.two .o .o))))
noncomputable def b_impl_TreeNodes : Code := bodyOf Go.Proofs.Try.f43
theorem k_impl_TreeNodes (F g : Nat) (a0 : AV) (h : H) : callD Go.Proofs.Try.prog (Env.add (Env.add (fun _ _ _ => none : Env) 33 (u1 (Go.AI.T.c_impl_readTree F g))) 64 (u1 (c_impl_node_nodes F g))) 16 F b_impl_TreeNodes [2, 3] A_impl_TreeNodes [a0] h = c_impl_TreeNodes F g a0 h := by kernel_rfl
theorem s_impl_TreeNodes (F g : Nat) : ∀ args h r, u1 (c_impl_TreeNodes F g) args h = some r → Tri Go.Proofs.Try.prog 43 args h r := by
  intro args h r e; obtain ⟨a0, rfl, e1⟩ := u1_some e; exact fn_sound Go.Proofs.Try.func43 rfl rfl rfl Go.Proofs.Try.ntmps43 (Sound.add (Sound.add (Sound.none _) (Go.AI.T.s_impl_readTree F g)) (s_impl_node_nodes F g)) ((k_impl_TreeNodes F g a0 h).trans e1)

end
end Go.AI.V
namespace Go.AI.T
open Go Go.RowKit Go.AI
set_option linter.unusedVariables false
set_option linter.unusedSimpArgs false
set_option maxRecDepth 100000
noncomputable section
def c_impl_TreeNodes (F g : Nat) (a0 : AV) (h : H) : Option R := fgC (Go.AI.V.c_impl_TreeNodes 20000 20) a0 h
theorem s_impl_TreeNodes (F g : Nat) : ∀ args h r, u1 (c_impl_TreeNodes F g) args h = some r → Tri Go.Proofs.Try.prog id_impl_TreeNodes args h r := fgC_sound (Go.AI.V.s_impl_TreeNodes 20000 20)
end
end Go.AI.T
namespace Go.AI.T
open Go Go.RowKit Go.AI
set_option linter.unusedVariables false
set_option linter.unusedSimpArgs false
set_option maxRecDepth 100000
noncomputable section
-- "loop.example/treenumbers/laws.szStringS"
noncomputable def c_laws_szStringS_l1 (F g : Nat) : List AV → H → (List AV → H → Option R) → Option R := fun vs h kc5 => (fun x6 x7 x8 => aLenK 1 x6 h fun x9 h => aCmpI ilt x8 x9 h fun x10 h => withBool x10 fun t11 => bc t11 (aIdxAddr 1 x6 x8 h fun x12 h => aLoad x12 h fun x13 h => aLenK 0 x13 h fun x14 h => aArith isub x7 x14 h fun x15 h => aCmpI ilt x15 (AV.int 3 (Int.ofNat 0)) h fun x16 h => withBool x16 fun t17 => bc t17 (some ((AV.int 3 (Int.negSucc 0)), h)) (aArith iadd x8 (AV.int 3 (Int.ofNat 1)) h fun x18 h => kc5 [x6, x15, x18] h)) (some (x7, h))) (hd vs) (hd (tl vs)) (hd (tl (tl vs)))
noncomputable def c_laws_szStringS (F g : Nat) (a0 a1 : AV) (h : H) : Option R := aLenK 1 a0 h fun x1 h => aArith isub a1 x1 h fun x2 h => aCmpI ilt x2 (AV.int 3 (Int.ofNat 0)) h fun x3 h => withBool x3 fun t4 => bc t4 (some ((AV.int 3 (Int.negSucc 0)), h)) (loopD F (c_laws_szStringS_l1 F g) [a0, x2, (AV.int 3 (Int.ofNat 0))] h)
noncomputable def A_laws_szStringS : An := (.two .o (.two .o (.two (.two .o (.two (.two .o .o) .o)) (.two (.two .o (.two (.at_ [0, 1, 5] (.two (.two .o (.two .o .o)) (.two (.two (.two .o (.two .o (.two (.two .o .o) .o))) .o) .o)) .o) .o)) (.two .o .o)))))
noncomputable def b_laws_szStringS : Code := bodyOf Go.Proofs.Try.f21
theorem k_laws_szStringS (F g : Nat) (a0 a1 : AV) (h : H) : callD Go.Proofs.Try.prog (fun _ _ _ => none : Env) 28 F b_laws_szStringS [4] A_laws_szStringS [a0, a1] h = c_laws_szStringS F g a0 a1 h := by kernel_rfl
theorem s_laws_szStringS (F g : Nat) : ∀ args h r, u2 (c_laws_szStringS F g) args h = some r → Tri Go.Proofs.Try.prog 21 args h r := by
  intro args h r e; obtain ⟨a0, a1, rfl, e1⟩ := u2_some e; exact fn_sound Go.Proofs.Try.func21 rfl rfl rfl Go.Proofs.Try.ntmps21 (Sound.none _) ((k_laws_szStringS F g a0 a1 h).trans e1)

-- "loop.example/treenumbers/laws.toStringS"
noncomputable def c_laws_toStringS_l1 (F g : Nat) : List AV → H → (List AV → H → Option R) → Option R := fun vs h kc3 => (fun x4 x5 x6 => aLenK 1 x4 h fun x7 h => aCmpI ilt x6 x7 h fun x8 h => withBool x8 fun t9 => bc t9 (aIdxAddr 1 x4 x6 h fun x10 h => aLoad x10 h fun x11 h => aIdxAddr 1 x5 x6 h fun x12 h => aStore x12 x11 h fun x13 h => aArith iadd x6 (AV.int 3 (Int.ofNat 1)) h fun x14 h => kc3 [x4, x5, x14] h) (some (x5, h))) (hd vs) (hd (tl vs)) (hd (tl (tl vs)))
noncomputable def c_laws_toStringS (F g : Nat) (a0 : AV) (h : H) : Option R := aLenK 1 a0 h fun x1 h => aMake 16 [(AV.str [] 0)] x1 x1 h fun x2 h => loopD F (c_laws_toStringS_l1 F g) [a0, x2, (AV.int 3 (Int.ofNat 0))] h
noncomputable def A_laws_toStringS : An := (.two .o (.two .o (.two (.two .o (.two (.at_ [0, 3, 4] (.two (.two .o (.two .o .o)) (.two (.two .o .o) .o)) .o) .o)) (.two .o .o))))
noncomputable def b_laws_toStringS : Code := bodyOf Go.Proofs.Try.f23
theorem k_laws_toStringS (F g : Nat) (a0 : AV) (h : H) : callD Go.Proofs.Try.prog (fun _ _ _ => none : Env) 22 F b_laws_toStringS [2] A_laws_toStringS [a0] h = c_laws_toStringS F g a0 h := by kernel_rfl
theorem s_laws_toStringS (F g : Nat) : ∀ args h r, u1 (c_laws_toStringS F g) args h = some r → Tri Go.Proofs.Try.prog 23 args h r := by
  intro args h r e; obtain ⟨a0, rfl, e1⟩ := u1_some e; exact fn_sound Go.Proofs.Try.func23 rfl rfl rfl Go.Proofs.Try.ntmps23 (Sound.none _) ((k_laws_toStringS F g a0 h).trans e1)

-- "loop.example/treenumbers/spec.l1Of"
noncomputable def c_spec_l1Of_l1 (F g : Nat) : List AV → H → (List AV → H → Option R) → Option R := fun vs h kc1 => (fun x2 x3 x4 => aLenK 1 x2 h fun x5 h => aCmpI ilt x4 x5 h fun x6 h => withBool x6 fun t7 => bc t7 (aIdxAddr 1 x2 x4 h fun x8 h => aLoad x8 h fun x9 h => aSAdd x3 x9 h fun x10 h => aArith iadd x4 (AV.int 3 (Int.ofNat 1)) h fun x11 h => kc1 [x2, x10, x11] h) (aSAdd x3 (AV.str [41] 1) h fun x12 h => some (x12, h))) (hd vs) (hd (tl vs)) (hd (tl (tl vs)))
noncomputable def c_spec_l1Of (F g : Nat) (a0 : AV) (h : H) : Option R := loopD F (c_spec_l1Of_l1 F g) [a0, (AV.str [40] 1), (AV.int 3 (Int.ofNat 0))] h
noncomputable def A_spec_l1Of : An := (.two .o (.two .o (.two (.two .o (.two (.at_ [0, 3, 4] (.two (.two .o (.two .o .o)) (.two (.two .o .o) .o)) .o) .o)) (.two .o .o))))
noncomputable def b_spec_l1Of : Code := bodyOf Go.Proofs.Try.f42
theorem k_spec_l1Of (F g : Nat) (a0 : AV) (h : H) : callD Go.Proofs.Try.prog (fun _ _ _ => none : Env) 19 F b_spec_l1Of [2] A_spec_l1Of [a0] h = c_spec_l1Of F g a0 h := by kernel_rfl
theorem s_spec_l1Of (F g : Nat) : ∀ args h r, u1 (c_spec_l1Of F g) args h = some r → Tri Go.Proofs.Try.prog 42 args h r := by
  intro args h r e; obtain ⟨a0, rfl, e1⟩ := u1_some e; exact fn_sound Go.Proofs.Try.func42 rfl rfl rfl Go.Proofs.Try.ntmps42 (Sound.none _) ((k_spec_l1Of F g a0 h).trans e1)

-- "loop.example/treenumbers/spec.l1Done"
noncomputable def c_spec_l1Done (F g : Nat) (a0 : AV) (h : H) : Option R := bindR (c_spec_TreeIn F g a0 h) fun x1 h => aNot x1 h fun x2 h => withBool x2 fun t3 => bc t3 (some (AV.one .tup (AV.cons (AV.str [] 0) (AV.cons (AV.bool false) (AV.leaf .nil))), h)) (some (AV.one .tup (AV.cons a0 (AV.cons (AV.bool true) (AV.leaf .nil))), h))
noncomputable def A_spec_l1Done : An := (.two .o (.two (.two .o (.two (.two .o .o) .o)) (.two .o .o)))
noncomputable def b_spec_l1Done : Code := bodyOf Go.Proofs.Try.f41
theorem k_spec_l1Done (F g : Nat) (a0 : AV) (h : H) : callD Go.Proofs.Try.prog (Env.add (fun _ _ _ => none : Env) 31 (u1 (c_spec_TreeIn F g))) 8 F b_spec_l1Done [2, 3] A_spec_l1Done [a0] h = c_spec_l1Done F g a0 h := by kernel_rfl
theorem s_spec_l1Done (F g : Nat) : ∀ args h r, u1 (c_spec_l1Done F g) args h = some r → Tri Go.Proofs.Try.prog 41 args h r := by
  intro args h r e; obtain ⟨a0, rfl, e1⟩ := u1_some e; exact fn_sound Go.Proofs.Try.func41 rfl rfl rfl Go.Proofs.Try.ntmps41 (Sound.add (Sound.none _) (s_spec_TreeIn F g)) ((k_spec_l1Done F g a0 h).trans e1)

-- "loop.example/treenumbers/spec.TreeOf"
noncomputable def c_spec_TreeOf_l1 (F g : Nat) : List AV → H → (List AV → H → Option R) → Option R := fun vs h kc1 => (fun x2 x3 => aLenK 1 x2 h fun x4 h => aCmpI ilt x3 x4 h fun x5 h => withBool x5 fun t6 => bc t6 (aIdxAddr 1 x2 x3 h fun x7 h => aLoad x7 h fun x8 h => bindR (c_spec_TreeIn F g x8 h) fun x9 h => aNot x9 h fun x10 h => withBool x10 fun t11 => bc t11 (some (AV.one .tup (AV.cons (AV.str [] 0) (AV.cons (AV.bool false) (AV.leaf .nil))), h)) (aArith iadd x3 (AV.int 3 (Int.ofNat 1)) h fun x12 h => kc1 [x2, x12] h)) (bindR (c_spec_l1Of F g x2 h) fun x13 h => bindR (c_spec_l1Done F g x13 h) fun x14 h => aExtract x14 0 h fun x15 h => aExtract x14 1 h fun x16 h => some (AV.one .tup (AV.cons x15 (AV.cons x16 (AV.leaf .nil))), h))) (hd vs) (hd (tl vs))
noncomputable def c_spec_TreeOf (F g : Nat) (a0 : AV) (h : H) : Option R := loopD F (c_spec_TreeOf_l1 F g) [a0, (AV.int 3 (Int.ofNat 0))] h
noncomputable def A_spec_TreeOf : An := (.two .o (.two (.two .o (.two (.at_ [0, 4] (.two (.two .o (.two .o .o)) (.two (.two (.two .o (.two (.two .o .o) .o)) .o) .o)) .o) .o)) (.two .o .o)))
noncomputable def b_spec_TreeOf : Code := bodyOf Go.Proofs.Try.f22
theorem k_spec_TreeOf (F g : Nat) (a0 : AV) (h : H) : callD Go.Proofs.Try.prog (Env.add (Env.add (Env.add (fun _ _ _ => none : Env) 31 (u1 (c_spec_TreeIn F g))) 42 (u1 (c_spec_l1Of F g))) 41 (u1 (c_spec_l1Done F g))) 22 F b_spec_TreeOf [2, 3] A_spec_TreeOf [a0] h = c_spec_TreeOf F g a0 h := by kernel_rfl
theorem s_spec_TreeOf (F g : Nat) : ∀ args h r, u1 (c_spec_TreeOf F g) args h = some r → Tri Go.Proofs.Try.prog 22 args h r := by
  intro args h r e; obtain ⟨a0, rfl, e1⟩ := u1_some e; exact fn_sound Go.Proofs.Try.func22 rfl rfl rfl Go.Proofs.Try.ntmps22 (Sound.add (Sound.add (Sound.add (Sound.none _) (s_spec_TreeIn F g)) (s_spec_l1Of F g)) (s_spec_l1Done F g)) ((k_spec_TreeOf F g a0 h).trans e1)

-- "loop.example/treenumbers/impl.TreeOf"
noncomputable def c_impl_TreeOf_j1 (F g : Nat) (kc2 : List AV → H → Option R) (vs : List AV) (h : H) : Option R := (fun x17 x18 x19 x20 x21 x22 x23 => aPick x22 (AV.bool true) x23 h fun x24 h => withBool x24 fun t25 => bc t25 (some (AV.one .tup (AV.cons (AV.str [] 0) (AV.cons (AV.bool false) (AV.leaf .nil))), h)) (aArith iadd x21 (AV.int 3 (Int.ofNat 1)) h fun x26 h => kc2 [x17, x18, x19, x20, x26] h)) (hd vs) (hd (tl vs)) (hd (tl (tl vs))) (hd (tl (tl (tl vs)))) (hd (tl (tl (tl (tl vs))))) (hd (tl (tl (tl (tl (tl vs)))))) (hd (tl (tl (tl (tl (tl (tl vs)))))))
noncomputable def c_impl_TreeOf_l2 (F g : Nat) : List AV → H → (List AV → H → Option R) → Option R := fun vs h kc2 => (fun x3 x4 x5 x6 x7 => aCmpI ilt x7 x6 h fun x8 h => withBool x8 fun t9 => bc t9 (aIdxAddr 1 x5 x7 h fun x10 h => aLoad x10 h fun x11 h => bindR (c_impl_TreeNodes F g x11 h) fun x12 h => aExtract x12 0 h fun x13 h => aExtract x12 1 h fun x14 h => aArith iadd x4 x13 h fun x15 h => aNot x14 h fun x16 h => guardB false x16 (aCmpI (fun a b => ilt b a) x15 (AV.int 3 (Int.ofNat 9)) h fun x27 h => (c_impl_TreeOf_j1 F g kc2) [x3, x15, x5, x6, x7, x16, x27] h) ((c_impl_TreeOf_j1 F g kc2) [x3, x15, x5, x6, x7, x16, (AV.one .tup (AV.leaf .nil))] h)) (bindR (c_strings_Join F g x3 (AV.str [] 0) h) fun x28 h => aSAdd (AV.str [40] 1) x28 h fun x29 h => aSAdd x29 (AV.str [41] 1) h fun x30 h => some (AV.one .tup (AV.cons x30 (AV.cons (AV.bool true) (AV.leaf .nil))), h))) (hd vs) (hd (tl vs)) (hd (tl (tl vs))) (hd (tl (tl (tl vs)))) (hd (tl (tl (tl (tl vs)))))
noncomputable def c_impl_TreeOf (F g : Nat) (a0 : AV) (h : H) : Option R := aLenK 1 a0 h fun x1 h => loopD F (c_impl_TreeOf_l2 F g) [a0, (AV.int 3 (Int.ofNat 1)), a0, x1, (AV.int 3 (Int.ofNat 0))] h
noncomputable def A_impl_TreeOf : An := (.two .o (.two .o (.two (.two .o (.two (.at_ [0, 4, 9, 10, 11] (.two .o (.two (.two .o .o) (.two (.two (.two .o (.two .o (.two .o (.two (.at_ [0, 4, 9, 10, 11, 25, 27] .o .o) (.two (.two .o .o) .o))))) .o) .o))) .o) .o)) (.two .o .o))))
noncomputable def b_impl_TreeOf : Code := bodyOf Go.Proofs.Try.f24
theorem k_impl_TreeOf (F g : Nat) (a0 : AV) (h : H) : callD Go.Proofs.Try.prog (Env.add (Env.add (fun _ _ _ => none : Env) 43 (u1 (c_impl_TreeNodes F g))) 44 (u2 (c_strings_Join F g))) 34 F b_impl_TreeOf [2, 3] A_impl_TreeOf [a0] h = c_impl_TreeOf F g a0 h := by kernel_rfl
theorem s_impl_TreeOf (F g : Nat) : ∀ args h r, u1 (c_impl_TreeOf F g) args h = some r → Tri Go.Proofs.Try.prog 24 args h r := by
  intro args h r e; obtain ⟨a0, rfl, e1⟩ := u1_some e; exact fn_sound Go.Proofs.Try.func24 rfl rfl rfl Go.Proofs.Try.ntmps24 (Sound.add (Sound.add (Sound.none _) (s_impl_TreeNodes F g)) (s_strings_Join F g)) ((k_impl_TreeOf F g a0 h).trans e1)

-- "loop.example/treenumbers/laws.eqStringS"
noncomputable def c_laws_eqStringS_l1 (F g : Nat) : List AV → H → (List AV → H → Option R) → Option R := fun vs h kc5 => (fun x6 x7 x8 => aLenK 1 x6 h fun x9 h => aCmpI ilt x8 x9 h fun x10 h => withBool x10 fun t11 => bc t11 (aIdxAddr 1 x6 x8 h fun x12 _ => aLoad x12 h fun x13 _ => aIdxAddr 1 x7 x8 h fun x14 _ => aLoad x14 h fun x15 _ => aCmpS (fun a b => bnot (eqL a b)) x13 x15 h fun x16 _ => withBool x16 fun t17 => bc t17 (some ((AV.bool false), h)) (aArith iadd x8 (AV.int 3 (Int.ofNat 1)) h fun x18 h => kc5 [x6, x7, x18] h)) (some ((AV.bool true), h))) (hd vs) (hd (tl vs)) (hd (tl (tl vs)))
noncomputable def c_laws_eqStringS (F g : Nat) (a0 a1 : AV) (h : H) : Option R := aLenK 1 a0 h fun x1 h => aLenK 1 a1 h fun x2 h => aCmpI (fun a b => bnot (ieq a b)) x1 x2 h fun x3 h => withBool x3 fun t4 => bc t4 (some ((AV.bool false), h)) (loopD F (c_laws_eqStringS_l1 F g) [a0, a1, (AV.int 3 (Int.ofNat 0))] h)
noncomputable def A_laws_eqStringS : An := (.two .o (.two (.two .o (.two (.two .o .o) .o)) (.two (.two .o (.two (.at_ [0, 1, 5] (.two (.two .o (.two .o .o)) (.two (.two (.two .o (.two (.two .o .o) .o)) .o) .o)) .o) .o)) (.two .o .o))))
noncomputable def b_laws_eqStringS : Code := bodyOf Go.Proofs.Try.f25
theorem k_laws_eqStringS (F g : Nat) (a0 a1 : AV) (h : H) : callD Go.Proofs.Try.prog (fun _ _ _ => none : Env) 26 F b_laws_eqStringS [4] A_laws_eqStringS [a0, a1] h = c_laws_eqStringS F g a0 a1 h := by kernel_rfl
theorem s_laws_eqStringS (F g : Nat) : ∀ args h r, u2 (c_laws_eqStringS F g) args h = some r → Tri Go.Proofs.Try.prog 25 args h r := by
  intro args h r e; obtain ⟨a0, a1, rfl, e1⟩ := u2_some e; exact fn_sound Go.Proofs.Try.func25 rfl rfl rfl Go.Proofs.Try.ntmps25 (Sound.none _) ((k_laws_eqStringS F g a0 a1 h).trans e1)

-- "loop.example/treenumbers/laws.FnExactTreeOf"
noncomputable def c_laws_FnExactTreeOf_j1 (F g : Nat) (vs : List AV) (h : H) : Option R := (fun x13 x14 x15 x16 => aPick x15 (AV.bool true) x16 h fun x17 h => withBool x17 fun t18 => bc t18 (some ((AV.bool false), h)) (bindR (c_laws_toStringS F g x13 h) fun x19 h => bindR (c_laws_eqStringS F g x14 x19 h) fun x20 h => aNot x20 h fun x21 h => withBool x21 fun t22 => bc t22 (some ((AV.bool false), h)) (some ((AV.bool true), h)))) (hd vs) (hd (tl vs)) (hd (tl (tl vs))) (hd (tl (tl (tl vs))))
noncomputable def c_laws_FnExactTreeOf (F g : Nat) (a0 : AV) (h : H) : Option R := bindR (c_laws_szStringS F g a0 (AV.int 3 (Int.ofNat 1048576)) h) fun x1 h => aCmpI ilt x1 (AV.int 3 (Int.ofNat 0)) h fun x2 h => withBool x2 fun t3 => bc t3 (some ((AV.bool true), h)) (bindR (c_laws_toStringS F g a0 h) fun x4 h => bindR (c_spec_TreeOf F g x4 h) fun x5 h => aExtract x5 0 h fun x6 h => aExtract x5 1 h fun x7 h => bindR (c_laws_toStringS F g a0 h) fun x8 h => bindR (c_impl_TreeOf F g x8 h) fun x9 h => aExtract x9 0 h fun x10 h => aExtract x9 1 h fun x11 h => aCmpS (fun a b => bnot (eqL a b)) x10 x6 h fun x12 h => guardB false x12 (aEq true 0 x11 x7 h fun x23 h => (c_laws_FnExactTreeOf_j1 F g) [a0, x8, x12, x23] h) ((c_laws_FnExactTreeOf_j1 F g) [a0, x8, x12, (AV.one .tup (AV.leaf .nil))] h))
noncomputable def A_laws_FnExactTreeOf : An := (.two .o (.two .o (.two .o (.two (.two .o (.two (.two .o .o) .o)) (.two .o (.two .o (.two .o (.two (.two (.at_ [0, 6, 30, 33] .o .o) (.two (.two .o .o) .o)) (.two (.two .o (.two (.two .o .o) .o)) (.two .o .o))))))))))
noncomputable def b_laws_FnExactTreeOf : Code := bodyOf Go.Proofs.Try.f7
theorem k_laws_FnExactTreeOf (F g : Nat) (a0 : AV) (h : H) : callD Go.Proofs.Try.prog (Env.add (Env.add (Env.add (Env.add (Env.add (fun _ _ _ => none : Env) 21 (u2 (c_laws_szStringS F g))) 23 (u1 (c_laws_toStringS F g))) 22 (u1 (c_spec_TreeOf F g))) 24 (u1 (c_impl_TreeOf F g))) 25 (u2 (c_laws_eqStringS F g))) 40 F b_laws_FnExactTreeOf [2] A_laws_FnExactTreeOf [a0] h = c_laws_FnExactTreeOf F g a0 h := by kernel_rfl
theorem s_laws_FnExactTreeOf (F g : Nat) : ∀ args h r, u1 (c_laws_FnExactTreeOf F g) args h = some r → Tri Go.Proofs.Try.prog 7 args h r := by
  intro args h r e; obtain ⟨a0, rfl, e1⟩ := u1_some e; exact fn_sound Go.Proofs.Try.func7 rfl rfl rfl Go.Proofs.Try.ntmps7 (Sound.add (Sound.add (Sound.add (Sound.add (Sound.add (Sound.none _) (s_laws_szStringS F g)) (s_laws_toStringS F g)) (s_spec_TreeOf F g)) (s_impl_TreeOf F g)) (s_laws_eqStringS F g)) ((k_laws_FnExactTreeOf F g a0 h).trans e1)

end
end Go.AI.T
