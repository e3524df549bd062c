/- The functions that the law FnExactStreamLeast reaches, as the evaluator reads them. -/
import Derived.Test.YtojcncloeikjlabAi2
import Derived.KernelRfl
import Derived.Test.YtojcncloeikjlabProg
namespace Go.AI.X
open Go Go.RowKit Go.AI
set_option linter.unusedVariables false
set_option linter.unusedSimpArgs false
set_option maxRecDepth 100000
noncomputable section
-- "loop.example/treenumbers/spec.l6In"
noncomputable def c_spec_l6In_j1 (F g : Nat) (vs : List AV) (h : H) : Option R := (fun x2 x3 => aPick x2 x3 (AV.bool false) h fun x4 h => some (x4, h)) (hd vs) (hd (tl vs))
noncomputable def c_spec_l6In (F g : Nat) (a0 a1 a2 : AV) (h : H) : Option R := aCmpI (fun a b => ile b a) a0 a1 h fun x1 h => guardB true x1 (aCmpI ile a0 a2 h fun x5 h => (c_spec_l6In_j1 F g) [x1, x5] h) ((c_spec_l6In_j1 F g) [x1, (AV.one .tup (AV.leaf .nil))] h)
noncomputable def A_spec_l6In : An := (.two .o (.two (.at_ [10, 13] .o .o) .o))
noncomputable def b_spec_l6In : Code := bodyOf Go.Proofs.Try.f38
theorem k_spec_l6In (F g : Nat) (a0 a1 a2 : AV) (h : H) : callD Go.Proofs.Try.prog (fun _ _ _ => none : Env) 15 F b_spec_l6In [6] A_spec_l6In [a0, a1, a2] h = c_spec_l6In F g a0 a1 a2 h := by kernel_rfl
theorem s_spec_l6In (F g : Nat) : ∀ args h r, u3 (c_spec_l6In F g) args h = some r → Tri Go.Proofs.Try.prog 38 args h r := by
  intro args h r e; obtain ⟨a0, a1, a2, rfl, e1⟩ := u3_some e; exact fn_sound Go.Proofs.Try.func38 rfl rfl rfl Go.Proofs.Try.ntmps38 (Sound.none _) ((k_spec_l6In F g a0 a1 a2 h).trans e1)

-- "loop.example/treenumbers/spec.StreamLeast"
noncomputable def c_spec_StreamLeast (F g : Nat) (a0 : AV) (h : H) : Option R := bindR (c_spec_l6In F g a0 (AV.int 3 (Int.ofNat 1)) (AV.int 3 (Int.ofNat 10)) h) fun x1 h => aNot x1 h fun x2 h => withBool x2 fun t3 => bc t3 (some (AV.one .tup (AV.cons (AV.int 3 (Int.ofNat 0)) (AV.cons (AV.bool false) (AV.leaf .nil))), h)) (aShl (AV.int 3 (Int.ofNat 1)) a0 h fun x4 h => aArith isub x4 (AV.int 3 (Int.ofNat 1)) h fun x5 h => some (AV.one .tup (AV.cons x5 (AV.cons (AV.bool true) (AV.leaf .nil))), h))
noncomputable def A_spec_StreamLeast : An := (.two .o (.two (.two .o (.two (.two .o .o) .o)) (.two .o .o)))
noncomputable def b_spec_StreamLeast : Code := bodyOf Go.Proofs.Try.f17
theorem k_spec_StreamLeast (F g : Nat) (a0 : AV) (h : H) : callD Go.Proofs.Try.prog (Env.add (fun _ _ _ => none : Env) 38 (u3 (c_spec_l6In F g))) 10 F b_spec_StreamLeast [2, 3] A_spec_StreamLeast [a0] h = c_spec_StreamLeast F g a0 h := by kernel_rfl
theorem s_spec_StreamLeast (F g : Nat) : ∀ args h r, u1 (c_spec_StreamLeast F g) args h = some r → Tri Go.Proofs.Try.prog 17 args h r := by
  intro args h r e; obtain ⟨a0, rfl, e1⟩ := u1_some e; exact fn_sound Go.Proofs.Try.func17 rfl rfl rfl Go.Proofs.Try.ntmps17 (Sound.add (Sound.none _) (s_spec_l6In F g)) ((k_spec_StreamLeast F g a0 h).trans e1)

-- "loop.example/treenumbers/impl.StreamLeast"
noncomputable def c_impl_StreamLeast_l1 (F g : Nat) : List AV → H → (List AV → H → Option R) → Option R := fun vs h kc8 => (fun x9 x10 x11 => aCmpI ilt x11 x10 h fun x12 h => withBool x12 fun t13 => bc t13 (aArith imul (AV.int 3 (Int.ofNat 2)) x9 h fun x14 h => aArith iadd x14 (AV.int 3 (Int.ofNat 1)) h fun x15 h => aArith iadd x11 (AV.int 3 (Int.ofNat 1)) h fun x16 h => kc8 [x15, x10, x16] h) (some (AV.one .tup (AV.cons x9 (AV.cons (AV.bool true) (AV.leaf .nil))), h))) (hd vs) (hd (tl vs)) (hd (tl (tl vs)))
noncomputable def c_impl_StreamLeast_j2 (F g : Nat) (vs : List AV) (h : H) : Option R := (fun x2 x3 x4 => aPick x3 (AV.bool true) x4 h fun x5 h => withBool x5 fun t6 => bc t6 (some (AV.one .tup (AV.cons (AV.int 3 (Int.ofNat 0)) (AV.cons (AV.bool false) (AV.leaf .nil))), h)) (aArith isub x2 (AV.int 3 (Int.ofNat 1)) h fun x7 h => loopD F (c_impl_StreamLeast_l1 F g) [(AV.int 3 (Int.ofNat 1)), x7, (AV.int 3 (Int.ofNat 0))] h)) (hd vs) (hd (tl vs)) (hd (tl (tl vs)))
noncomputable def c_impl_StreamLeast (F g : Nat) (a0 : AV) (h : H) : Option R := aCmpI ilt a0 (AV.int 3 (Int.ofNat 1)) h fun x1 h => guardB false x1 (aCmpI (fun a b => ilt b a) a0 (AV.int 3 (Int.ofNat 10)) h fun x17 h => (c_impl_StreamLeast_j2 F g) [a0, x1, x17] h) ((c_impl_StreamLeast_j2 F g) [a0, x1, (AV.one .tup (AV.leaf .nil))] h)
noncomputable def A_impl_StreamLeast : An := (.two .o (.two (.two (.at_ [0, 7, 9] .o .o) (.two (.two .o .o) .o)) (.two .o (.two (.two .o (.two (.at_ [4, 12, 13] (.two .o (.two (.two .o .o) (.two (.two .o .o) .o))) .o) .o)) (.two .o .o)))))
noncomputable def b_impl_StreamLeast : Code := bodyOf Go.Proofs.Try.f18
theorem k_impl_StreamLeast (F g : Nat) (a0 : AV) (h : H) : callD Go.Proofs.Try.prog (fun _ _ _ => none : Env) 20 F b_impl_StreamLeast [2, 3] A_impl_StreamLeast [a0] h = c_impl_StreamLeast F g a0 h := by kernel_rfl
theorem s_impl_StreamLeast (F g : Nat) : ∀ args h r, u1 (c_impl_StreamLeast F g) args h = some r → Tri Go.Proofs.Try.prog 18 args h r := by
  intro args h r e; obtain ⟨a0, rfl, e1⟩ := u1_some e; exact fn_sound Go.Proofs.Try.func18 rfl rfl rfl Go.Proofs.Try.ntmps18 (Sound.none _) ((k_impl_StreamLeast F g a0 h).trans e1)

-- "loop.example/treenumbers/laws.FnExactStreamLeast"
noncomputable def c_laws_FnExactStreamLeast_j1 (F g : Nat) (vs : List AV) (h : H) : Option R := (fun x8 x9 => aPick x8 (AV.bool true) x9 h fun x10 h => withBool x10 fun t11 => bc t11 (some ((AV.bool false), h)) (some ((AV.bool true), h))) (hd vs) (hd (tl vs))
noncomputable def c_laws_FnExactStreamLeast (F g : Nat) (a0 : AV) (h : H) : Option R := bindR (c_spec_StreamLeast F g a0 h) fun x1 h => aExtract x1 0 h fun x2 h => aExtract x1 1 h fun x3 h => bindR (c_impl_StreamLeast F g a0 h) fun x4 h => aExtract x4 0 h fun x5 h => aExtract x4 1 h fun x6 h => aCmpI (fun a b => bnot (ieq a b)) x5 x2 h fun x7 h => guardB false x7 (aEq true 0 x6 x3 h fun x12 h => (c_laws_FnExactStreamLeast_j1 F g) [x7, x12] h) ((c_laws_FnExactStreamLeast_j1 F g) [x7, (AV.one .tup (AV.leaf .nil))] h)
noncomputable def A_laws_FnExactStreamLeast : An := (.two .o (.two .o (.two .o (.two (.two (.at_ [20, 23] .o .o) (.two (.two .o .o) .o)) (.two .o .o)))))
noncomputable def b_laws_FnExactStreamLeast : Code := bodyOf Go.Proofs.Try.f5
theorem k_laws_FnExactStreamLeast (F g : Nat) (a0 : AV) (h : H) : callD Go.Proofs.Try.prog (Env.add (Env.add (fun _ _ _ => none : Env) 17 (u1 (c_spec_StreamLeast F g))) 18 (u1 (c_impl_StreamLeast F g))) 25 F b_laws_FnExactStreamLeast [2] A_laws_FnExactStreamLeast [a0] h = c_laws_FnExactStreamLeast F g a0 h := by kernel_rfl
theorem s_laws_FnExactStreamLeast (F g : Nat) : ∀ args h r, u1 (c_laws_FnExactStreamLeast F g) args h = some r → Tri Go.Proofs.Try.prog 5 args h r := by
  intro args h r e; obtain ⟨a0, rfl, e1⟩ := u1_some e; exact fn_sound Go.Proofs.Try.func5 rfl rfl rfl Go.Proofs.Try.ntmps5 (Sound.add (Sound.add (Sound.none _) (s_spec_StreamLeast F g)) (s_impl_StreamLeast F g)) ((k_laws_FnExactStreamLeast F g a0 h).trans e1)

end
end Go.AI.X
