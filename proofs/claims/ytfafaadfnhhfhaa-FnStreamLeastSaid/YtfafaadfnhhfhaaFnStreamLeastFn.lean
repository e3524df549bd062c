/- The functions that the law FnStreamLeast reaches, as the evaluator reads them. -/
import Derived.Test.YtfafaadfnhhfhaaRaw
import Derived.Test.YtfafaadfnhhfhaaProg
import Derived.KernelRfl
namespace Go.AI
open Go Go.RowKit Go.AI
set_option linter.unusedVariables false
set_option linter.unusedSimpArgs false
set_option maxRecDepth 100000
noncomputable section
-- "loop.example/treenumbers/spec.DrawStreamLeast"
noncomputable def c_spec_DrawStreamLeast (F g : Nat) (a0 : AV) (h : H) : Option R := bindR (c_spec_l6Open F g a0 h) fun x1 h => bindR (c_spec_l6Rd_pick F g x1 (AV.int 3 (Int.ofNat 12)) h) fun x2 h => some (x2, h)
noncomputable def A_spec_DrawStreamLeast : An := (.two .o (.two .o (.two .o .o)))
noncomputable def b_spec_DrawStreamLeast : Code := bodyOf Go.Proofs.Try.f82
theorem k_spec_DrawStreamLeast (F g : Nat) (a0 : AV) (h : H) : callD Go.Proofs.Try.prog (Env.add (Env.add (fun _ _ _ => none : Env) 103 (u1 (c_spec_l6Open F g))) 104 (u2 (c_spec_l6Rd_pick F g))) 8 F b_spec_DrawStreamLeast [2] A_spec_DrawStreamLeast [a0] h = c_spec_DrawStreamLeast F g a0 h := by kernel_rfl
theorem s_spec_DrawStreamLeast (F g : Nat) : ∀ args h r, u1 (c_spec_DrawStreamLeast F g) args h = some r → Tri Go.Proofs.Try.prog 82 args h r := by
  intro args h r e; obtain ⟨a0, rfl, e1⟩ := u1_some e; exact fn_sound Go.Proofs.Try.func82 rfl rfl rfl Go.Proofs.Try.ntmps82 (Sound.add (Sound.add (Sound.none _) (s_spec_l6Open F g)) (s_spec_l6Rd_pick F g)) ((k_spec_DrawStreamLeast F g a0 h).trans e1)

end
end Go.AI
namespace Go.AI.T
open Go Go.RowKit Go.AI
set_option linter.unusedVariables false
set_option linter.unusedSimpArgs false
set_option maxRecDepth 100000
noncomputable section
def c_spec_DrawStreamLeast (F g : Nat) (a0 : AV) (h : H) : Option R := quietC (Go.AI.c_spec_DrawStreamLeast 20000 20) a0 h
theorem s_spec_DrawStreamLeast (F g : Nat) : ∀ args h r, u1 (c_spec_DrawStreamLeast F g) args h = some r → Tri Go.Proofs.Try.prog id_spec_DrawStreamLeast args h r := quietC_sound (Go.AI.s_spec_DrawStreamLeast 20000 20)
theorem draw_FnStreamLeast (F g : Nat) {a0 : AV} {n : Nat} {L : List AV} {B : Blk} (ha : (a0 = .leaf .nils ∧ n = 0) ∨ a0 = .osl 0 0 n 1) (hB : 0 < n → B = .cells 2 L) (hb : ∀ i, i < n → ∃ v, L[i]? = some (.int 4 (.ofNat v)) ∧ v < 256) :
    ∃ v, v < 12 ∧ c_spec_DrawStreamLeast F g a0 (hCode B) = some (nI v, hCode B) := by
  obtain ⟨b, m, h1, e1, r1, _⟩ := open_ok (F := 20000) (g := 20) (h := hCode B) ha (fun hn => ⟨2, hB hn⟩) hb (Nat.le_refl _) (Nat.le_refl _)
  obtain ⟨v, h2, hv, e2, r2, _, _⟩ := r1.pick (F := 20000) (g := 20) (n := 12) (by omega) (by omega)
  refine ⟨v, by omega, quietC_ok (h' := h2) ?_ rfl r2.lo⟩
  show bindR (Go.AI.c_spec_l6Open 20000 20 a0 (hCode B)) _ = _
  rw [e1, bindR_some', e2, bindR_some']
end
end Go.AI.T
namespace Go.AI.T
open Go Go.RowKit Go.AI
set_option linter.unusedVariables false
set_option linter.unusedSimpArgs false
set_option maxRecDepth 100000
noncomputable section
-- "loop.example/treenumbers/impl.StreamLeast"
noncomputable def c_impl_StreamLeast_l1 (F g : Nat) : List AV → H → (List AV → H → Option R) → Option R := fun vs h kc8 => (fun x9 x10 x11 => aCmpI ilt x11 x10 h fun x12 h => withBool x12 fun t13 => bc t13 (aArith imul (AV.int 3 (Int.ofNat 2)) x9 h fun x14 h => aArith iadd x14 (AV.int 3 (Int.ofNat 1)) h fun x15 h => aArith iadd x11 (AV.int 3 (Int.ofNat 1)) h fun x16 h => kc8 [x15, x10, x16] h) (some (AV.one .tup (AV.cons x9 (AV.cons (AV.bool true) (AV.leaf .nil))), h))) (hd vs) (hd (tl vs)) (hd (tl (tl vs)))
noncomputable def c_impl_StreamLeast_j2 (F g : Nat) (vs : List AV) (h : H) : Option R := (fun x2 x3 x4 => aPick x3 (AV.bool true) x4 h fun x5 h => withBool x5 fun t6 => bc t6 (some (AV.one .tup (AV.cons (AV.int 3 (Int.ofNat 0)) (AV.cons (AV.bool false) (AV.leaf .nil))), h)) (aArith isub x2 (AV.int 3 (Int.ofNat 1)) h fun x7 h => loopD F (c_impl_StreamLeast_l1 F g) [(AV.int 3 (Int.ofNat 1)), x7, (AV.int 3 (Int.ofNat 0))] h)) (hd vs) (hd (tl vs)) (hd (tl (tl vs)))
noncomputable def c_impl_StreamLeast (F g : Nat) (a0 : AV) (h : H) : Option R := aCmpI ilt a0 (AV.int 3 (Int.ofNat 1)) h fun x1 h => guardB false x1 (aCmpI (fun a b => ilt b a) a0 (AV.int 3 (Int.ofNat 10)) h fun x17 h => (c_impl_StreamLeast_j2 F g) [a0, x1, x17] h) ((c_impl_StreamLeast_j2 F g) [a0, x1, (AV.one .tup (AV.leaf .nil))] h)
noncomputable def A_impl_StreamLeast : An := (.two .o (.two (.two (.at_ [0, 7, 9] .o .o) (.two (.two .o .o) .o)) (.two .o (.two (.two .o (.two (.at_ [4, 12, 13] (.two .o (.two (.two .o .o) (.two (.two .o .o) .o))) .o) .o)) (.two .o .o)))))
noncomputable def b_impl_StreamLeast : Code := bodyOf Go.Proofs.Try.f76
theorem k_impl_StreamLeast (F g : Nat) (a0 : AV) (h : H) : callD Go.Proofs.Try.prog (fun _ _ _ => none : Env) 20 F b_impl_StreamLeast [2, 3] A_impl_StreamLeast [a0] h = c_impl_StreamLeast F g a0 h := by kernel_rfl
theorem s_impl_StreamLeast (F g : Nat) : ∀ args h r, u1 (c_impl_StreamLeast F g) args h = some r → Tri Go.Proofs.Try.prog 76 args h r := by
  intro args h r e; obtain ⟨a0, rfl, e1⟩ := u1_some e; exact fn_sound Go.Proofs.Try.func76 rfl rfl rfl Go.Proofs.Try.ntmps76 (Sound.none _) ((k_impl_StreamLeast F g a0 h).trans e1)

-- "loop.example/treenumbers/spec.l6In"
noncomputable def c_spec_l6In_j1 (F g : Nat) (vs : List AV) (h : H) : Option R := (fun x2 x3 => aPick x2 x3 (AV.bool false) h fun x4 h => some (x4, h)) (hd vs) (hd (tl vs))
noncomputable def c_spec_l6In (F g : Nat) (a0 a1 a2 : AV) (h : H) : Option R := aCmpI (fun a b => ile b a) a0 a1 h fun x1 h => guardB true x1 (aCmpI ile a0 a2 h fun x5 h => (c_spec_l6In_j1 F g) [x1, x5] h) ((c_spec_l6In_j1 F g) [x1, (AV.one .tup (AV.leaf .nil))] h)
noncomputable def A_spec_l6In : An := (.two .o (.two (.at_ [10, 13] .o .o) .o))
noncomputable def b_spec_l6In : Code := bodyOf Go.Proofs.Try.f131
theorem k_spec_l6In (F g : Nat) (a0 a1 a2 : AV) (h : H) : callD Go.Proofs.Try.prog (fun _ _ _ => none : Env) 15 F b_spec_l6In [6] A_spec_l6In [a0, a1, a2] h = c_spec_l6In F g a0 a1 a2 h := by kernel_rfl
theorem s_spec_l6In (F g : Nat) : ∀ args h r, u3 (c_spec_l6In F g) args h = some r → Tri Go.Proofs.Try.prog 131 args h r := by
  intro args h r e; obtain ⟨a0, a1, a2, rfl, e1⟩ := u3_some e; exact fn_sound Go.Proofs.Try.func131 rfl rfl rfl Go.Proofs.Try.ntmps131 (Sound.none _) ((k_spec_l6In F g a0 a1 a2 h).trans e1)

-- "loop.example/treenumbers/spec.StreamLeast"
noncomputable def c_spec_StreamLeast (F g : Nat) (a0 : AV) (h : H) : Option R := bindR (c_spec_l6In F g a0 (AV.int 3 (Int.ofNat 1)) (AV.int 3 (Int.ofNat 10)) h) fun x1 h => aNot x1 h fun x2 h => withBool x2 fun t3 => bc t3 (some (AV.one .tup (AV.cons (AV.int 3 (Int.ofNat 0)) (AV.cons (AV.bool false) (AV.leaf .nil))), h)) (aShl (AV.int 3 (Int.ofNat 1)) a0 h fun x4 h => aArith isub x4 (AV.int 3 (Int.ofNat 1)) h fun x5 h => some (AV.one .tup (AV.cons x5 (AV.cons (AV.bool true) (AV.leaf .nil))), h))
noncomputable def A_spec_StreamLeast : An := (.two .o (.two (.two .o (.two (.two .o .o) .o)) (.two .o .o)))
noncomputable def b_spec_StreamLeast : Code := bodyOf Go.Proofs.Try.f83
theorem k_spec_StreamLeast (F g : Nat) (a0 : AV) (h : H) : callD Go.Proofs.Try.prog (Env.add (fun _ _ _ => none : Env) 131 (u3 (c_spec_l6In F g))) 10 F b_spec_StreamLeast [2, 3] A_spec_StreamLeast [a0] h = c_spec_StreamLeast F g a0 h := by kernel_rfl
theorem s_spec_StreamLeast (F g : Nat) : ∀ args h r, u1 (c_spec_StreamLeast F g) args h = some r → Tri Go.Proofs.Try.prog 83 args h r := by
  intro args h r e; obtain ⟨a0, rfl, e1⟩ := u1_some e; exact fn_sound Go.Proofs.Try.func83 rfl rfl rfl Go.Proofs.Try.ntmps83 (Sound.add (Sound.none _) (s_spec_l6In F g)) ((k_spec_StreamLeast F g a0 h).trans e1)

-- "loop.example/treenumbers/laws.FnStreamLeast"
noncomputable def c_laws_FnStreamLeast_j1 (F g : Nat) (vs : List AV) (h : H) : Option R := (fun x30 x31 => aPick x30 x31 (AV.bool false) h fun x32 h => some (x32, h)) (hd vs) (hd (tl vs))
noncomputable def c_laws_FnStreamLeast_j2 (F g : Nat) (vs : List AV) (h : H) : Option R := (fun x46 x47 => aPick x46 (AV.bool true) x47 h fun x48 h => some (x48, h)) (hd vs) (hd (tl vs))
noncomputable def c_laws_FnStreamLeast_j3 (F g : Nat) (vs : List AV) (h : H) : Option R := (fun x43 x44 x45 => guardB false x43 (aPick x44 x45 (AV.bool false) h fun x49 h => (c_laws_FnStreamLeast_j2 F g) [x43, x49] h) ((c_laws_FnStreamLeast_j2 F g) [x43, (AV.one .tup (AV.leaf .nil))] h)) (hd vs) (hd (tl vs)) (hd (tl (tl vs)))
noncomputable def c_laws_FnStreamLeast_j4 (F g : Nat) (vs : List AV) (h : H) : Option R := (fun x39 x40 x41 x42 => guardB true x42 (aArith imul (AV.int 3 (Int.ofNat 2)) x39 h fun x50 h => aArith iadd x50 (AV.int 3 (Int.ofNat 1)) h fun x51 h => aCmpI ieq x40 x51 h fun x52 h => (c_laws_FnStreamLeast_j3 F g) [x41, x42, x52] h) ((c_laws_FnStreamLeast_j3 F g) [x41, x42, (AV.one .tup (AV.leaf .nil))] h)) (hd vs) (hd (tl vs)) (hd (tl (tl vs))) (hd (tl (tl (tl vs))))
noncomputable def c_laws_FnStreamLeast_j5 (F g : Nat) (vs : List AV) (h : H) : Option R := (fun x20 x21 x22 x23 x24 x25 x26 => aPick x25 (AV.bool true) x26 h fun x27 h => withBool x27 fun t28 => bc t28 (aEq false 0 x22 x24 h fun x29 h => guardB true x29 (aCmpI ieq x21 x23 h fun x33 h => (c_laws_FnStreamLeast_j1 F g) [x29, x33] h) ((c_laws_FnStreamLeast_j1 F g) [x29, (AV.one .tup (AV.leaf .nil))] h)) (aArith iadd x20 (AV.int 3 (Int.ofNat 1)) h fun x34 h => bindR (c_impl_StreamLeast F g x34 h) fun x35 h => aExtract x35 0 h fun x36 h => aExtract x35 1 h fun x37 h => aCmpI ieq x20 (AV.int 3 (Int.ofNat 10)) h fun x38 h => guardB false x38 ((c_laws_FnStreamLeast_j4 F g) [x21, x36, x38, x37] h) ((c_laws_FnStreamLeast_j4 F g) [x21, x36, x38, (AV.one .tup (AV.leaf .nil))] h))) (hd vs) (hd (tl vs)) (hd (tl (tl vs))) (hd (tl (tl (tl vs)))) (hd (tl (tl (tl (tl vs))))) (hd (tl (tl (tl (tl (tl vs)))))) (hd (tl (tl (tl (tl (tl (tl vs)))))))
noncomputable def c_laws_FnStreamLeast_j6 (F g : Nat) (vs : List AV) (h : H) : Option R := (fun x12 x13 x14 x15 x16 x17 x18 => aPick x17 (AV.bool true) x18 h fun x19 h => guardB false x19 (aNot x14 h fun x53 h => (c_laws_FnStreamLeast_j5 F g) [x12, x13, x14, x15, x16, x19, x53] h) ((c_laws_FnStreamLeast_j5 F g) [x12, x13, x14, x15, x16, x19, (AV.one .tup (AV.leaf .nil))] h)) (hd vs) (hd (tl vs)) (hd (tl (tl vs))) (hd (tl (tl (tl vs)))) (hd (tl (tl (tl (tl vs))))) (hd (tl (tl (tl (tl (tl vs)))))) (hd (tl (tl (tl (tl (tl (tl vs)))))))
noncomputable def c_laws_FnStreamLeast_r7 (F g : Nat) (x4 : AV) (h : H) : Option R := bindR (c_impl_StreamLeast F g x4 h) fun x5 h => aExtract x5 0 h fun x6 h => aExtract x5 1 h fun x7 h => bindR (c_spec_StreamLeast F g x4 h) fun x8 h => aExtract x8 0 h fun x9 h => aExtract x8 1 h fun x10 h => aEq true 0 x7 x10 h fun x11 h => guardB false x11 (aCmpI (fun a b => bnot (ieq a b)) x6 x9 h fun x54 h => (c_laws_FnStreamLeast_j6 F g) [x4, x6, x7, x9, x10, x11, x54] h) ((c_laws_FnStreamLeast_j6 F g) [x4, x6, x7, x9, x10, x11, (AV.one .tup (AV.leaf .nil))] h)
noncomputable def c_laws_FnStreamLeast (F g : Nat) (a0 : AV) (h : H) : Option R := aLenK 1 a0 h fun x1 h => aCmpI (fun a b => ilt b a) x1 (AV.int 3 (Int.ofNat 1048576)) h fun x2 h => withBool x2 fun t3 => bc t3 (some ((AV.bool true), h)) (bindR (c_spec_DrawStreamLeast F g a0 h) fun x4 h => c_laws_FnStreamLeast_r7 F g x4 h)
noncomputable def A_laws_FnStreamLeast : An := (.two .o (.two (.two .o (.two (.two .o .o) .o)) (.two .o (.two .o (.two .o (.two (.two (.at_ [3, 4, 5, 6, 7, 28, 31] .o (.at_ [3, 4, 5, 6, 7, 33, 35] .o .o)) (.two (.two (.at_ [40, 43] .o .o) .o) .o)) (.two .o (.two (.at_ [4, 8, 53, 55] .o (.at_ [53, 55, 60] .o (.at_ [53, 61] .o .o))) .o))))))))
noncomputable def b_laws_FnStreamLeast : Code := bodyOf Go.Proofs.Try.f20
theorem k_laws_FnStreamLeast (F g : Nat) (a0 : AV) (h : H) : callD Go.Proofs.Try.prog (Env.add (Env.add (Env.add (fun _ _ _ => none : Env) 82 (u1 (c_spec_DrawStreamLeast F g))) 76 (u1 (c_impl_StreamLeast F g))) 83 (u1 (c_spec_StreamLeast F g))) 63 F b_laws_FnStreamLeast [2] A_laws_FnStreamLeast [a0] h = c_laws_FnStreamLeast F g a0 h := by kernel_rfl
theorem s_laws_FnStreamLeast (F g : Nat) : ∀ args h r, u1 (c_laws_FnStreamLeast F g) args h = some r → Tri Go.Proofs.Try.prog 20 args h r := by
  intro args h r e; obtain ⟨a0, rfl, e1⟩ := u1_some e; exact fn_sound Go.Proofs.Try.func20 rfl rfl rfl Go.Proofs.Try.ntmps20 (Sound.add (Sound.add (Sound.add (Sound.none _) (s_spec_DrawStreamLeast F g)) (s_impl_StreamLeast F g)) (s_spec_StreamLeast F g)) ((k_laws_FnStreamLeast F g a0 h).trans e1)

end
end Go.AI.T
