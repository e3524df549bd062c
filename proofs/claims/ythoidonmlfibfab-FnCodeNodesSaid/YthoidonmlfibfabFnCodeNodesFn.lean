/- The functions that the law FnCodeNodes reaches, as the evaluator reads them. -/
import Derived.Test.YthoidonmlfibfabTy
import Derived.Test.YthoidonmlfibfabGiv
import Derived.Test.YthoidonmlfibfabProg
import Derived.KernelRfl
namespace Go.AI.T
open Go Go.RowKit Go.AI
set_option linter.unusedVariables false
set_option linter.unusedSimpArgs false
set_option maxRecDepth 100000
noncomputable section
-- "loop.example/treenumbers/spec.l91Number"
noncomputable def c_spec_l91Number (F g : Nat) (a0 : AV) (h : H) : Option R := bindR (Go.AI.c_spec_l6Open F g a0 h) fun x1 h => bindR (Go.AI.c_spec_l6Rd_pick F g x1 (AV.int 3 (Int.ofNat 200)) h) fun x2 h => aArith iadd (AV.int 3 (Int.ofNat 1)) x2 h fun x3 h => bindR (Go.AI.c_spec_l6Rd_pick F g x1 (AV.int 3 (Int.ofNat 24)) h) fun x4 h => aQuo x4 (AV.int 3 (Int.ofNat 23)) h fun x5 h => bindR (Go.AI.c_spec_l6Rd_pick F g x1 (AV.int 3 (Int.ofNat 250)) h) fun x6 h => aArith imul x5 x6 h fun x7 h => aArith imul x7 (AV.int 3 (Int.ofNat 20)) h fun x8 h => aArith iadd x3 x8 h fun x9 h => bindR (Go.AI.c_spec_l6Rd_pick F g x1 (AV.int 3 (Int.ofNat 24)) h) fun x10 h => aQuo x10 (AV.int 3 (Int.ofNat 23)) h fun x11 h => aArith isub x9 x11 h fun x12 h => some (x12, h)
noncomputable def A_spec_l91Number : An := (.two .o (.two .o (.two .o .o)))
noncomputable def b_spec_l91Number : Code := bodyOf Go.Proofs.Try.f72
theorem k_spec_l91Number (F g : Nat) (a0 : AV) (h : H) : callD Go.Proofs.Try.prog (Env.add (Env.add (fun _ _ _ => none : Env) 51 (u1 (Go.AI.c_spec_l6Open F g))) 52 (u2 (Go.AI.c_spec_l6Rd_pick F g))) 21 F b_spec_l91Number [2] A_spec_l91Number [a0] h = c_spec_l91Number F g a0 h := by kernel_rfl
theorem s_spec_l91Number (F g : Nat) : ∀ args h r, u1 (c_spec_l91Number F g) args h = some r → Tri Go.Proofs.Try.prog 72 args h r := by
  intro args h r e; obtain ⟨a0, rfl, e1⟩ := u1_some e; exact fn_sound Go.Proofs.Try.func72 rfl rfl rfl Go.Proofs.Try.ntmps72 (Sound.add (Sound.add (Sound.none _) (Go.AI.s_spec_l6Open F g)) (Go.AI.s_spec_l6Rd_pick F g)) ((k_spec_l91Number F g a0 h).trans e1)

-- "loop.example/treenumbers/spec.DrawCodeNodes"
noncomputable def c_raw_spec_DrawCodeNodes (F g : Nat) (a0 : AV) (h : H) : Option R := bindR (c_spec_l91Number F g a0 h) fun x1 h => some (x1, h)
noncomputable def A_raw_spec_DrawCodeNodes : An := (.two .o (.two .o .o))
noncomputable def b_raw_spec_DrawCodeNodes : Code := bodyOf Go.Proofs.Try.f42
theorem k_raw_spec_DrawCodeNodes (F g : Nat) (a0 : AV) (h : H) : callD Go.Proofs.Try.prog (Env.add (fun _ _ _ => none : Env) 72 (u1 (c_spec_l91Number F g))) 5 F b_raw_spec_DrawCodeNodes [2] A_raw_spec_DrawCodeNodes [a0] h = c_raw_spec_DrawCodeNodes F g a0 h := by kernel_rfl
theorem s_raw_spec_DrawCodeNodes (F g : Nat) : ∀ args h r, u1 (c_raw_spec_DrawCodeNodes F g) args h = some r → Tri Go.Proofs.Try.prog 42 args h r := by
  intro args h r e; obtain ⟨a0, rfl, e1⟩ := u1_some e; exact fn_sound Go.Proofs.Try.func42 rfl rfl rfl Go.Proofs.Try.ntmps42 (Sound.add (Sound.none _) (s_spec_l91Number F g)) ((k_raw_spec_DrawCodeNodes F g a0 h).trans e1)

end
end Go.AI.T
namespace Go.AI.T
open Go Go.RowKit Go.AI
set_option linter.unusedVariables false
set_option linter.unusedSimpArgs false
set_option maxRecDepth 100000
noncomputable section
/-- Does it hold of all numbers less than n? -/
def allB (f : Nat → Bool) (n : Nat) : Bool := @Nat.rec (fun _ => Bool) true (fun k r => bc (f k) r false) n
theorem allB_spec (f : Nat → Bool) : ∀ n, allB f n = true → ∀ v, v < n → f v = true
  | 0, _, v, hv => by omega
  | n + 1, h, v, hv => by
    have h : bc (f n) (allB f n) false = true := h
    cases hf : f n with
    | false => rw [hf] at h; cases h
    | true =>
      rw [hf, bc_true] at h
      by_cases hn : v = n
      · subst hn; exact hf
      · exact allB_spec f n h v (by omega)
def c_spec_DrawCodeNodes (F g : Nat) (a0 : AV) (h : H) : Option R := quietC (c_raw_spec_DrawCodeNodes 20000 20) a0 h
theorem s_spec_DrawCodeNodes (F g : Nat) : ∀ args h r, u1 (c_spec_DrawCodeNodes F g) args h = some r → Tri Go.Proofs.Try.prog id_spec_DrawCodeNodes args h r := quietC_sound (s_raw_spec_DrawCodeNodes 20000 20)
theorem draw_FnCodeNodes (F g : Nat) {a0 : AV} {n : Nat} {L : List AV} {B : Blk} (ha : (a0 = .leaf .nils ∧ n = 0) ∨ a0 = .osl 0 0 n 1) (hB : 0 < n → B = .cells 2 L) (hb : ∀ i, i < n → ∃ v, L[i]? = some (.int 4 (.ofNat v)) ∧ v < 256) :
    ∃ v, v < 5181 ∧ c_spec_DrawCodeNodes F g a0 (hCode B) = some (nI v, hCode B) := by
  obtain ⟨b, m, h1, e1, r1, _⟩ := open_ok (F := 20000) (g := 20) (h := hCode B) ha (fun hn => ⟨2, hB hn⟩) hb (Nat.le_refl _) (Nat.le_refl _)
  obtain ⟨v, h2, hv, e2, r2, _, _⟩ := r1.pick (F := 20000) (g := 20) (n := 200) (by omega) (by omega)
  obtain ⟨u, h3, hu, e3, r3, _, _⟩ := r2.pick (F := 20000) (g := 20) (n := 24) (by omega) (by omega)
  obtain ⟨x, h4, hx, e4, r4, _, _⟩ := r3.pick (F := 20000) (g := 20) (n := 250) (by omega) (by omega)
  obtain ⟨y, h5, hy, e5, r5, _, _⟩ := r4.pick (F := 20000) (g := 20) (n := 24) (by omega) (by omega)
  obtain ⟨a, hA⟩ : ∃ a, u / 23 = a := ⟨_, rfl⟩
  obtain ⟨c, hC⟩ : ∃ c, y / 23 = c := ⟨_, rfl⟩
  have ha1 : a ≤ 1 := by omega
  have hc1 : c ≤ 1 := by omega
  have hax : a * x ≤ 249 := by
    rcases Nat.eq_zero_or_pos a with h | h
    · subst h; simp
    · obtain rfl : a = 1 := by omega
      omega
  refine ⟨1 + v + a * x * 20 - c, by omega, quietC_ok (h' := h5) ?_ rfl r5.lo⟩
  delta c_raw_spec_DrawCodeNodes Go.AI.T.c_spec_l91Number
  rw [show (hCode B).mark = hCode B from rfl, e1, bindR_some', e2, bindR_some', show AV.int 3 (Int.ofNat 1) = nI 1 from rfl, addN (by omega), e3, bindR_some', show AV.int 3 (Int.ofNat 23) = nI 23 from rfl, quoN (by omega) (by omega), hA, e4, bindR_some', mulN (by omega), show AV.int 3 (Int.ofNat 20) = nI 20 from rfl, mulN (by omega), addN (by omega), e5, bindR_some', quoN (by omega) (by omega), hC, subN (by omega) (by omega), bindR_some']
end
end Go.AI.T
namespace Go.AI.T
open Go Go.RowKit Go.AI
set_option linter.unusedVariables false
set_option linter.unusedSimpArgs false
set_option maxRecDepth 100000
noncomputable section
-- "loop.example/treenumbers/impl.isCode"
noncomputable def c_impl_isCode_j1 (F g : Nat) (vs : List AV) (h : H) : Option R := (fun x2 x3 => aPick x2 x3 (AV.bool false) h fun x4 h => some (x4, h)) (hd vs) (hd (tl vs))
noncomputable def c_impl_isCode (F g : Nat) (a0 : AV) (h : H) : Option R := aCmpI (fun a b => ile b a) a0 (AV.int 3 (Int.ofNat 1)) h fun x1 h => guardB true x1 (aCmpI ile a0 (AV.int 3 (Int.ofNat 5000)) h fun x5 h => (c_impl_isCode_j1 F g) [x1, x5] h) ((c_impl_isCode_j1 F g) [x1, (AV.one .tup (AV.leaf .nil))] h)
noncomputable def A_impl_isCode : An := (.two .o (.two (.at_ [5, 7] .o .o) .o))
noncomputable def b_impl_isCode : Code := bodyOf Go.Proofs.Try.f70
theorem k_impl_isCode (F g : Nat) (a0 : AV) (h : H) : callD Go.Proofs.Try.prog (fun _ _ _ => none : Env) 9 F b_impl_isCode [2] A_impl_isCode [a0] h = c_impl_isCode F g a0 h := by kernel_rfl
theorem s_impl_isCode (F g : Nat) : ∀ args h r, u1 (c_impl_isCode F g) args h = some r → Tri Go.Proofs.Try.prog 70 args h r := by
  intro args h r e; obtain ⟨a0, rfl, e1⟩ := u1_some e; exact fn_sound Go.Proofs.Try.func70 rfl rfl rfl Go.Proofs.Try.ntmps70 (Sound.none _) ((k_impl_isCode F g a0 h).trans e1)

-- "loop.example/treenumbers/impl.CodeNodes"
noncomputable def c_impl_CodeNodes (F g : Nat) (a0 : AV) (h : H) : Option R := bindR (c_impl_isCode F g a0 h) fun x1 h => aNot x1 h fun x2 h => withBool x2 fun t3 => bc t3 (some (AV.one .tup (AV.cons (AV.int 3 (Int.ofNat 0)) (AV.cons (AV.bool false) (AV.leaf .nil))), h)) (bindR (c_impl_codeText F g a0 h) fun x4 h => aLenK 0 x4 h fun x5 h => aQuo x5 (AV.int 3 (Int.ofNat 2)) h fun x6 h => some (AV.one .tup (AV.cons x6 (AV.cons (AV.bool true) (AV.leaf .nil))), h))
noncomputable def A_impl_CodeNodes : An := (.two .o (.two (.two .o (.two (.two .o .o) .o)) (.two .o .o)))
noncomputable def b_impl_CodeNodes : Code := bodyOf Go.Proofs.Try.f32
theorem k_impl_CodeNodes (F g : Nat) (a0 : AV) (h : H) : callD Go.Proofs.Try.prog (Env.add (Env.add (fun _ _ _ => none : Env) 70 (u1 (c_impl_isCode F g))) 71 (u1 (c_impl_codeText F g))) 11 F b_impl_CodeNodes [2, 3] A_impl_CodeNodes [a0] h = c_impl_CodeNodes F g a0 h := by kernel_rfl
theorem s_impl_CodeNodes (F g : Nat) : ∀ args h r, u1 (c_impl_CodeNodes F g) args h = some r → Tri Go.Proofs.Try.prog 32 args h r := by
  intro args h r e; obtain ⟨a0, rfl, e1⟩ := u1_some e; exact fn_sound Go.Proofs.Try.func32 rfl rfl rfl Go.Proofs.Try.ntmps32 (Sound.add (Sound.add (Sound.none _) (s_impl_isCode F g)) (s_impl_codeText F g)) ((k_impl_CodeNodes F g a0 h).trans e1)

-- "loop.example/treenumbers/spec.l6In"
noncomputable def c_spec_l6In_j1 (F g : Nat) (vs : List AV) (h : H) : Option R := (fun x2 x3 => aPick x2 x3 (AV.bool false) h fun x4 h => some (x4, h)) (hd vs) (hd (tl vs))
noncomputable def c_spec_l6In (F g : Nat) (a0 a1 a2 : AV) (h : H) : Option R := aCmpI (fun a b => ile b a) a0 a1 h fun x1 h => guardB true x1 (aCmpI ile a0 a2 h fun x5 h => (c_spec_l6In_j1 F g) [x1, x5] h) ((c_spec_l6In_j1 F g) [x1, (AV.one .tup (AV.leaf .nil))] h)
noncomputable def A_spec_l6In : An := (.two .o (.two (.at_ [10, 13] .o .o) .o))
noncomputable def b_spec_l6In : Code := bodyOf Go.Proofs.Try.f54
theorem k_spec_l6In (F g : Nat) (a0 a1 a2 : AV) (h : H) : callD Go.Proofs.Try.prog (fun _ _ _ => none : Env) 15 F b_spec_l6In [6] A_spec_l6In [a0, a1, a2] h = c_spec_l6In F g a0 a1 a2 h := by kernel_rfl
theorem s_spec_l6In (F g : Nat) : ∀ args h r, u3 (c_spec_l6In F g) args h = some r → Tri Go.Proofs.Try.prog 54 args h r := by
  intro args h r e; obtain ⟨a0, a1, a2, rfl, e1⟩ := u3_some e; exact fn_sound Go.Proofs.Try.func54 rfl rfl rfl Go.Proofs.Try.ntmps54 (Sound.none _) ((k_spec_l6In F g a0 a1 a2 h).trans e1)

-- "loop.example/treenumbers/spec.CodeNodes"
noncomputable def c_spec_CodeNodes (F g : Nat) (a0 : AV) (h : H) : Option R := bindR (c_spec_l6In F g a0 (AV.int 3 (Int.ofNat 1)) (AV.int 3 (Int.ofNat 5000)) h) fun x1 h => aNot x1 h fun x2 h => withBool x2 fun t3 => bc t3 (some (AV.one .tup (AV.cons (AV.int 3 (Int.ofNat 0)) (AV.cons (AV.bool false) (AV.leaf .nil))), h)) (bindR (c_spec_l2Tree F g a0 h) fun x4 h => aLenK 0 x4 h fun x5 h => aQuo x5 (AV.int 3 (Int.ofNat 2)) h fun x6 h => some (AV.one .tup (AV.cons x6 (AV.cons (AV.bool true) (AV.leaf .nil))), h))
noncomputable def A_spec_CodeNodes : An := (.two .o (.two (.two .o (.two (.two .o .o) .o)) (.two .o .o)))
noncomputable def b_spec_CodeNodes : Code := bodyOf Go.Proofs.Try.f43
theorem k_spec_CodeNodes (F g : Nat) (a0 : AV) (h : H) : callD Go.Proofs.Try.prog (Env.add (Env.add (fun _ _ _ => none : Env) 54 (u3 (c_spec_l6In F g))) 75 (u1 (c_spec_l2Tree F g))) 11 F b_spec_CodeNodes [2, 3] A_spec_CodeNodes [a0] h = c_spec_CodeNodes F g a0 h := by kernel_rfl
theorem s_spec_CodeNodes (F g : Nat) : ∀ args h r, u1 (c_spec_CodeNodes F g) args h = some r → Tri Go.Proofs.Try.prog 43 args h r := by
  intro args h r e; obtain ⟨a0, rfl, e1⟩ := u1_some e; exact fn_sound Go.Proofs.Try.func43 rfl rfl rfl Go.Proofs.Try.ntmps43 (Sound.add (Sound.add (Sound.none _) (s_spec_l6In F g)) (s_spec_l2Tree F g)) ((k_spec_CodeNodes F g a0 h).trans e1)

-- "loop.example/treenumbers/laws.FnCodeNodes"
noncomputable def c_laws_FnCodeNodes_j1 (F g : Nat) (vs : List AV) (h : H) : Option R := (fun x30 x31 => aPick x30 x31 (AV.bool false) h fun x32 h => some (x32, h)) (hd vs) (hd (tl vs))
noncomputable def c_laws_FnCodeNodes_j2 (F g : Nat) (vs : List AV) (h : H) : Option R := (fun x47 x48 => aPick x47 (AV.bool true) x48 h fun x49 h => some (x49, h)) (hd vs) (hd (tl vs))
noncomputable def c_laws_FnCodeNodes_j3 (F g : Nat) (vs : List AV) (h : H) : Option R := (fun x44 x45 x46 => guardB false x44 (aPick x45 x46 (AV.bool false) h fun x50 h => (c_laws_FnCodeNodes_j2 F g) [x44, x50] h) ((c_laws_FnCodeNodes_j2 F g) [x44, (AV.one .tup (AV.leaf .nil))] h)) (hd vs) (hd (tl vs)) (hd (tl (tl vs)))
noncomputable def c_laws_FnCodeNodes_j4 (F g : Nat) (vs : List AV) (h : H) : Option R := (fun x40 x41 x42 x43 => guardB true x43 (aArith iadd x40 (AV.int 3 (Int.ofNat 1)) h fun x51 h => aCmpI ieq x41 x51 h fun x52 h => (c_laws_FnCodeNodes_j3 F g) [x42, x43, x52] h) ((c_laws_FnCodeNodes_j3 F g) [x42, x43, (AV.one .tup (AV.leaf .nil))] h)) (hd vs) (hd (tl vs)) (hd (tl (tl vs))) (hd (tl (tl (tl vs))))
noncomputable def c_laws_FnCodeNodes_j5 (F g : Nat) (vs : List AV) (h : H) : Option R := (fun x20 x21 x22 x23 x24 x25 x26 => aPick x25 (AV.bool true) x26 h fun x27 h => withBool x27 fun t28 => bc t28 (aEq false 0 x22 x24 h fun x29 h => guardB true x29 (aCmpI ieq x21 x23 h fun x33 h => (c_laws_FnCodeNodes_j1 F g) [x29, x33] h) ((c_laws_FnCodeNodes_j1 F g) [x29, (AV.one .tup (AV.leaf .nil))] h)) (aArith imul (AV.int 3 (Int.ofNat 2)) x20 h fun x34 h => bindR (c_impl_CodeNodes F g x34 h) fun x35 h => aExtract x35 0 h fun x36 h => aExtract x35 1 h fun x37 h => aArith imul (AV.int 3 (Int.ofNat 2)) x20 h fun x38 h => aCmpI (fun a b => ilt b a) x38 (AV.int 3 (Int.ofNat 5000)) h fun x39 h => guardB false x39 ((c_laws_FnCodeNodes_j4 F g) [x21, x36, x39, x37] h) ((c_laws_FnCodeNodes_j4 F g) [x21, x36, x39, (AV.one .tup (AV.leaf .nil))] h))) (hd vs) (hd (tl vs)) (hd (tl (tl vs))) (hd (tl (tl (tl vs)))) (hd (tl (tl (tl (tl vs))))) (hd (tl (tl (tl (tl (tl vs)))))) (hd (tl (tl (tl (tl (tl (tl vs)))))))
noncomputable def c_laws_FnCodeNodes_j6 (F g : Nat) (vs : List AV) (h : H) : Option R := (fun x12 x13 x14 x15 x16 x17 x18 => aPick x17 (AV.bool true) x18 h fun x19 h => guardB false x19 (aNot x14 h fun x53 h => (c_laws_FnCodeNodes_j5 F g) [x12, x13, x14, x15, x16, x19, x53] h) ((c_laws_FnCodeNodes_j5 F g) [x12, x13, x14, x15, x16, x19, (AV.one .tup (AV.leaf .nil))] h)) (hd vs) (hd (tl vs)) (hd (tl (tl vs))) (hd (tl (tl (tl vs)))) (hd (tl (tl (tl (tl vs))))) (hd (tl (tl (tl (tl (tl vs)))))) (hd (tl (tl (tl (tl (tl (tl vs)))))))
noncomputable def c_laws_FnCodeNodes_r7 (F g : Nat) (x4 : AV) (h : H) : Option R := bindR (c_impl_CodeNodes F g x4 h) fun x5 h => aExtract x5 0 h fun x6 h => aExtract x5 1 h fun x7 h => bindR (c_spec_CodeNodes F g x4 h) fun x8 h => aExtract x8 0 h fun x9 h => aExtract x8 1 h fun x10 h => aEq true 0 x7 x10 h fun x11 h => guardB false x11 (aCmpI (fun a b => bnot (ieq a b)) x6 x9 h fun x54 h => (c_laws_FnCodeNodes_j6 F g) [x4, x6, x7, x9, x10, x11, x54] h) ((c_laws_FnCodeNodes_j6 F g) [x4, x6, x7, x9, x10, x11, (AV.one .tup (AV.leaf .nil))] h)
noncomputable def c_laws_FnCodeNodes (F g : Nat) (a0 : AV) (h : H) : Option R := aLenK 1 a0 h fun x1 h => aCmpI (fun a b => ilt b a) x1 (AV.int 3 (Int.ofNat 1048576)) h fun x2 h => withBool x2 fun t3 => bc t3 (some ((AV.bool true), h)) (bindR (c_spec_DrawCodeNodes F g a0 h) fun x4 h => c_laws_FnCodeNodes_r7 F g x4 h)
noncomputable def A_laws_FnCodeNodes : An := (.two .o (.two (.two .o (.two (.two .o .o) .o)) (.two .o (.two .o (.two .o (.two (.two (.at_ [3, 4, 5, 6, 7, 28, 31] .o (.at_ [3, 4, 5, 6, 7, 33, 35] .o .o)) (.two (.two (.at_ [40, 43] .o .o) .o) .o)) (.two .o (.two (.at_ [4, 8, 54, 56] .o (.at_ [54, 56, 60] .o (.at_ [54, 61] .o .o))) .o))))))))
noncomputable def b_laws_FnCodeNodes : Code := bodyOf Go.Proofs.Try.f11
theorem k_laws_FnCodeNodes (F g : Nat) (a0 : AV) (h : H) : callD Go.Proofs.Try.prog (Env.add (Env.add (Env.add (fun _ _ _ => none : Env) 42 (u1 (c_spec_DrawCodeNodes F g))) 32 (u1 (c_impl_CodeNodes F g))) 43 (u1 (c_spec_CodeNodes F g))) 63 F b_laws_FnCodeNodes [2] A_laws_FnCodeNodes [a0] h = c_laws_FnCodeNodes F g a0 h := by kernel_rfl
theorem s_laws_FnCodeNodes (F g : Nat) : ∀ args h r, u1 (c_laws_FnCodeNodes F g) args h = some r → Tri Go.Proofs.Try.prog 11 args h r := by
  intro args h r e; obtain ⟨a0, rfl, e1⟩ := u1_some e; exact fn_sound Go.Proofs.Try.func11 rfl rfl rfl Go.Proofs.Try.ntmps11 (Sound.add (Sound.add (Sound.add (Sound.none _) (s_spec_DrawCodeNodes F g)) (s_impl_CodeNodes F g)) (s_spec_CodeNodes F g)) ((k_laws_FnCodeNodes F g a0 h).trans e1)

end
end Go.AI.T
