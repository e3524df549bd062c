/- The functions that the law FnPrime reaches, as the evaluator reads them. -/
import Derived.Test.YtlcmolcajoeagaaPr4
import Derived.Test.YtlcmolcajoeagaaProg
import Derived.KernelRfl
namespace Go.AI.T
open Go Go.RowKit Go.AI
set_option linter.unusedVariables false
set_option linter.unusedSimpArgs false
set_option maxRecDepth 100000
noncomputable section
-- "loop.example/treenumbers/spec.DrawCodePrime"
noncomputable def c_raw_spec_DrawCodePrime (F g : Nat) (a0 : AV) (h : H) : Option R := bindR (Go.AI.c_spec_l6Open F g a0 h) fun x1 h => bindR (Go.AI.c_spec_l6Rd_pick F g x1 (AV.int 3 (Int.ofNat 100)) h) fun x2 h => bindR (Go.AI.c_spec_l6Rd_pick F g x1 (AV.int 3 (Int.ofNat 24)) h) fun x3 h => aQuo x3 (AV.int 3 (Int.ofNat 23)) h fun x4 h => aArith imul x4 (AV.int 3 (Int.ofNat 600)) h fun x5 h => aArith iadd x2 x5 h fun x6 h => some (x6, h)
noncomputable def A_raw_spec_DrawCodePrime : An := (.two .o (.two .o (.two .o .o)))
noncomputable def b_raw_spec_DrawCodePrime : Code := bodyOf Go.Proofs.Try.f23
theorem k_raw_spec_DrawCodePrime (F g : Nat) (a0 : AV) (h : H) : callD Go.Proofs.Try.prog (Env.add (Env.add (fun _ _ _ => none : Env) 66 (u1 (Go.AI.c_spec_l6Open F g))) 76 (u2 (Go.AI.c_spec_l6Rd_pick F g))) 13 F b_raw_spec_DrawCodePrime [2] A_raw_spec_DrawCodePrime [a0] h = c_raw_spec_DrawCodePrime F g a0 h := by kernel_rfl
theorem s_raw_spec_DrawCodePrime (F g : Nat) : ∀ args h r, u1 (c_raw_spec_DrawCodePrime F g) args h = some r → Tri Go.Proofs.Try.prog 23 args h r := by
  intro args h r e; obtain ⟨a0, rfl, e1⟩ := u1_some e; exact fn_sound Go.Proofs.Try.func23 rfl rfl rfl Go.Proofs.Try.ntmps23 (Sound.add (Sound.add (Sound.none _) (Go.AI.s_spec_l6Open F g)) (Go.AI.s_spec_l6Rd_pick F g)) ((k_raw_spec_DrawCodePrime F g a0 h).trans e1)

end
end Go.AI.T
namespace Go.AI.T
open Go Go.RowKit Go.AI
set_option linter.unusedVariables false
set_option linter.unusedSimpArgs false
set_option maxRecDepth 100000
noncomputable section
/-- Does it hold of all numbers less than n? -/
def allB (f : Nat → Bool) (n : Nat) : Bool := @Nat.rec (fun _ => Bool) true (fun k r => bc (f k) r false) n
theorem allB_spec (f : Nat → Bool) : ∀ n, allB f n = true → ∀ v, v < n → f v = true
  | 0, _, v, hv => by omega
  | n + 1, h, v, hv => by
    have h : bc (f n) (allB f n) false = true := h
    cases hf : f n with
    | false => rw [hf] at h; cases h
    | true =>
      rw [hf, bc_true] at h
      by_cases hn : v = n
      · subst hn; exact hf
      · exact allB_spec f n h v (by omega)
def c_spec_DrawCodePrime (F g : Nat) (a0 : AV) (h : H) : Option R := quietC (c_raw_spec_DrawCodePrime 20000 20) a0 h
theorem s_spec_DrawCodePrime (F g : Nat) : ∀ args h r, u1 (c_spec_DrawCodePrime F g) args h = some r → Tri Go.Proofs.Try.prog id_spec_DrawCodePrime args h r := quietC_sound (s_raw_spec_DrawCodePrime 20000 20)
theorem draw_FnPrime (F g : Nat) {a0 : AV} {n : Nat} {L : List AV} {B : Blk} (ha : (a0 = .leaf .nils ∧ n = 0) ∨ a0 = .osl 0 0 n 1) (hB : 0 < n → B = .cells 2 L) (hb : ∀ i, i < n → ∃ v, L[i]? = some (.int 4 (.ofNat v)) ∧ v < 256) :
    ∃ v, v < 700 ∧ c_spec_DrawCodePrime F g a0 (hCode B) = some (nI v, hCode B) := by
  obtain ⟨b, m, h1, e1, r1, _⟩ := open_ok (F := 20000) (g := 20) (h := hCode B) ha (fun hn => ⟨2, hB hn⟩) hb (Nat.le_refl _) (Nat.le_refl _)
  obtain ⟨v, h2, hv, e2, r2, _, _⟩ := r1.pick (F := 20000) (g := 20) (n := 100) (by omega) (by omega)
  obtain ⟨u, h3, hu, e3, r3, _, _⟩ := r2.pick (F := 20000) (g := 20) (n := 24) (by omega) (by omega)
  have hq : u / 23 ≤ 1 := by omega
  refine ⟨v + u / 23 * 600, by omega, quietC_ok (h' := h3) ?_ rfl r3.lo⟩
  delta c_raw_spec_DrawCodePrime
  rw [show (hCode B).mark = hCode B from rfl, e1, bindR_some', e2, bindR_some', e3, bindR_some', show AV.int 3 (Int.ofNat 23) = nI 23 from rfl, quoN (by omega) (by omega), show AV.int 3 (Int.ofNat 600) = nI 600 from rfl, mulN (by omega), addN (by omega)]
end
end Go.AI.T
namespace Go.AI.T
open Go Go.RowKit Go.AI
set_option linter.unusedVariables false
set_option linter.unusedSimpArgs false
set_option maxRecDepth 100000
noncomputable section
-- "loop.example/treenumbers/spec.CodePrime"
noncomputable def c_spec_CodePrime (F g : Nat) (a0 : AV) (h : H) : Option R := aCmpI ilt a0 (AV.int 3 (Int.ofNat 1)) h fun x1 h => withBool x1 fun t2 => bc t2 (some (AV.one .tup (AV.cons (AV.int 3 (Int.ofNat 0)) (AV.cons (AV.bool false) (AV.leaf .nil))), h)) (bindR (c_spec_l2At F g a0 h) fun x3 h => aCmpI (fun a b => ilt b a) x3 (AV.int 3 (Int.ofNat 0)) h fun x4 h => some (AV.one .tup (AV.cons x3 (AV.cons x4 (AV.leaf .nil))), h))
noncomputable def A_spec_CodePrime : An := (.two .o (.two (.two .o (.two (.two .o .o) .o)) (.two .o (.two .o .o))))
noncomputable def b_spec_CodePrime : Code := bodyOf Go.Proofs.Try.f25
theorem k_spec_CodePrime (F g : Nat) (a0 : AV) (h : H) : callD Go.Proofs.Try.prog (Env.add (fun _ _ _ => none : Env) 78 (u1 (c_spec_l2At F g))) 12 F b_spec_CodePrime [2, 3] A_spec_CodePrime [a0] h = c_spec_CodePrime F g a0 h := by kernel_rfl
theorem s_spec_CodePrime (F g : Nat) : ∀ args h r, u1 (c_spec_CodePrime F g) args h = some r → Tri Go.Proofs.Try.prog 25 args h r := by
  intro args h r e; obtain ⟨a0, rfl, e1⟩ := u1_some e; exact fn_sound Go.Proofs.Try.func25 rfl rfl rfl Go.Proofs.Try.ntmps25 (Sound.add (Sound.none _) (s_spec_l2At F g)) ((k_spec_CodePrime F g a0 h).trans e1)

-- "loop.example/treenumbers/laws.FnPrime"
noncomputable def c_laws_FnPrime_j1 (F g : Nat) (vs : List AV) (h : H) : Option R := (fun x30 x31 => aPick x30 x31 (AV.bool false) h fun x32 h => some (x32, h)) (hd vs) (hd (tl vs))
noncomputable def c_laws_FnPrime_j2 (F g : Nat) (vs : List AV) (h : H) : Option R := (fun x42 x43 => aPick x42 x43 (AV.bool false) h fun x44 h => some (x44, h)) (hd vs) (hd (tl vs))
noncomputable def c_laws_FnPrime_j3 (F g : Nat) (vs : List AV) (h : H) : Option R := (fun x37 x38 x39 x40 => aPick x39 x40 (AV.bool false) h fun x41 h => guardB true x41 (aCmpI (fun a b => ilt b a) x38 x37 h fun x45 h => (c_laws_FnPrime_j2 F g) [x41, x45] h) ((c_laws_FnPrime_j2 F g) [x41, (AV.one .tup (AV.leaf .nil))] h)) (hd vs) (hd (tl vs)) (hd (tl (tl vs))) (hd (tl (tl (tl vs))))
noncomputable def c_laws_FnPrime_j4 (F g : Nat) (vs : List AV) (h : H) : Option R := (fun x20 x21 x22 x23 x24 x25 x26 => aPick x25 (AV.bool true) x26 h fun x27 h => withBool x27 fun t28 => bc t28 (aEq false 0 x22 x24 h fun x29 h => guardB true x29 (aCmpI ieq x21 x23 h fun x33 h => (c_laws_FnPrime_j1 F g) [x29, x33] h) ((c_laws_FnPrime_j1 F g) [x29, (AV.one .tup (AV.leaf .nil))] h)) (bindR (c_impl_CodePlace F g x21 h) fun x34 h => aExtract x34 0 h fun x35 h => aExtract x34 1 h fun x36 h => guardB true x36 (aCmpI ieq x35 x20 h fun x46 h => (c_laws_FnPrime_j3 F g) [x20, x21, x36, x46] h) ((c_laws_FnPrime_j3 F g) [x20, x21, x36, (AV.one .tup (AV.leaf .nil))] h))) (hd vs) (hd (tl vs)) (hd (tl (tl vs))) (hd (tl (tl (tl vs)))) (hd (tl (tl (tl (tl vs))))) (hd (tl (tl (tl (tl (tl vs)))))) (hd (tl (tl (tl (tl (tl (tl vs)))))))
noncomputable def c_laws_FnPrime_j5 (F g : Nat) (vs : List AV) (h : H) : Option R := (fun x12 x13 x14 x15 x16 x17 x18 => aPick x17 (AV.bool true) x18 h fun x19 h => guardB false x19 (aNot x14 h fun x47 h => (c_laws_FnPrime_j4 F g) [x12, x13, x14, x15, x16, x19, x47] h) ((c_laws_FnPrime_j4 F g) [x12, x13, x14, x15, x16, x19, (AV.one .tup (AV.leaf .nil))] h)) (hd vs) (hd (tl vs)) (hd (tl (tl vs))) (hd (tl (tl (tl vs)))) (hd (tl (tl (tl (tl vs))))) (hd (tl (tl (tl (tl (tl vs)))))) (hd (tl (tl (tl (tl (tl (tl vs)))))))
noncomputable def c_laws_FnPrime_r6 (F g : Nat) (x4 : AV) (h : H) : Option R := bindR (c_impl_CodePrime F g x4 h) fun x5 h => aExtract x5 0 h fun x6 h => aExtract x5 1 h fun x7 h => bindR (c_spec_CodePrime F g x4 h) fun x8 h => aExtract x8 0 h fun x9 h => aExtract x8 1 h fun x10 h => aEq true 0 x7 x10 h fun x11 h => guardB false x11 (aCmpI (fun a b => bnot (ieq a b)) x6 x9 h fun x48 h => (c_laws_FnPrime_j5 F g) [x4, x6, x7, x9, x10, x11, x48] h) ((c_laws_FnPrime_j5 F g) [x4, x6, x7, x9, x10, x11, (AV.one .tup (AV.leaf .nil))] h)
noncomputable def c_laws_FnPrime (F g : Nat) (a0 : AV) (h : H) : Option R := aLenK 1 a0 h fun x1 h => aCmpI (fun a b => ilt b a) x1 (AV.int 3 (Int.ofNat 1048576)) h fun x2 h => withBool x2 fun t3 => bc t3 (some ((AV.bool true), h)) (bindR (c_spec_DrawCodePrime F g a0 h) fun x4 h => c_laws_FnPrime_r6 F g x4 h)
noncomputable def A_laws_FnPrime : An := (.two .o (.two (.two .o (.two (.two .o .o) .o)) (.two .o (.two .o (.two .o (.two (.two (.at_ [3, 4, 5, 6, 7, 28, 31] .o (.at_ [3, 4, 5, 6, 7, 33, 35] .o .o)) (.two (.two (.at_ [40, 43] .o .o) .o) .o)) (.two .o (.two (.at_ [3, 4, 51, 54] .o (.at_ [56, 59] .o .o)) .o))))))))
noncomputable def b_laws_FnPrime : Code := bodyOf Go.Proofs.Try.f4
theorem k_laws_FnPrime (F g : Nat) (a0 : AV) (h : H) : callD Go.Proofs.Try.prog (Env.add (Env.add (Env.add (Env.add (fun _ _ _ => none : Env) 23 (u1 (c_spec_DrawCodePrime F g))) 24 (u1 (c_impl_CodePrime F g))) 25 (u1 (c_spec_CodePrime F g))) 26 (u1 (c_impl_CodePlace F g))) 61 F b_laws_FnPrime [2] A_laws_FnPrime [a0] h = c_laws_FnPrime F g a0 h := by kernel_rfl
theorem s_laws_FnPrime (F g : Nat) : ∀ args h r, u1 (c_laws_FnPrime F g) args h = some r → Tri Go.Proofs.Try.prog 4 args h r := by
  intro args h r e; obtain ⟨a0, rfl, e1⟩ := u1_some e; exact fn_sound Go.Proofs.Try.func4 rfl rfl rfl Go.Proofs.Try.ntmps4 (Sound.add (Sound.add (Sound.add (Sound.add (Sound.none _) (s_spec_DrawCodePrime F g)) (s_impl_CodePrime F g)) (s_spec_CodePrime F g)) (s_impl_CodePlace F g)) ((k_laws_FnPrime F g a0 h).trans e1)

end
end Go.AI.T
