/- The functions that the law FnLevelsAll reaches, as the evaluator reads them. -/
import Derived.Test.YthoidonmlfibfabLvGiv
import Derived.Test.YthoidonmlfibfabProg
import Derived.KernelRfl
namespace Go.AI.T
open Go Go.RowKit Go.AI
set_option linter.unusedVariables false
set_option linter.unusedSimpArgs false
set_option maxRecDepth 100000
noncomputable section
-- "loop.example/treenumbers/spec.DrawLevelsAll"
noncomputable def c_raw_spec_DrawLevelsAll (F g : Nat) (a0 : AV) (h : H) : Option R := bindR (Go.AI.c_spec_l6Open F g a0 h) fun x1 h => bindR (Go.AI.c_spec_l6Rd_pick F g x1 (AV.int 3 (Int.ofNat 8)) h) fun x2 h => bindR (Go.AI.c_spec_l6Rd_pick F g x1 (AV.int 3 (Int.ofNat 24)) h) fun x3 h => aQuo x3 (AV.int 3 (Int.ofNat 23)) h fun x4 h => aArith imul x4 (AV.int 3 (Int.ofNat 2)) h fun x5 h => aArith iadd x2 x5 h fun x6 h => some (x6, h)
noncomputable def A_raw_spec_DrawLevelsAll : An := (.two .o (.two .o (.two .o .o)))
noncomputable def b_raw_spec_DrawLevelsAll : Code := bodyOf Go.Proofs.Try.f18
theorem k_raw_spec_DrawLevelsAll (F g : Nat) (a0 : AV) (h : H) : callD Go.Proofs.Try.prog (Env.add (Env.add (fun _ _ _ => none : Env) 51 (u1 (Go.AI.c_spec_l6Open F g))) 52 (u2 (Go.AI.c_spec_l6Rd_pick F g))) 13 F b_raw_spec_DrawLevelsAll [2] A_raw_spec_DrawLevelsAll [a0] h = c_raw_spec_DrawLevelsAll F g a0 h := by kernel_rfl
theorem s_raw_spec_DrawLevelsAll (F g : Nat) : ∀ args h r, u1 (c_raw_spec_DrawLevelsAll F g) args h = some r → Tri Go.Proofs.Try.prog 18 args h r := by
  intro args h r e; obtain ⟨a0, rfl, e1⟩ := u1_some e; exact fn_sound Go.Proofs.Try.func18 rfl rfl rfl Go.Proofs.Try.ntmps18 (Sound.add (Sound.add (Sound.none _) (Go.AI.s_spec_l6Open F g)) (Go.AI.s_spec_l6Rd_pick F g)) ((k_raw_spec_DrawLevelsAll F g a0 h).trans e1)

end
end Go.AI.T
namespace Go.AI.T
open Go Go.RowKit Go.AI
set_option linter.unusedVariables false
set_option linter.unusedSimpArgs false
set_option maxRecDepth 100000
noncomputable section
/-- Does it hold of all numbers less than n? -/
def allB (f : Nat → Bool) (n : Nat) : Bool := @Nat.rec (fun _ => Bool) true (fun k r => bc (f k) r false) n
theorem allB_spec (f : Nat → Bool) : ∀ n, allB f n = true → ∀ v, v < n → f v = true
  | 0, _, v, hv => by omega
  | n + 1, h, v, hv => by
    have h : bc (f n) (allB f n) false = true := h
    cases hf : f n with
    | false => rw [hf] at h; cases h
    | true =>
      rw [hf, bc_true] at h
      by_cases hn : v = n
      · subst hn; exact hf
      · exact allB_spec f n h v (by omega)
def c_spec_DrawLevelsAll (F g : Nat) (a0 : AV) (h : H) : Option R := quietC (c_raw_spec_DrawLevelsAll 20000 20) a0 h
theorem s_spec_DrawLevelsAll (F g : Nat) : ∀ args h r, u1 (c_spec_DrawLevelsAll F g) args h = some r → Tri Go.Proofs.Try.prog id_spec_DrawLevelsAll args h r := quietC_sound (s_raw_spec_DrawLevelsAll 20000 20)
theorem draw_FnLevelsAll (F g : Nat) {a0 : AV} {n : Nat} {L : List AV} {B : Blk} (ha : (a0 = .leaf .nils ∧ n = 0) ∨ a0 = .osl 0 0 n 1) (hB : 0 < n → B = .cells 2 L) (hb : ∀ i, i < n → ∃ v, L[i]? = some (.int 4 (.ofNat v)) ∧ v < 256) :
    ∃ v, v < 10 ∧ c_spec_DrawLevelsAll F g a0 (hCode B) = some (nI v, hCode B) := by
  obtain ⟨b, m, h1, e1, r1, _⟩ := open_ok (F := 20000) (g := 20) (h := hCode B) ha (fun hn => ⟨2, hB hn⟩) hb (Nat.le_refl _) (Nat.le_refl _)
  obtain ⟨v, h2, hv, e2, r2, _, _⟩ := r1.pick (F := 20000) (g := 20) (n := 8) (by omega) (by omega)
  obtain ⟨u, h3, hu, e3, r3, _, _⟩ := r2.pick (F := 20000) (g := 20) (n := 24) (by omega) (by omega)
  have hq : u / 23 ≤ 1 := by omega
  refine ⟨v + u / 23 * 2, by omega, quietC_ok (h' := h3) ?_ rfl r3.lo⟩
  delta c_raw_spec_DrawLevelsAll
  rw [show (hCode B).mark = hCode B from rfl, e1, bindR_some', e2, bindR_some', e3, bindR_some', show AV.int 3 (Int.ofNat 23) = nI 23 from rfl, quoN (by omega) (by omega), show AV.int 3 (Int.ofNat 2) = nI 2 from rfl, mulN (by omega), addN (by omega)]
end
end Go.AI.T
namespace Go.AI.T
open Go Go.RowKit Go.AI
set_option linter.unusedVariables false
set_option linter.unusedSimpArgs false
set_option maxRecDepth 100000
noncomputable section
-- "loop.example/treenumbers/laws.sameTexts"
noncomputable def c_laws_sameTexts_l1 (F g : Nat) : List AV → H → (List AV → H → Option R) → Option R := fun vs h kc5 => (fun x6 x7 x8 => aLenK 1 x6 h fun x9 h => aCmpI ilt x8 x9 h fun x10 h => withBool x10 fun t11 => bc t11 (aIdxAddr 1 x6 x8 h fun x12 _ => aLoad x12 h fun x13 _ => aIdxAddr 1 x7 x8 h fun x14 _ => aLoad x14 h fun x15 _ => aCmpS (fun a b => bnot (eqL a b)) x13 x15 h fun x16 _ => withBool x16 fun t17 => bc t17 (some ((AV.bool false), h)) (aArith iadd x8 (AV.int 3 (Int.ofNat 1)) h fun x18 h => kc5 [x6, x7, x18] h)) (some ((AV.bool true), h))) (hd vs) (hd (tl vs)) (hd (tl (tl vs)))
noncomputable def c_laws_sameTexts (F g : Nat) (a0 a1 : AV) (h : H) : Option R := aLenK 1 a0 h fun x1 h => aLenK 1 a1 h fun x2 h => aCmpI (fun a b => bnot (ieq a b)) x1 x2 h fun x3 h => withBool x3 fun t4 => bc t4 (some ((AV.bool false), h)) (loopD F (c_laws_sameTexts_l1 F g) [a0, a1, (AV.int 3 (Int.ofNat 0))] h)
noncomputable def A_laws_sameTexts : An := (.two .o (.two (.two .o (.two (.two .o .o) .o)) (.two (.two .o (.two (.at_ [0, 1, 5] (.two (.two .o (.two .o .o)) (.two (.two (.two .o (.two (.two .o .o) .o)) .o) .o)) .o) .o)) (.two .o .o))))
noncomputable def b_laws_sameTexts : Code := bodyOf Go.Proofs.Try.f21
theorem k_laws_sameTexts (F g : Nat) (a0 a1 : AV) (h : H) : callD Go.Proofs.Try.prog (fun _ _ _ => none : Env) 26 F b_laws_sameTexts [4] A_laws_sameTexts [a0, a1] h = c_laws_sameTexts F g a0 a1 h := by kernel_rfl
theorem s_laws_sameTexts (F g : Nat) : ∀ args h r, u2 (c_laws_sameTexts F g) args h = some r → Tri Go.Proofs.Try.prog 21 args h r := by
  intro args h r e; obtain ⟨a0, a1, rfl, e1⟩ := u2_some e; exact fn_sound Go.Proofs.Try.func21 rfl rfl rfl Go.Proofs.Try.ntmps21 (Sound.none _) ((k_laws_sameTexts F g a0 a1 h).trans e1)

-- "loop.example/treenumbers/laws.FnLevelsAll"
noncomputable def c_laws_FnLevelsAll_j1 (F g : Nat) (vs : List AV) (h : H) : Option R := (fun x30 x31 => aPick x30 x31 (AV.bool false) h fun x32 h => some (x32, h)) (hd vs) (hd (tl vs))
noncomputable def c_laws_FnLevelsAll_j2 (F g : Nat) (kc37 : List AV → H → Option R) (vs : List AV) (h : H) : Option R := (fun x88 x89 x90 x91 x92 x93 => aPick x92 (AV.bool true) x93 h fun x94 h => withBool x94 fun t95 => bc t95 (some ((AV.bool false), h)) (aArith iadd x91 (AV.int 3 (Int.ofNat 1)) h fun x96 h => kc37 [x88, x89, x90, x96] h)) (hd vs) (hd (tl vs)) (hd (tl (tl vs))) (hd (tl (tl (tl vs)))) (hd (tl (tl (tl (tl vs))))) (hd (tl (tl (tl (tl (tl vs))))))
noncomputable def c_laws_FnLevelsAll_j3 (F g : Nat) (kc37 : List AV → H → Option R) (vs : List AV) (h : H) : Option R := (fun x81 x82 x83 x84 x85 x86 x87 => guardB false x85 (aPick x86 x87 (AV.bool false) h fun x97 h => (c_laws_FnLevelsAll_j2 F g kc37) [x81, x82, x83, x84, x85, x97] h) ((c_laws_FnLevelsAll_j2 F g kc37) [x81, x82, x83, x84, x85, (AV.one .tup (AV.leaf .nil))] h)) (hd vs) (hd (tl vs)) (hd (tl (tl vs))) (hd (tl (tl (tl vs)))) (hd (tl (tl (tl (tl vs))))) (hd (tl (tl (tl (tl (tl vs)))))) (hd (tl (tl (tl (tl (tl (tl vs)))))))
noncomputable def c_laws_FnLevelsAll_j4 (F g : Nat) (kc37 : List AV → H → Option R) (vs : List AV) (h : H) : Option R := (fun x74 x75 x76 x77 x78 x79 x80 => guardB true x80 (aArith iadd x77 (AV.int 3 (Int.ofNat 1)) h fun x98 h => aIdxAddr 1 x74 x98 h fun x99 h => aLoad x99 h fun x100 h => aCmpS (fun a b => bnot (eqL a b)) x78 x100 h fun x101 h => (c_laws_FnLevelsAll_j3 F g kc37) [x74, x75, x76, x77, x79, x80, x101] h) ((c_laws_FnLevelsAll_j3 F g kc37) [x74, x75, x76, x77, x79, x80, (AV.one .tup (AV.leaf .nil))] h)) (hd vs) (hd (tl vs)) (hd (tl (tl vs))) (hd (tl (tl (tl vs)))) (hd (tl (tl (tl (tl vs))))) (hd (tl (tl (tl (tl (tl vs)))))) (hd (tl (tl (tl (tl (tl (tl vs)))))))
noncomputable def c_laws_FnLevelsAll_j5 (F g : Nat) (kc37 : List AV → H → Option R) (vs : List AV) (h : H) : Option R := (fun x65 x66 x67 x68 x69 x70 x71 x72 => aPick x71 (AV.bool true) x72 h fun x73 h => guardB false x73 ((c_laws_FnLevelsAll_j4 F g kc37) [x65, x66, x67, x68, x69, x73, x70] h) ((c_laws_FnLevelsAll_j4 F g kc37) [x65, x66, x67, x68, x69, x73, (AV.one .tup (AV.leaf .nil))] h)) (hd vs) (hd (tl vs)) (hd (tl (tl vs))) (hd (tl (tl (tl vs)))) (hd (tl (tl (tl (tl vs))))) (hd (tl (tl (tl (tl (tl vs)))))) (hd (tl (tl (tl (tl (tl (tl vs))))))) (hd (tl (tl (tl (tl (tl (tl (tl vs))))))))
noncomputable def c_laws_FnLevelsAll_j6 (F g : Nat) (kc37 : List AV → H → Option R) (vs : List AV) (h : H) : Option R := (fun x56 x57 x58 x59 x60 x61 x62 x63 => aPick x62 (AV.bool true) x63 h fun x64 h => guardB false x64 (aArith iadd x59 (AV.int 3 (Int.ofNat 1)) h fun x102 h => aLenK 1 x56 h fun x103 h => aCmpI ilt x102 x103 h fun x104 h => aEq true 0 x61 x104 h fun x105 h => (c_laws_FnLevelsAll_j5 F g kc37) [x56, x57, x58, x59, x60, x61, x64, x105] h) ((c_laws_FnLevelsAll_j5 F g kc37) [x56, x57, x58, x59, x60, x61, x64, (AV.one .tup (AV.leaf .nil))] h)) (hd vs) (hd (tl vs)) (hd (tl (tl vs))) (hd (tl (tl (tl vs)))) (hd (tl (tl (tl (tl vs))))) (hd (tl (tl (tl (tl (tl vs)))))) (hd (tl (tl (tl (tl (tl (tl vs))))))) (hd (tl (tl (tl (tl (tl (tl (tl vs))))))))
noncomputable def c_laws_FnLevelsAll_j7 (F g : Nat) (vs : List AV) (h : H) : Option R := (fun x109 x110 => aPick x109 x110 (AV.bool false) h fun x111 h => some (x111, h)) (hd vs) (hd (tl vs))
noncomputable def c_laws_FnLevelsAll_l8 (F g : Nat) : List AV → H → (List AV → H → Option R) → Option R := fun vs h kc37 => (fun x38 x39 x40 x41 => aLenK 1 x38 h fun x42 h => aCmpI ilt x41 x42 h fun x43 h => withBool x43 fun t44 => bc t44 (aIdxAddr 1 x38 x41 h fun x45 h => aLoad x45 h fun x46 h => bindR (c_impl_TreeSorted F g x46 h) fun x47 h => aExtract x47 0 h fun x48 h => aExtract x47 1 h fun x49 h => aIdxAddr 1 x38 x41 h fun x50 h => aLoad x50 h fun x51 h => bindR (c_impl_LevelsNext F g x51 h) fun x52 h => aExtract x52 0 h fun x53 h => aExtract x52 1 h fun x54 h => aNot x49 h fun x55 h => guardB false x55 (aIdxAddr 1 x38 x41 h fun x106 h => aLoad x106 h fun x107 h => aCmpS (fun a b => bnot (eqL a b)) x48 x107 h fun x108 h => (c_laws_FnLevelsAll_j6 F g kc37) [x38, x39, x40, x41, x53, x54, x55, x108] h) ((c_laws_FnLevelsAll_j6 F g kc37) [x38, x39, x40, x41, x53, x54, x55, (AV.one .tup (AV.leaf .nil))] h)) (guardB true x40 (aLenK 1 x38 h fun x112 h => aCmpI ieq x39 x112 h fun x113 h => (c_laws_FnLevelsAll_j7 F g) [x40, x113] h) ((c_laws_FnLevelsAll_j7 F g) [x40, (AV.one .tup (AV.leaf .nil))] h))) (hd vs) (hd (tl vs)) (hd (tl (tl vs))) (hd (tl (tl (tl vs))))
noncomputable def c_laws_FnLevelsAll_j9 (F g : Nat) (vs : List AV) (h : H) : Option R := (fun x20 x21 x22 x23 x24 x25 x26 => aPick x25 (AV.bool true) x26 h fun x27 h => withBool x27 fun t28 => bc t28 (aEq false 0 x22 x24 h fun x29 h => guardB true x29 (bindR (c_laws_sameTexts F g x21 x23 h) fun x33 h => (c_laws_FnLevelsAll_j1 F g) [x29, x33] h) ((c_laws_FnLevelsAll_j1 F g) [x29, (AV.one .tup (AV.leaf .nil))] h)) (bindR (c_impl_LevelsCount F g x20 h) fun x34 h => aExtract x34 0 h fun x35 h => aExtract x34 1 h fun x36 h => loopD F (c_laws_FnLevelsAll_l8 F g) [x21, x35, x36, (AV.int 3 (Int.ofNat 0))] h)) (hd vs) (hd (tl vs)) (hd (tl (tl vs))) (hd (tl (tl (tl vs)))) (hd (tl (tl (tl (tl vs))))) (hd (tl (tl (tl (tl (tl vs)))))) (hd (tl (tl (tl (tl (tl (tl vs)))))))
noncomputable def c_laws_FnLevelsAll_j10 (F g : Nat) (vs : List AV) (h : H) : Option R := (fun x12 x13 x14 x15 x16 x17 x18 => aPick x17 (AV.bool true) x18 h fun x19 h => guardB false x19 (aNot x14 h fun x114 h => (c_laws_FnLevelsAll_j9 F g) [x12, x13, x14, x15, x16, x19, x114] h) ((c_laws_FnLevelsAll_j9 F g) [x12, x13, x14, x15, x16, x19, (AV.one .tup (AV.leaf .nil))] h)) (hd vs) (hd (tl vs)) (hd (tl (tl vs))) (hd (tl (tl (tl vs)))) (hd (tl (tl (tl (tl vs))))) (hd (tl (tl (tl (tl (tl vs)))))) (hd (tl (tl (tl (tl (tl (tl vs)))))))
noncomputable def c_laws_FnLevelsAll_r11 (F g : Nat) (x4 : AV) (h : H) : Option R := bindR (c_impl_LevelsAll F g x4 h) fun x5 h => aExtract x5 0 h fun x6 h => aExtract x5 1 h fun x7 h => bindR (c_spec_LevelsAll F g x4 h) fun x8 h => aExtract x8 0 h fun x9 h => aExtract x8 1 h fun x10 h => aEq true 0 x7 x10 h fun x11 h => guardB false x11 (bindR (c_laws_sameTexts F g x6 x9 h) fun x115 h => aNot x115 h fun x116 h => (c_laws_FnLevelsAll_j10 F g) [x4, x6, x7, x9, x10, x11, x116] h) ((c_laws_FnLevelsAll_j10 F g) [x4, x6, x7, x9, x10, x11, (AV.one .tup (AV.leaf .nil))] h)
noncomputable def c_laws_FnLevelsAll (F g : Nat) (a0 : AV) (h : H) : Option R := aLenK 1 a0 h fun x1 h => aCmpI (fun a b => ilt b a) x1 (AV.int 3 (Int.ofNat 1048576)) h fun x2 h => withBool x2 fun t3 => bc t3 (some ((AV.bool true), h)) (bindR (c_spec_DrawLevelsAll F g a0 h) fun x4 h => c_laws_FnLevelsAll_r11 F g x4 h)
noncomputable def A_laws_FnLevelsAll : An := (.two .o (.two (.two .o (.two (.two .o .o) .o)) (.two .o (.two .o (.two .o (.two (.two (.at_ [3, 4, 5, 6, 7, 33, 37] .o (.at_ [3, 4, 5, 6, 7, 39, 41] .o .o)) (.two (.two (.at_ [46, 49] .o .o) .o) .o)) (.two .o (.two (.two .o (.two (.at_ [4, 8, 9, 10] (.two (.two .o (.two .o .o)) (.two (.two (.two .o (.two .o (.two (.at_ [4, 8, 9, 10, 13, 14, 80, 86] .o (.at_ [4, 8, 9, 10, 13, 14, 88, 95] .o (.at_ [4, 8, 9, 10, 13, 97, 99] .o (.at_ [4, 8, 9, 10, 97, 99, 106] .o (.at_ [4, 8, 9, 10, 97, 107] .o .o))))) (.two (.two .o .o) .o)))) .o) .o)) .o) .o)) (.two (.at_ [110, 114] .o .o) .o)))))))))
noncomputable def b_laws_FnLevelsAll : Code := bodyOf Go.Proofs.Try.f4
theorem k_laws_FnLevelsAll (F g : Nat) (a0 : AV) (h : H) : callD Go.Proofs.Try.prog (Env.add (Env.add (Env.add (Env.add (Env.add (Env.add (Env.add (fun _ _ _ => none : Env) 18 (u1 (c_spec_DrawLevelsAll F g))) 19 (u1 (c_impl_LevelsAll F g))) 20 (u1 (c_spec_LevelsAll F g))) 21 (u2 (c_laws_sameTexts F g))) 15 (u1 (c_impl_LevelsCount F g))) 22 (u1 (c_impl_TreeSorted F g))) 23 (u1 (c_impl_LevelsNext F g))) 116 F b_laws_FnLevelsAll [2] A_laws_FnLevelsAll [a0] h = c_laws_FnLevelsAll F g a0 h := by kernel_rfl
theorem s_laws_FnLevelsAll (F g : Nat) : ∀ args h r, u1 (c_laws_FnLevelsAll F g) args h = some r → Tri Go.Proofs.Try.prog 4 args h r := by
  intro args h r e; obtain ⟨a0, rfl, e1⟩ := u1_some e; exact fn_sound Go.Proofs.Try.func4 rfl rfl rfl Go.Proofs.Try.ntmps4 (Sound.add (Sound.add (Sound.add (Sound.add (Sound.add (Sound.add (Sound.add (Sound.none _) (s_spec_DrawLevelsAll F g)) (s_impl_LevelsAll F g)) (s_spec_LevelsAll F g)) (s_laws_sameTexts F g)) (s_impl_LevelsCount F g)) (s_impl_TreeSorted F g)) (s_impl_LevelsNext F g)) ((k_laws_FnLevelsAll F g a0 h).trans e1)

end
end Go.AI.T
