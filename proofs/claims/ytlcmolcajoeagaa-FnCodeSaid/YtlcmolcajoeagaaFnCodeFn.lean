/- The functions that the law FnCode reaches, as the evaluator reads them. -/
import Derived.Test.YtlcmolcajoeagaaRaw
import Derived.Test.YtlcmolcajoeagaaTy
import Derived.Test.YtlcmolcajoeagaaGiv
import Derived.Test.YtlcmolcajoeagaaProg
import Derived.KernelRfl
namespace Go.AI
open Go Go.RowKit Go.AI
set_option linter.unusedVariables false
set_option linter.unusedSimpArgs false
set_option maxRecDepth 100000
noncomputable section
-- "loop.example/treenumbers/spec.DrawCodeOf"
noncomputable def c_spec_DrawCodeOf (F g : Nat) (a0 : AV) (h : H) : Option R := bindR (c_spec_l6Open F g a0 h) fun x1 h => bindR (c_spec_l91Tree F g x1 (AV.int 3 (Int.ofNat 7)) h) fun x2 h => some (x2, h)
noncomputable def A_spec_DrawCodeOf : An := (.two .o (.two .o .o))
noncomputable def b_spec_DrawCodeOf : Code := bodyOf Go.Proofs.Try.f16
theorem k_spec_DrawCodeOf (F g : Nat) (a0 : AV) (h : H) : callD Go.Proofs.Try.prog (Env.add (Env.add (fun _ _ _ => none : Env) 66 (u1 (c_spec_l6Open F g))) 65 (u2 (c_spec_l91Tree F g))) 6 F b_spec_DrawCodeOf [2] A_spec_DrawCodeOf [a0] h = c_spec_DrawCodeOf F g a0 h := by kernel_rfl
theorem s_spec_DrawCodeOf (F g : Nat) : ∀ args h r, u1 (c_spec_DrawCodeOf F g) args h = some r → Tri Go.Proofs.Try.prog 16 args h r := by
  intro args h r e; obtain ⟨a0, rfl, e1⟩ := u1_some e; exact fn_sound Go.Proofs.Try.func16 rfl rfl rfl Go.Proofs.Try.ntmps16 (Sound.add (Sound.add (Sound.none _) (s_spec_l6Open F g)) (s_spec_l91Tree F g)) ((k_spec_DrawCodeOf F g a0 h).trans e1)

end
end Go.AI
namespace Go.AI
open Go Go.RowKit Go.AI
set_option linter.unusedVariables false
set_option linter.unusedSimpArgs false
set_option maxRecDepth 100000
noncomputable section
theorem seven_ok {F g : Nat} {a : AV} {c : Nat} {L : List AV} {h : H} (hF : 10000 < F) (ha : (a = .leaf .nils ∧ c = 0) ∨ a = .osl 0 0 c 1) (h0 : 0 < c → ∃ fl, h.get 0 = .cells fl L) (hb : ∀ i, i < c → ∃ v, L[i]? = some (.int 4 (.ofNat v)) ∧ v < 256) (hn : 1 ≤ h.n) (hlo : 1 ≤ h.lo) :
    ∃ l h', (l.length ≤ 300 ∧ (isTree l = true → l.length ≤ 14)) ∧ c_spec_DrawCodeOf F g a h = some (.str l l.length, h') ∧ 1 ≤ h'.lo := by
  obtain ⟨b, m, h1, e1, r1, _⟩ := open_ok (F := F) (g := g) ha h0 hb hn hlo
  obtain ⟨l, p', h2, g1, g2, g3, r2⟩ := tree_ok' (F := F) (g := g) (n := 7) r1 hF (by omega) (by omega)
  refine ⟨l, h2, g1, ?_, r2.lo⟩
  delta c_spec_DrawCodeOf
  rw [e1, bindR_some', show AV.int 3 (Int.ofNat 7) = nI 7 from rfl, g3, bindR_some']
end
end Go.AI
namespace Go.AI.T
open Go Go.RowKit Go.AI
set_option linter.unusedVariables false
set_option linter.unusedSimpArgs false
set_option maxRecDepth 100000
noncomputable section
def c_spec_DrawCodeOf (F g : Nat) (a0 : AV) (h : H) : Option R := quietC (Go.AI.c_spec_DrawCodeOf 20000 20) a0 h
theorem s_spec_DrawCodeOf (F g : Nat) : ∀ args h r, u1 (c_spec_DrawCodeOf F g) args h = some r → Tri Go.Proofs.Try.prog id_spec_DrawCodeOf args h r := quietC_sound (Go.AI.s_spec_DrawCodeOf 20000 20)
theorem draw_FnCode (F g : Nat) {a0 : AV} {n : Nat} {L : List AV} {B : Blk} (ha : (a0 = .leaf .nils ∧ n = 0) ∨ a0 = .osl 0 0 n 1) (hB : 0 < n → B = .cells 2 L) (hb : ∀ i, i < n → ∃ v, L[i]? = some (.int 4 (.ofNat v)) ∧ v < 256) :
    ∃ l, (l.length ≤ 300 ∧ (isTree l = true → l.length ≤ 14)) ∧ c_spec_DrawCodeOf F g a0 (hCode B) = some (.str l l.length, hCode B) := by
  obtain ⟨l, h', hl, e, hlo⟩ := seven_ok (F := 20000) (g := 20) (h := hCode B) (by omega) ha (fun hn => ⟨2, hB hn⟩) hb (Nat.le_refl _) (Nat.le_refl _)
  exact ⟨l, hl, quietC_ok e rfl hlo⟩
end
end Go.AI.T
namespace Go.AI.T
open Go Go.RowKit Go.AI
set_option linter.unusedVariables false
set_option linter.unusedSimpArgs false
set_option maxRecDepth 100000
noncomputable section
-- "(*loop.example/treenumbers/impl.node).text"
noncomputable def c_impl_node_text_l1 (F g : Nat) (self : AV → H → Option R) : List AV → H → (List AV → H → Option R) → Option R := fun vs h kc5 => (fun x6 x7 x8 x9 => aCmpI ilt x9 x8 h fun x10 h => withBool x10 fun t11 => bc t11 (aIdxAddr 1 x7 x9 h fun x12 h => aLoad x12 h fun x13 h => bindR (self x13 h) fun x14 h => aSAdd x6 x14 h fun x15 h => aArith iadd x9 (AV.int 3 (Int.ofNat 1)) h fun x16 h => kc5 [x15, x7, x8, x16] h) (aSAdd x6 (AV.str [41] 1) h fun x17 h => some (x17, h))) (hd vs) (hd (tl vs)) (hd (tl (tl vs))) (hd (tl (tl (tl vs))))
noncomputable def c_impl_node_text (F g : Nat) : AV → H → Option R := Nat.rec (motive := fun _ => AV → H → Option R) (fun _ _ => none) (fun g self a0 h => aNilCheck a0 h fun x1 h => aField 2 x1 h fun x2 h => aLoad x2 h fun x3 h => aLenK 1 x3 h fun x4 h => loopD F (c_impl_node_text_l1 F g self) [(AV.str [40] 1), x3, x4, (AV.int 3 (Int.ofNat 0))] h) g
noncomputable def A_impl_node_text : An := (.two .o (.two .o (.two (.two .o (.two (.at_ [3, 9, 10, 11] (.two .o (.two (.two .o .o) (.two (.two (.two .o .o) .o) .o))) .o) .o)) (.two .o .o))))
noncomputable def b_impl_node_text : Code := bodyOf Go.Proofs.Try.f74
theorem k_impl_node_text (F g : Nat) (a0 : AV) (h : H) : callD Go.Proofs.Try.prog (Env.add (fun _ _ _ => none : Env) 74 (u1 (c_impl_node_text F g))) 22 F b_impl_node_text [2] A_impl_node_text [a0] h = c_impl_node_text F (g + 1) a0 h := by kernel_rfl
theorem s_impl_node_text (F g : Nat) : ∀ args h r, u1 (c_impl_node_text F g) args h = some r → Tri Go.Proofs.Try.prog 74 args h r := by
  induction g with
  | zero => intro args h r e; obtain ⟨a0, rfl, e⟩ := u1_some e; cases e
  | succ g ih => intro args h r e; obtain ⟨a0, rfl, e1⟩ := u1_some e; exact fn_sound Go.Proofs.Try.func74 rfl rfl rfl Go.Proofs.Try.ntmps74 (Sound.add (Sound.none _) ih) ((k_impl_node_text F g a0 h).trans e1)

-- "(loop.example/treenumbers/impl.codeBook).prime"
noncomputable def c_impl_codeBook_prime (F g : Nat) (other : AV → AV → H → Option R) (a0 a1 : AV) (h : H) : Option R := bindR (other a0 a1 h) fun x1 h => aExtract x1 0 h fun x2 h => aExtract x1 1 h fun x3 h => aNot x3 h fun x4 h => withBool x4 fun t5 => bc t5 (some (AV.one .tup (AV.cons (AV.int 3 (Int.ofNat 0)) (AV.cons (AV.bool false) (AV.leaf .nil))), h)) (bindR (c_impl_CodePrime F g x2 h) fun x6 h => aExtract x6 0 h fun x7 h => aExtract x6 1 h fun x8 h => some (AV.one .tup (AV.cons x7 (AV.cons x8 (AV.leaf .nil))), h))
noncomputable def A_impl_codeBook_prime : An := (.two .o (.two .o (.two (.two .o (.two (.two .o .o) .o)) (.two .o .o))))
noncomputable def b_impl_codeBook_prime : Code := bodyOf Go.Proofs.Try.f138
theorem k_impl_codeBook_prime (F g : Nat) (other : AV → AV → H → Option R) (a0 a1 : AV) (h : H) : callD Go.Proofs.Try.prog (Env.add (Env.add (fun _ _ _ => none : Env) 24 (u1 (c_impl_CodePrime F g))) 112 (u2 other)) 20 F b_impl_codeBook_prime [4, 5] A_impl_codeBook_prime [a0, a1] h = c_impl_codeBook_prime F g other a0 a1 h := by kernel_rfl
theorem s_impl_codeBook_prime (F g : Nat) (other : AV → AV → H → Option R) (ho : ∀ args h r, u2 other args h = some r → Tri Go.Proofs.Try.prog 112 args h r) : ∀ args h r, u2 (c_impl_codeBook_prime F g other) args h = some r → Tri Go.Proofs.Try.prog 138 args h r := by
  intro args h r e; obtain ⟨a0, a1, rfl, e1⟩ := u2_some e; exact fn_sound Go.Proofs.Try.func138 rfl rfl rfl Go.Proofs.Try.ntmps138 (Sound.add (Sound.add (Sound.none _) (s_impl_CodePrime F g)) ho) ((k_impl_codeBook_prime F g other a0 a1 h).trans e1)

-- "(loop.example/treenumbers/impl.codeBook).code"
noncomputable def c_impl_codeBook_code_j1 (F g : Nat) (kc10 : List AV → H → Option R) (vs : List AV) (h : H) : Option R := (fun x25 x26 x27 x28 x29 x30 x31 x32 x33 => aPick x32 (AV.bool true) x33 h fun x34 h => withBool x34 fun t35 => bc t35 (some (AV.one .tup (AV.cons (AV.int 3 (Int.ofNat 0)) (AV.cons (AV.bool false) (AV.leaf .nil))), h)) (aArith imul x27 x28 h fun x36 h => aArith iadd x31 (AV.int 3 (Int.ofNat 1)) h fun x37 h => kc10 [x25, x26, x36, x29, x30, x37] h)) (hd vs) (hd (tl vs)) (hd (tl (tl vs))) (hd (tl (tl (tl vs)))) (hd (tl (tl (tl (tl vs))))) (hd (tl (tl (tl (tl (tl vs)))))) (hd (tl (tl (tl (tl (tl (tl vs))))))) (hd (tl (tl (tl (tl (tl (tl (tl vs)))))))) (hd (tl (tl (tl (tl (tl (tl (tl (tl vs)))))))))
noncomputable def c_impl_codeBook_code_l2 (F g : Nat) (self : AV → AV → H → Option R) : List AV → H → (List AV → H → Option R) → Option R := fun vs h kc10 => (fun x11 x12 x13 x14 x15 x16 => aCmpI ilt x16 x15 h fun x17 h => withBool x17 fun t18 => bc t18 (aIdxAddr 1 x14 x16 h fun x19 h => aLoad x19 h fun x20 h => bindR (c_impl_codeBook_prime F g self x11 x20 h) fun x21 h => aExtract x21 0 h fun x22 h => aExtract x21 1 h fun x23 h => aNot x23 h fun x24 h => guardB false x24 (aArith imul x13 x22 h fun x38 h => aCmpI (fun a b => ilt b a) x38 (AV.int 3 (Int.ofNat 5000)) h fun x39 h => (c_impl_codeBook_code_j1 F g kc10) [x11, x12, x13, x22, x14, x15, x16, x24, x39] h) ((c_impl_codeBook_code_j1 F g kc10) [x11, x12, x13, x22, x14, x15, x16, x24, (AV.one .tup (AV.leaf .nil))] h)) (bc (keyD TypeDesc.string x12) (aMapSet x11 x12 x13 h fun x40 h => some (AV.one .tup (AV.cons x13 (AV.cons (AV.bool true) (AV.leaf .nil))), h)) none)) (hd vs) (hd (tl vs)) (hd (tl (tl vs))) (hd (tl (tl (tl vs)))) (hd (tl (tl (tl (tl vs))))) (hd (tl (tl (tl (tl (tl vs))))))
noncomputable def c_impl_codeBook_code (F g : Nat) : AV → AV → H → Option R := Nat.rec (motive := fun _ => AV → AV → H → Option R) (fun _ _ _ => none) (fun g self a0 a1 h => bindR (c_impl_node_text F g a1 h) fun x1 h => bc (keyD TypeDesc.string x1) (aLookup true (AV.int 3 (Int.ofNat 0)) a0 x1 h fun x2 h => aExtract x2 0 h fun x3 h => aExtract x2 1 h fun x4 h => withBool x4 fun t5 => bc t5 (some (AV.one .tup (AV.cons x3 (AV.cons (AV.bool true) (AV.leaf .nil))), h)) (aNilCheck a1 h fun x6 h => aField 2 x6 h fun x7 h => aLoad x7 h fun x8 h => aLenK 1 x8 h fun x9 h => loopD F (c_impl_codeBook_code_l2 F g self) [a0, x1, (AV.int 3 (Int.ofNat 1)), x8, x9, (AV.int 3 (Int.ofNat 0))] h)) none) g
noncomputable def A_impl_codeBook_code : An := (.two .o (.two .o (.two (.two .o (.two .o (.two (.two .o .o) .o))) (.two .o (.two (.two .o (.two (.at_ [0, 6, 9, 27, 28, 29] (.two .o (.two (.two .o .o) (.two (.two (.two .o (.two .o (.two (.two (.at_ [0, 6, 9, 12, 27, 28, 29, 41, 45] .o .o) (.two (.two .o .o) .o)) .o))) .o) .o))) .o) .o)) (.two .o (.two .o .o)))))))
noncomputable def b_impl_codeBook_code : Code := bodyOf Go.Proofs.Try.f112
theorem k_impl_codeBook_code (F g : Nat) (a0 a1 : AV) (h : H) : callD Go.Proofs.Try.prog (Env.add (Env.add (fun _ _ _ => none : Env) 74 (u1 (c_impl_node_text F g))) 138 (u2 (c_impl_codeBook_prime F g (c_impl_codeBook_code F g)))) 55 F b_impl_codeBook_code [4, 5] A_impl_codeBook_code [a0, a1] h = c_impl_codeBook_code F (g + 1) a0 a1 h := by kernel_rfl
theorem s_impl_codeBook_code (F g : Nat) : ∀ args h r, u2 (c_impl_codeBook_code F g) args h = some r → Tri Go.Proofs.Try.prog 112 args h r := by
  induction g with
  | zero => intro args h r e; obtain ⟨a0, a1, rfl, e⟩ := u2_some e; cases e
  | succ g ih => intro args h r e; obtain ⟨a0, a1, rfl, e1⟩ := u2_some e; exact fn_sound Go.Proofs.Try.func112 rfl rfl rfl Go.Proofs.Try.ntmps112 (Sound.add (Sound.add (Sound.none _) (s_impl_node_text F g)) (s_impl_codeBook_prime F g (c_impl_codeBook_code F g) ih)) ((k_impl_codeBook_code F g a0 a1 h).trans e1)

-- "(loop.example/treenumbers/impl.codeBook).ask"
noncomputable def c_impl_codeBook_ask (F g : Nat) (a0 a1 : AV) (h : H) : Option R := aClearM a0 h fun x1 h => bindR (c_impl_readTree F g a1 h) fun x2 h => aExtract x2 0 h fun x3 h => aExtract x2 1 h fun x4 h => aNot x4 h fun x5 h => withBool x5 fun t6 => bc t6 (some (AV.one .tup (AV.cons (AV.int 3 (Int.ofNat 0)) (AV.cons (AV.bool false) (AV.leaf .nil))), h)) (bindR (c_impl_codeBook_code F g a0 x3 h) fun x7 h => aExtract x7 0 h fun x8 h => aExtract x7 1 h fun x9 h => some (AV.one .tup (AV.cons x8 (AV.cons x9 (AV.leaf .nil))), h))
noncomputable def A_impl_codeBook_ask : An := (.two .o (.two .o (.two .o (.two (.two .o (.two (.two .o .o) .o)) (.two .o .o)))))
noncomputable def b_impl_codeBook_ask : Code := bodyOf Go.Proofs.Try.f67
theorem k_impl_codeBook_ask (F g : Nat) (a0 a1 : AV) (h : H) : callD Go.Proofs.Try.prog (Env.add (Env.add (fun _ _ _ => none : Env) 72 (u1 (c_impl_readTree F g))) 112 (u2 (c_impl_codeBook_code F g))) 21 F b_impl_codeBook_ask [4, 5] A_impl_codeBook_ask [a0, a1] h = c_impl_codeBook_ask F g a0 a1 h := by kernel_rfl
theorem s_impl_codeBook_ask (F g : Nat) : ∀ args h r, u2 (c_impl_codeBook_ask F g) args h = some r → Tri Go.Proofs.Try.prog 67 args h r := by
  intro args h r e; obtain ⟨a0, a1, rfl, e1⟩ := u2_some e; exact fn_sound Go.Proofs.Try.func67 rfl rfl rfl Go.Proofs.Try.ntmps67 (Sound.add (Sound.add (Sound.none _) (s_impl_readTree F g)) (s_impl_codeBook_code F g)) ((k_impl_codeBook_ask F g a0 a1 h).trans e1)

-- "loop.example/treenumbers/impl.CodeOf"
noncomputable def c_impl_CodeOf (F g : Nat) (a0 : AV) (h : H) : Option R := aMakeMap h fun x1 h => bindR (c_impl_codeBook_ask F g x1 a0 h) fun x2 h => aExtract x2 0 h fun x3 h => aExtract x2 1 h fun x4 h => some (AV.one .tup (AV.cons x3 (AV.cons x4 (AV.leaf .nil))), h)
noncomputable def A_impl_CodeOf : An := (.two .o (.two .o .o))
noncomputable def b_impl_CodeOf : Code := bodyOf Go.Proofs.Try.f17
theorem k_impl_CodeOf (F g : Nat) (a0 : AV) (h : H) : callD Go.Proofs.Try.prog (Env.add (fun _ _ _ => none : Env) 67 (u2 (c_impl_codeBook_ask F g))) 9 F b_impl_CodeOf [2, 3] A_impl_CodeOf [a0] h = c_impl_CodeOf F g a0 h := by kernel_rfl
theorem s_impl_CodeOf (F g : Nat) : ∀ args h r, u1 (c_impl_CodeOf F g) args h = some r → Tri Go.Proofs.Try.prog 17 args h r := by
  intro args h r e; obtain ⟨a0, rfl, e1⟩ := u1_some e; exact fn_sound Go.Proofs.Try.func17 rfl rfl rfl Go.Proofs.Try.ntmps17 (Sound.add (Sound.none _) (s_impl_codeBook_ask F g)) ((k_impl_CodeOf F g a0 h).trans e1)

-- "loop.example/treenumbers/spec.l1End"
noncomputable def c_spec_l1End_j1 (F g : Nat) (kc1 : List AV → H → Option R) (vs : List AV) (h : H) : Option R := (fun x8 x9 x10 => aCmpI ieq x9 (AV.int 3 (Int.ofNat 0)) h fun x11 h => withBool x11 fun t12 => bc t12 (aArith iadd x10 (AV.int 3 (Int.ofNat 1)) h fun x13 h => some (x13, h)) (aCmpI ilt x9 (AV.int 3 (Int.ofNat 0)) h fun x14 h => withBool x14 fun t15 => bc t15 (some ((AV.int 3 (Int.negSucc 0)), h)) (aArith iadd x10 (AV.int 3 (Int.ofNat 1)) h fun x16 h => kc1 [x8, x9, x16] h))) (hd vs) (hd (tl vs)) (hd (tl (tl vs)))
noncomputable def c_spec_l1End_l2 (F g : Nat) : List AV → H → (List AV → H → Option R) → Option R := fun vs h kc1 => (fun x2 x3 x4 => aLenK 0 x2 h fun x5 h => aCmpI ilt x4 x5 h fun x6 h => withBool x6 fun t7 => bc t7 (aIdxStr x2 x4 h fun x17 h => aCmpI ieq x17 (AV.int 4 (Int.ofNat 40)) h fun x18 h => withBool x18 fun t19 => bc t19 (aArith iadd x3 (AV.int 3 (Int.ofNat 1)) h fun x20 h => (c_spec_l1End_j1 F g kc1) [x2, x20, x4] h) (aCmpI ieq x17 (AV.int 4 (Int.ofNat 41)) h fun x21 h => withBool x21 fun t22 => bc t22 (aArith isub x3 (AV.int 3 (Int.ofNat 1)) h fun x23 h => (c_spec_l1End_j1 F g kc1) [x2, x23, x4] h) (some ((AV.int 3 (Int.negSucc 0)), h)))) (some ((AV.int 3 (Int.negSucc 0)), h))) (hd vs) (hd (tl vs)) (hd (tl (tl vs)))
noncomputable def c_spec_l1End (F g : Nat) (a0 a1 : AV) (h : H) : Option R := loopD F (c_spec_l1End_l2 F g) [a0, (AV.int 3 (Int.ofNat 0)), a1] h
noncomputable def A_spec_l1End : An := (.two .o (.two .o (.two (.two .o (.two (.at_ [0, 5, 6] (.two (.two .o (.two .o .o)) (.two (.two (.at_ [0, 5, 6] (.two .o (.two (.two .o (.two .o (.two .o (.two .o (.two .o .o))))) .o)) (.two (.two .o (.two (.two .o .o) .o)) (.two .o (.two (.two .o .o) .o)))) .o) .o)) .o) .o)) (.two .o .o))))
noncomputable def b_spec_l1End : Code := bodyOf Go.Proofs.Try.f113
theorem k_spec_l1End (F g : Nat) (a0 a1 : AV) (h : H) : callD Go.Proofs.Try.prog (fun _ _ _ => none : Env) 31 F b_spec_l1End [4] A_spec_l1End [a0, a1] h = c_spec_l1End F g a0 a1 h := by kernel_rfl
theorem s_spec_l1End (F g : Nat) : ∀ args h r, u2 (c_spec_l1End F g) args h = some r → Tri Go.Proofs.Try.prog 113 args h r := by
  intro args h r e; obtain ⟨a0, a1, rfl, e1⟩ := u2_some e; exact fn_sound Go.Proofs.Try.func113 rfl rfl rfl Go.Proofs.Try.ntmps113 (Sound.none _) ((k_spec_l1End F g a0 a1 h).trans e1)

-- "loop.example/treenumbers/spec.l1Kids"
noncomputable def c_spec_l1Kids_l1 (F g : Nat) : List AV → H → (List AV → H → Option R) → Option R := fun vs h kc2 => (fun x3 x4 x5 => aLenK 0 x3 h fun x6 h => aArith isub x6 (AV.int 3 (Int.ofNat 1)) h fun x7 h => aCmpI ilt x5 x7 h fun x8 h => withBool x8 fun t9 => bc t9 (bindR (c_spec_l1End F g x3 x5 h) fun x10 h => aSliceS x3 (some x5) (some x10) none h fun x11 h => aBuildSlice 1 1 [(0, 1, x11)] h fun x12 h => aAppend 1 16 x4 x12 h fun x13 h => kc2 [x3, x13, x10] h) (some (x4, h))) (hd vs) (hd (tl vs)) (hd (tl (tl vs)))
noncomputable def c_spec_l1Kids (F g : Nat) (a0 : AV) (h : H) : Option R := aBuildSlice 0 1 [] h fun x1 h => loopD F (c_spec_l1Kids_l1 F g) [a0, x1, (AV.int 3 (Int.ofNat 1))] h
noncomputable def A_spec_l1Kids : An := (.two .o (.two .o (.two .o (.two (.two (.at_ [0, 3, 4] (.two (.two .o (.two .o .o)) (.two (.two .o (.two .o .o)) .o)) .o) .o) (.two .o .o)))))
noncomputable def b_spec_l1Kids : Code := bodyOf Go.Proofs.Try.f93
theorem k_spec_l1Kids (F g : Nat) (a0 : AV) (h : H) : callD Go.Proofs.Try.prog (Env.add (fun _ _ _ => none : Env) 113 (u2 (c_spec_l1End F g))) 24 F b_spec_l1Kids [2] A_spec_l1Kids [a0] h = c_spec_l1Kids F g a0 h := by kernel_rfl
theorem s_spec_l1Kids (F g : Nat) : ∀ args h r, u1 (c_spec_l1Kids F g) args h = some r → Tri Go.Proofs.Try.prog 93 args h r := by
  intro args h r e; obtain ⟨a0, rfl, e1⟩ := u1_some e; exact fn_sound Go.Proofs.Try.func93 rfl rfl rfl Go.Proofs.Try.ntmps93 (Sound.add (Sound.none _) (s_spec_l1End F g)) ((k_spec_l1Kids F g a0 h).trans e1)

-- "loop.example/treenumbers/spec.l2Code"
noncomputable def c_spec_l2Code_j1 (F g : Nat) (kc2 : List AV → H → Option R) (vs : List AV) (h : H) : Option R := (fun x17 x18 x19 x20 x21 => aPick x20 (AV.bool true) x21 h fun x22 h => withBool x22 fun t23 => bc t23 (some ((AV.int 3 (Int.ofNat 0)), h)) (aArith iadd x19 (AV.int 3 (Int.ofNat 1)) h fun x24 h => kc2 [x17, x18, x24] h)) (hd vs) (hd (tl vs)) (hd (tl (tl vs))) (hd (tl (tl (tl vs)))) (hd (tl (tl (tl (tl vs)))))
noncomputable def c_spec_l2Code_l2 (F g : Nat) (self : AV → H → Option R) : List AV → H → (List AV → H → Option R) → Option R := fun vs h kc2 => (fun x3 x4 x5 => aLenK 1 x4 h fun x6 h => aCmpI ilt x5 x6 h fun x7 h => withBool x7 fun t8 => bc t8 (aIdxAddr 1 x4 x5 h fun x9 h => aLoad x9 h fun x10 h => bindR (self x10 h) fun x11 h => aCmpI ieq x11 (AV.int 3 (Int.ofNat 0)) h fun x12 h => withBool x12 fun t13 => bc t13 (some ((AV.int 3 (Int.ofNat 0)), h)) (bindR (c_spec_l2At F g x11 h) fun x14 h => aArith imul x3 x14 h fun x15 h => aCmpI ieq x15 (AV.int 3 (Int.ofNat 0)) h fun x16 h => guardB false x16 (aCmpI (fun a b => ilt b a) x15 (AV.int 3 (Int.ofNat 5000)) h fun x25 h => (c_spec_l2Code_j1 F g kc2) [x15, x4, x5, x16, x25] h) ((c_spec_l2Code_j1 F g kc2) [x15, x4, x5, x16, (AV.one .tup (AV.leaf .nil))] h))) (some (x3, h))) (hd vs) (hd (tl vs)) (hd (tl (tl vs)))
noncomputable def c_spec_l2Code (F g : Nat) : AV → H → Option R := Nat.rec (motive := fun _ => AV → H → Option R) (fun _ _ => none) (fun g self a0 h => bindR (c_spec_l1Kids F g a0 h) fun x1 h => loopD F (c_spec_l2Code_l2 F g self) [(AV.int 3 (Int.ofNat 1)), x1, (AV.int 3 (Int.ofNat 0))] h) g
noncomputable def A_spec_l2Code : An := (.two .o (.two .o (.two .o (.two (.two .o (.two (.at_ [3, 4, 5] (.two (.two .o (.two .o .o)) (.two (.two (.two .o (.two (.two .o (.two (.two .o .o) .o)) (.two .o (.two (.at_ [3, 4, 5, 28, 30] .o .o) (.two (.two .o .o) .o))))) .o) .o)) .o) .o)) (.two .o .o)))))
noncomputable def b_spec_l2Code : Code := bodyOf Go.Proofs.Try.f69
theorem k_spec_l2Code (F g : Nat) (a0 : AV) (h : H) : callD Go.Proofs.Try.prog (Env.add (Env.add (Env.add (fun _ _ _ => none : Env) 93 (u1 (c_spec_l1Kids F g))) 78 (u1 (c_spec_l2At F g))) 69 (u1 (c_spec_l2Code F g))) 33 F b_spec_l2Code [2] A_spec_l2Code [a0] h = c_spec_l2Code F (g + 1) a0 h := by kernel_rfl
theorem s_spec_l2Code (F g : Nat) : ∀ args h r, u1 (c_spec_l2Code F g) args h = some r → Tri Go.Proofs.Try.prog 69 args h r := by
  induction g with
  | zero => intro args h r e; obtain ⟨a0, rfl, e⟩ := u1_some e; cases e
  | succ g ih => intro args h r e; obtain ⟨a0, rfl, e1⟩ := u1_some e; exact fn_sound Go.Proofs.Try.func69 rfl rfl rfl Go.Proofs.Try.ntmps69 (Sound.add (Sound.add (Sound.add (Sound.none _) (s_spec_l1Kids F g)) (s_spec_l2At F g)) ih) ((k_spec_l2Code F g a0 h).trans e1)

-- "loop.example/treenumbers/spec.CodeOf"
noncomputable def c_spec_CodeOf (F g : Nat) (a0 : AV) (h : H) : Option R := bindR (c_spec_TreeIn F g a0 h) fun x1 h => aNot x1 h fun x2 h => withBool x2 fun t3 => bc t3 (some (AV.one .tup (AV.cons (AV.int 3 (Int.ofNat 0)) (AV.cons (AV.bool false) (AV.leaf .nil))), h)) (bindR (c_spec_l2Code F g a0 h) fun x4 h => aCmpI (fun a b => ilt b a) x4 (AV.int 3 (Int.ofNat 0)) h fun x5 h => some (AV.one .tup (AV.cons x4 (AV.cons x5 (AV.leaf .nil))), h))
noncomputable def A_spec_CodeOf : An := (.two .o (.two (.two .o (.two (.two .o .o) .o)) (.two .o (.two .o .o))))
noncomputable def b_spec_CodeOf : Code := bodyOf Go.Proofs.Try.f18
theorem k_spec_CodeOf (F g : Nat) (a0 : AV) (h : H) : callD Go.Proofs.Try.prog (Env.add (Env.add (fun _ _ _ => none : Env) 68 (u1 (c_spec_TreeIn F g))) 69 (u1 (c_spec_l2Code F g))) 13 F b_spec_CodeOf [2, 3] A_spec_CodeOf [a0] h = c_spec_CodeOf F g a0 h := by kernel_rfl
theorem s_spec_CodeOf (F g : Nat) : ∀ args h r, u1 (c_spec_CodeOf F g) args h = some r → Tri Go.Proofs.Try.prog 18 args h r := by
  intro args h r e; obtain ⟨a0, rfl, e1⟩ := u1_some e; exact fn_sound Go.Proofs.Try.func18 rfl rfl rfl Go.Proofs.Try.ntmps18 (Sound.add (Sound.add (Sound.none _) (s_spec_TreeIn F g)) (s_spec_l2Code F g)) ((k_spec_CodeOf F g a0 h).trans e1)

-- "loop.example/treenumbers/impl.isCode"
noncomputable def c_impl_isCode_j1 (F g : Nat) (vs : List AV) (h : H) : Option R := (fun x2 x3 => aPick x2 x3 (AV.bool false) h fun x4 h => some (x4, h)) (hd vs) (hd (tl vs))
noncomputable def c_impl_isCode (F g : Nat) (a0 : AV) (h : H) : Option R := aCmpI (fun a b => ile b a) a0 (AV.int 3 (Int.ofNat 1)) h fun x1 h => guardB true x1 (aCmpI ile a0 (AV.int 3 (Int.ofNat 5000)) h fun x5 h => (c_impl_isCode_j1 F g) [x1, x5] h) ((c_impl_isCode_j1 F g) [x1, (AV.one .tup (AV.leaf .nil))] h)
noncomputable def A_impl_isCode : An := (.two .o (.two (.at_ [5, 7] .o .o) .o))
noncomputable def b_impl_isCode : Code := bodyOf Go.Proofs.Try.f70
theorem k_impl_isCode (F g : Nat) (a0 : AV) (h : H) : callD Go.Proofs.Try.prog (fun _ _ _ => none : Env) 9 F b_impl_isCode [2] A_impl_isCode [a0] h = c_impl_isCode F g a0 h := by kernel_rfl
theorem s_impl_isCode (F g : Nat) : ∀ args h r, u1 (c_impl_isCode F g) args h = some r → Tri Go.Proofs.Try.prog 70 args h r := by
  intro args h r e; obtain ⟨a0, rfl, e1⟩ := u1_some e; exact fn_sound Go.Proofs.Try.func70 rfl rfl rfl Go.Proofs.Try.ntmps70 (Sound.none _) ((k_impl_isCode F g a0 h).trans e1)

-- "math/bits.Len32"
noncomputable def c_math_bits_Len32_j1 (F g : Nat) (vs : List AV) (h : H) : Option R := (fun x3 x4 => aConvI 4 x3 h fun x5 h => aIdxStr (AV.str [0, 1, 2, 2, 3, 3, 3, 3, 4, 4, 4, 4, 4, 4, 4, 4, 5, 5, 5, 5, 5, 5, 5, 5, 5, 5, 5, 5, 5, 5, 5, 5, 6, 6, 6, 6, 6, 6, 6, 6, 6, 6, 6, 6, 6, 6, 6, 6, 6, 6, 6, 6, 6, 6, 6, 6, 6, 6, 6, 6, 6, 6, 6, 6, 7, 7, 7, 7, 7, 7, 7, 7, 7, 7, 7, 7, 7, 7, 7, 7, 7, 7, 7, 7, 7, 7, 7, 7, 7, 7, 7, 7, 7, 7, 7, 7, 7, 7, 7, 7, 7, 7, 7, 7, 7, 7, 7, 7, 7, 7, 7, 7, 7, 7, 7, 7, 7, 7, 7, 7, 7, 7, 7, 7, 7, 7, 7, 7, 8, 8, 8, 8, 8, 8, 8, 8, 8, 8, 8, 8, 8, 8, 8, 8, 8, 8, 8, 8, 8, 8, 8, 8, 8, 8, 8, 8, 8, 8, 8, 8, 8, 8, 8, 8, 8, 8, 8, 8, 8, 8, 8, 8, 8, 8, 8, 8, 8, 8, 8, 8, 8, 8, 8, 8, 8, 8, 8, 8, 8, 8, 8, 8, 8, 8, 8, 8, 8, 8, 8, 8, 8, 8, 8, 8, 8, 8, 8, 8, 8, 8, 8, 8, 8, 8, 8, 8, 8, 8, 8, 8, 8, 8, 8, 8, 8, 8, 8, 8, 8, 8, 8, 8, 8, 8, 8, 8, 8, 8, 8, 8, 8, 8, 8, 8, 8, 8, 8, 8, 8, 8, 8, 8, 8, 8, 8, 8] 256) x5 h fun x6 h => aConvI 3 x6 h fun x7 h => aArith iadd x4 x7 h fun x8 h => some (x8, h)) (hd vs) (hd (tl vs))
noncomputable def c_math_bits_Len32_j2 (F g : Nat) (vs : List AV) (h : H) : Option R := (fun x1 x2 => aCmpI (fun a b => ile b a) x1 (AV.int 6 (Int.ofNat 256)) h fun x9 h => withBool x9 fun t10 => bc t10 (aShr x1 (AV.int 7 (Int.ofNat 8)) h fun x11 h => aArith iadd x2 (AV.int 3 (Int.ofNat 8)) h fun x12 h => (c_math_bits_Len32_j1 F g) [x11, x12] h) ((c_math_bits_Len32_j1 F g) [x1, x2] h)) (hd vs) (hd (tl vs))
noncomputable def c_math_bits_Len32 (F g : Nat) (a0 : AV) (h : H) : Option R := aCmpI (fun a b => ile b a) a0 (AV.int 6 (Int.ofNat 65536)) h fun x13 h => withBool x13 fun t14 => bc t14 (aShr a0 (AV.int 7 (Int.ofNat 16)) h fun x15 h => (c_math_bits_Len32_j2 F g) [x15, (AV.int 3 (Int.ofNat 16))] h) ((c_math_bits_Len32_j2 F g) [a0, (AV.int 3 (Int.ofNat 0))] h)
noncomputable def A_math_bits_Len32 : An := (.two .o (.at_ [0, 2] (.two .o (.two (.two .o .o) .o)) (.at_ [0, 2] (.two .o (.two (.two .o .o) .o)) (.two .o .o))))
noncomputable def b_math_bits_Len32 : Code := bodyOf Go.Proofs.Try.f152
theorem k_math_bits_Len32 (F g : Nat) (a0 : AV) (h : H) : callD Go.Proofs.Try.prog (fun _ _ _ => none : Env) 19 F b_math_bits_Len32 [2] A_math_bits_Len32 [a0] h = c_math_bits_Len32 F g a0 h := by kernel_rfl
theorem s_math_bits_Len32 (F g : Nat) : ∀ args h r, u1 (c_math_bits_Len32 F g) args h = some r → Tri Go.Proofs.Try.prog 152 args h r := by
  intro args h r e; obtain ⟨a0, rfl, e1⟩ := u1_some e; exact fn_sound Go.Proofs.Try.func152 rfl rfl rfl Go.Proofs.Try.ntmps152 (Sound.none _) ((k_math_bits_Len32 F g a0 h).trans e1)

-- "math/bits.Len64"
noncomputable def c_math_bits_Len64_j1 (F g : Nat) (vs : List AV) (h : H) : Option R := (fun x5 x6 => aConvI 4 x5 h fun x7 h => aIdxStr (AV.str [0, 1, 2, 2, 3, 3, 3, 3, 4, 4, 4, 4, 4, 4, 4, 4, 5, 5, 5, 5, 5, 5, 5, 5, 5, 5, 5, 5, 5, 5, 5, 5, 6, 6, 6, 6, 6, 6, 6, 6, 6, 6, 6, 6, 6, 6, 6, 6, 6, 6, 6, 6, 6, 6, 6, 6, 6, 6, 6, 6, 6, 6, 6, 6, 7, 7, 7, 7, 7, 7, 7, 7, 7, 7, 7, 7, 7, 7, 7, 7, 7, 7, 7, 7, 7, 7, 7, 7, 7, 7, 7, 7, 7, 7, 7, 7, 7, 7, 7, 7, 7, 7, 7, 7, 7, 7, 7, 7, 7, 7, 7, 7, 7, 7, 7, 7, 7, 7, 7, 7, 7, 7, 7, 7, 7, 7, 7, 7, 8, 8, 8, 8, 8, 8, 8, 8, 8, 8, 8, 8, 8, 8, 8, 8, 8, 8, 8, 8, 8, 8, 8, 8, 8, 8, 8, 8, 8, 8, 8, 8, 8, 8, 8, 8, 8, 8, 8, 8, 8, 8, 8, 8, 8, 8, 8, 8, 8, 8, 8, 8, 8, 8, 8, 8, 8, 8, 8, 8, 8, 8, 8, 8, 8, 8, 8, 8, 8, 8, 8, 8, 8, 8, 8, 8, 8, 8, 8, 8, 8, 8, 8, 8, 8, 8, 8, 8, 8, 8, 8, 8, 8, 8, 8, 8, 8, 8, 8, 8, 8, 8, 8, 8, 8, 8, 8, 8, 8, 8, 8, 8, 8, 8, 8, 8, 8, 8, 8, 8, 8, 8, 8, 8, 8, 8, 8, 8] 256) x7 h fun x8 h => aConvI 3 x8 h fun x9 h => aArith iadd x6 x9 h fun x10 h => some (x10, h)) (hd vs) (hd (tl vs))
noncomputable def c_math_bits_Len64_j2 (F g : Nat) (vs : List AV) (h : H) : Option R := (fun x3 x4 => aCmpI (fun a b => ile b a) x3 (AV.int 7 (Int.ofNat 256)) h fun x11 h => withBool x11 fun t12 => bc t12 (aShr x3 (AV.int 7 (Int.ofNat 8)) h fun x13 h => aArith iadd x4 (AV.int 3 (Int.ofNat 8)) h fun x14 h => (c_math_bits_Len64_j1 F g) [x13, x14] h) ((c_math_bits_Len64_j1 F g) [x3, x4] h)) (hd vs) (hd (tl vs))
noncomputable def c_math_bits_Len64_j3 (F g : Nat) (vs : List AV) (h : H) : Option R := (fun x1 x2 => aCmpI (fun a b => ile b a) x1 (AV.int 7 (Int.ofNat 65536)) h fun x15 h => withBool x15 fun t16 => bc t16 (aShr x1 (AV.int 7 (Int.ofNat 16)) h fun x17 h => aArith iadd x2 (AV.int 3 (Int.ofNat 16)) h fun x18 h => (c_math_bits_Len64_j2 F g) [x17, x18] h) ((c_math_bits_Len64_j2 F g) [x1, x2] h)) (hd vs) (hd (tl vs))
noncomputable def c_math_bits_Len64 (F g : Nat) (a0 : AV) (h : H) : Option R := aCmpI (fun a b => ile b a) a0 (AV.int 7 (Int.ofNat 4294967296)) h fun x19 h => withBool x19 fun t20 => bc t20 (aShr a0 (AV.int 7 (Int.ofNat 32)) h fun x21 h => (c_math_bits_Len64_j3 F g) [x21, (AV.int 3 (Int.ofNat 32))] h) ((c_math_bits_Len64_j3 F g) [a0, (AV.int 3 (Int.ofNat 0))] h)
noncomputable def A_math_bits_Len64 : An := (.two .o (.at_ [0, 2] (.two .o (.two (.two .o .o) .o)) (.at_ [0, 2] (.two .o (.two (.two .o .o) .o)) (.at_ [0, 2] (.two .o (.two (.two .o .o) .o)) (.two .o .o)))))
noncomputable def b_math_bits_Len64 : Code := bodyOf Go.Proofs.Try.f153
theorem k_math_bits_Len64 (F g : Nat) (a0 : AV) (h : H) : callD Go.Proofs.Try.prog (fun _ _ _ => none : Env) 25 F b_math_bits_Len64 [2] A_math_bits_Len64 [a0] h = c_math_bits_Len64 F g a0 h := by kernel_rfl
theorem s_math_bits_Len64 (F g : Nat) : ∀ args h r, u1 (c_math_bits_Len64 F g) args h = some r → Tri Go.Proofs.Try.prog 153 args h r := by
  intro args h r e; obtain ⟨a0, rfl, e1⟩ := u1_some e; exact fn_sound Go.Proofs.Try.func153 rfl rfl rfl Go.Proofs.Try.ntmps153 (Sound.none _) ((k_math_bits_Len64 F g a0 h).trans e1)

-- "math/bits.Len"
noncomputable def c_math_bits_Len (F g : Nat) (a0 : AV) (h : H) : Option R := withBool (AV.bool false) fun t1 => bc t1 (aConvI 6 a0 h fun x2 h => bindR (c_math_bits_Len32 F g x2 h) fun x3 h => some (x3, h)) (bindR (c_math_bits_Len64 F g a0 h) fun x4 h => some (x4, h))
noncomputable def A_math_bits_Len : An := (.two .o (.two (.two (.two .o .o) .o) (.two .o .o)))
noncomputable def b_math_bits_Len : Code := bodyOf Go.Proofs.Try.f132
theorem k_math_bits_Len (F g : Nat) (a0 : AV) (h : H) : callD Go.Proofs.Try.prog (Env.add (Env.add (fun _ _ _ => none : Env) 152 (u1 (c_math_bits_Len32 F g))) 153 (u1 (c_math_bits_Len64 F g))) 8 F b_math_bits_Len [2] A_math_bits_Len [a0] h = c_math_bits_Len F g a0 h := by kernel_rfl
theorem s_math_bits_Len (F g : Nat) : ∀ args h r, u1 (c_math_bits_Len F g) args h = some r → Tri Go.Proofs.Try.prog 132 args h r := by
  intro args h r e; obtain ⟨a0, rfl, e1⟩ := u1_some e; exact fn_sound Go.Proofs.Try.func132 rfl rfl rfl Go.Proofs.Try.ntmps132 (Sound.add (Sound.add (Sound.none _) (s_math_bits_Len32 F g)) (s_math_bits_Len64 F g)) ((k_math_bits_Len F g a0 h).trans e1)

-- "slices.insertionSortCmpFunc[*loop.example/treenumbers/impl.node]"
noncomputable abbrev D_slices_insertionSortCmpFunc_beeb (F g : Nat) (E : Env) : Env := E
noncomputable abbrev G_slices_insertionSortCmpFunc_beeb (F g : Nat) (E : Env) : Env := (D_slices_insertionSortCmpFunc_beeb F g E)
noncomputable def c_slices_insertionSortCmpFunc_beeb_j1 (F g : Nat) (kc2 : List AV → H → Option R) (kc10 : List AV → H → Option R) (vs : List AV) (h : H) : Option R := (fun x18 x19 x20 x21 x22 x23 x24 x25 => aPick x24 x25 (AV.bool false) h fun x26 _ => withBool x26 fun t27 => bc t27 (aArith isub x23 (AV.int 3 (Int.ofNat 1)) h fun x28 _ => aArith isub x23 (AV.int 3 (Int.ofNat 1)) h fun x29 _ => aIdxAddr 1 x18 x29 h fun x30 _ => aLoad x30 h fun x31 _ => aIdxAddr 1 x18 x23 h fun x32 _ => aLoad x32 h fun x33 _ => aIdxAddr 1 x18 x23 h fun x34 _ => aStore x34 x31 h fun x35 h => aIdxAddr 1 x18 x28 h fun x36 _ => aStore x36 x33 h fun x37 h => aArith isub x23 (AV.int 3 (Int.ofNat 1)) h fun x38 h => kc10 [x18, x19, x20, x21, x22, x38] h) (aArith iadd x22 (AV.int 3 (Int.ofNat 1)) h fun x39 h => kc2 [x18, x19, x20, x21, x39] h)) (hd vs) (hd (tl vs)) (hd (tl (tl vs))) (hd (tl (tl (tl vs)))) (hd (tl (tl (tl (tl vs))))) (hd (tl (tl (tl (tl (tl vs)))))) (hd (tl (tl (tl (tl (tl (tl vs))))))) (hd (tl (tl (tl (tl (tl (tl (tl vs))))))))
noncomputable def c_slices_insertionSortCmpFunc_beeb_l2 (F g : Nat) (E : Env) (kc2 : List AV → H → Option R) : List AV → H → (List AV → H → Option R) → Option R := fun vs h kc10 => (fun x11 x12 x13 x14 x15 x16 => aCmpI (fun a b => ilt b a) x16 x12 h fun x17 _ => guardB true x17 (aIdxAddr 1 x11 x16 h fun x40 _ => aLoad x40 h fun x41 _ => aArith isub x16 (AV.int 3 (Int.ofNat 1)) h fun x42 _ => aIdxAddr 1 x11 x42 h fun x43 _ => aLoad x43 h fun x44 _ => dCall (G_slices_insertionSortCmpFunc_beeb F g E) x14 [x41, x44] h fun x45 h => aCmpI ilt x45 (AV.int 3 (Int.ofNat 0)) h fun x46 _ => (c_slices_insertionSortCmpFunc_beeb_j1 F g kc2 kc10) [x11, x12, x13, x14, x15, x16, x17, x46] h) ((c_slices_insertionSortCmpFunc_beeb_j1 F g kc2 kc10) [x11, x12, x13, x14, x15, x16, x17, (AV.one .tup (AV.leaf .nil))] h)) (hd vs) (hd (tl vs)) (hd (tl (tl vs))) (hd (tl (tl (tl vs)))) (hd (tl (tl (tl (tl vs))))) (hd (tl (tl (tl (tl (tl vs))))))
noncomputable def c_slices_insertionSortCmpFunc_beeb_l3 (F g : Nat) (E : Env) : List AV → H → (List AV → H → Option R) → Option R := fun vs h kc2 => (fun x3 x4 x5 x6 x7 => aCmpI ilt x7 x5 h fun x8 h => withBool x8 fun t9 => bc t9 (loopD F (c_slices_insertionSortCmpFunc_beeb_l2 F g E kc2) [x3, x4, x5, x6, x7, x7] h) (some (AV.one .tup (AV.leaf .nil), h))) (hd vs) (hd (tl vs)) (hd (tl (tl vs))) (hd (tl (tl (tl vs)))) (hd (tl (tl (tl (tl vs)))))
noncomputable def c_slices_insertionSortCmpFunc_beeb (F g : Nat) (E : Env) (a0 a1 a2 a3 : AV) (h : H) : Option R := aArith iadd a1 (AV.int 3 (Int.ofNat 1)) h fun x1 h => loopD F (c_slices_insertionSortCmpFunc_beeb_l3 F g E) [a0, a1, a2, a3, x1] h
noncomputable def A_slices_insertionSortCmpFunc_beeb : An := (.two .o (.two (.at_ [0, 1, 2, 3, 8] (.two (.two .o (.two .o .o)) (.two (.two (.two .o (.two (.at_ [0, 1, 2, 3, 8, 9] (.two (.two (.at_ [0, 1, 2, 3, 8, 9, 21, 33] .o .o) (.two .o .o)) (.two (.two .o .o) .o)) .o) .o)) .o) .o)) .o) .o))
noncomputable def b_slices_insertionSortCmpFunc_beeb : Code := bodyOf Go.Proofs.Try.f155
theorem k_slices_insertionSortCmpFunc_beeb (F g : Nat) (E : Env) (a0 a1 a2 a3 : AV) (h : H) : callD Go.Proofs.Try.prog (G_slices_insertionSortCmpFunc_beeb F g E) 53 F b_slices_insertionSortCmpFunc_beeb [] A_slices_insertionSortCmpFunc_beeb [a0, a1, a2, a3] h = c_slices_insertionSortCmpFunc_beeb F g E a0 a1 a2 a3 h := by kernel_rfl
theorem s_slices_insertionSortCmpFunc_beeb (F g : Nat) (E : Env) (hE : Sound Go.Proofs.Try.prog E) : ∀ args h r, u4 (c_slices_insertionSortCmpFunc_beeb F g E) args h = some r → Tri Go.Proofs.Try.prog 155 args h r := by
  intro args h r e; obtain ⟨a0, a1, a2, a3, rfl, e1⟩ := u4_some e; exact fn_sound Go.Proofs.Try.func155 rfl rfl rfl Go.Proofs.Try.ntmps155 hE ((k_slices_insertionSortCmpFunc_beeb F g E a0 a1 a2 a3 h).trans e1)

-- "slices.pdqsortCmpFunc[*loop.example/treenumbers/impl.node]"
noncomputable abbrev D_slices_pdqsortCmpFunc_beeb (F g : Nat) (E : Env) : Env := E
noncomputable abbrev G_slices_pdqsortCmpFunc_beeb (F g : Nat) (E : Env) : Env := (Env.add (Env.add (Env.add (Env.add (D_slices_pdqsortCmpFunc_beeb F g E) 155 (u4 (c_slices_insertionSortCmpFunc_beeb F g (D_slices_pdqsortCmpFunc_beeb F g E)))) 156 (fun _ _ => none)) 158 (fun _ _ => none)) 157 (fun _ _ => none))
noncomputable def c_slices_pdqsortCmpFunc_beeb_j1 (F g : Nat) (vs : List AV) (h : H) : Option R := (fun x15 x16 x17 x18 x19 x20 x21 x22 => none) (hd vs) (hd (tl vs)) (hd (tl (tl vs))) (hd (tl (tl (tl vs)))) (hd (tl (tl (tl (tl vs))))) (hd (tl (tl (tl (tl (tl vs)))))) (hd (tl (tl (tl (tl (tl (tl vs))))))) (hd (tl (tl (tl (tl (tl (tl (tl vs))))))))
noncomputable def c_slices_pdqsortCmpFunc_beeb_l2 (F g : Nat) (E : Env) : List AV → H → (List AV → H → Option R) → Option R := fun vs h kc1 => (fun x2 x3 x4 x5 x6 x7 x8 => aArith isub x4 x3 h fun x9 h => aCmpI ile x9 (AV.int 3 (Int.ofNat 12)) h fun x10 h => withBool x10 fun t11 => bc t11 (bindR (c_slices_insertionSortCmpFunc_beeb F g (D_slices_pdqsortCmpFunc_beeb F g E) x2 x3 x4 x6 h) fun x12 h => some (AV.one .tup (AV.leaf .nil), h)) (aCmpI ieq x5 (AV.int 3 (Int.ofNat 0)) h fun x13 h => withBool x13 fun t14 => bc t14 (none) (aNot x7 h fun x23 h => withBool x23 fun t24 => bc t24 (none) ((c_slices_pdqsortCmpFunc_beeb_j1 F g) [x2, x3, x4, x5, x6, x7, x8, x9] h)))) (hd vs) (hd (tl vs)) (hd (tl (tl vs))) (hd (tl (tl (tl vs)))) (hd (tl (tl (tl (tl vs))))) (hd (tl (tl (tl (tl (tl vs)))))) (hd (tl (tl (tl (tl (tl (tl vs)))))))
noncomputable def c_slices_pdqsortCmpFunc_beeb (F g : Nat) (E : Env) (a0 a1 a2 a3 a4 : AV) (h : H) : Option R := loopD F (c_slices_pdqsortCmpFunc_beeb_l2 F g E) [a0, a1, a2, a3, a4, (AV.bool true), (AV.bool true)] h
noncomputable def A_slices_pdqsortCmpFunc_beeb : An := (.two .o (.two .o (.two (.at_ [0, 1, 2, 3, 4, 10, 11] (.two (.two .o (.two (.two .o (.two (.two .o .o) .o)) (.two (.two .o (.two (.two .o .o) .o)) (.at_ [0, 1, 2, 3, 4, 10, 11, 12] (.two .o (.two (.two .o .o) .o)) (.two .o (.at_ [0, 1, 2, 3, 4, 10, 11, 12, 13, 14] (.two .o (.two (.two .o (.two .o .o)) .o)) (.at_ [0, 1, 2, 3, 4, 10, 11, 12, 13] (.two (.at_ [0, 1, 2, 3, 4, 10, 11, 12, 13, 14, 69, 70] .o (.at_ [0, 1, 2, 3, 4, 10, 11, 12, 13, 72, 74] .o .o)) (.two (.two .o (.two .o .o)) .o)) (.two (.two (.at_ [0, 1, 2, 3, 4, 10, 11, 12, 13, 83, 96] .o .o) (.two (.two .o (.two .o .o)) .o)) (.two .o (.two .o (.two .o (.two .o (.two .o (.two (.two .o (.two .o .o)) (.two .o (.two .o .o)))))))))))))))) .o) .o) .o)))
noncomputable def b_slices_pdqsortCmpFunc_beeb : Code := bodyOf Go.Proofs.Try.f139
theorem k_slices_pdqsortCmpFunc_beeb (F g : Nat) (E : Env) (a0 a1 a2 a3 a4 : AV) (h : H) : callD Go.Proofs.Try.prog (G_slices_pdqsortCmpFunc_beeb F g E) 148 F b_slices_pdqsortCmpFunc_beeb [] A_slices_pdqsortCmpFunc_beeb [a0, a1, a2, a3, a4] h = c_slices_pdqsortCmpFunc_beeb F g E a0 a1 a2 a3 a4 h := by kernel_rfl
theorem s_slices_pdqsortCmpFunc_beeb (F g : Nat) (E : Env) (hE : Sound Go.Proofs.Try.prog E) : ∀ args h r, u5 (c_slices_pdqsortCmpFunc_beeb F g E) args h = some r → Tri Go.Proofs.Try.prog 139 args h r := by
  intro args h r e; obtain ⟨a0, a1, a2, a3, a4, rfl, e1⟩ := u5_some e; exact fn_sound Go.Proofs.Try.func139 rfl rfl rfl Go.Proofs.Try.ntmps139 (Sound.add (Sound.add (Sound.add (Sound.add hE (s_slices_insertionSortCmpFunc_beeb F g (D_slices_pdqsortCmpFunc_beeb F g E) hE)) (fun _ _ _ e => by cases e)) (fun _ _ _ e => by cases e)) (fun _ _ _ e => by cases e)) ((k_slices_pdqsortCmpFunc_beeb F g E a0 a1 a2 a3 a4 h).trans e1)

-- "slices.SortFunc[[]*loop.example/treenumbers/impl.node,*loop.example/treenumbers/impl.node]"
noncomputable abbrev D_slices_SortFunc_4168 (F g : Nat) (E : Env) : Env := E
noncomputable abbrev G_slices_SortFunc_4168 (F g : Nat) (E : Env) : Env := (Env.add (Env.add (D_slices_SortFunc_4168 F g E) 132 (u1 (c_math_bits_Len F g))) 139 (u5 (c_slices_pdqsortCmpFunc_beeb F g (D_slices_SortFunc_4168 F g E))))
noncomputable def c_slices_SortFunc_4168 (F g : Nat) (E : Env) (a0 a1 : AV) (h : H) : Option R := aLenK 1 a0 h fun x1 h => aConvI 7 x1 h fun x2 h => bindR (c_math_bits_Len F g x2 h) fun x3 h => bindR (c_slices_pdqsortCmpFunc_beeb F g (D_slices_SortFunc_4168 F g E) a0 (AV.int 3 (Int.ofNat 0)) x1 x3 a1 h) fun x4 h => some (AV.one .tup (AV.leaf .nil), h)
noncomputable def A_slices_SortFunc_4168 : An := (.two .o .o)
noncomputable def b_slices_SortFunc_4168 : Code := bodyOf Go.Proofs.Try.f115
theorem k_slices_SortFunc_4168 (F g : Nat) (E : Env) (a0 a1 : AV) (h : H) : callD Go.Proofs.Try.prog (G_slices_SortFunc_4168 F g E) 14 F b_slices_SortFunc_4168 [] A_slices_SortFunc_4168 [a0, a1] h = c_slices_SortFunc_4168 F g E a0 a1 h := by kernel_rfl
theorem s_slices_SortFunc_4168 (F g : Nat) (E : Env) (hE : Sound Go.Proofs.Try.prog E) : ∀ args h r, u2 (c_slices_SortFunc_4168 F g E) args h = some r → Tri Go.Proofs.Try.prog 115 args h r := by
  intro args h r e; obtain ⟨a0, a1, rfl, e1⟩ := u2_some e; exact fn_sound Go.Proofs.Try.func115 rfl rfl rfl Go.Proofs.Try.ntmps115 (Sound.add (Sound.add hE (s_math_bits_Len F g)) (s_slices_pdqsortCmpFunc_beeb F g (D_slices_SortFunc_4168 F g E) hE)) ((k_slices_SortFunc_4168 F g E a0 a1 h).trans e1)

-- "loop.example/treenumbers/impl.compareTexts"
noncomputable def c_impl_compareTexts (F g : Nat) (a0 a1 : AV) (h : H) : Option R := bindR (c_impl_node_text F g a0 h) fun x1 h => bindR (c_impl_node_text F g a1 h) fun x2 h => bindR (c_strings_Compare F g x1 x2 h) fun x3 h => some (x3, h)
noncomputable def A_impl_compareTexts : An := (.two .o (.two .o .o))
noncomputable def b_impl_compareTexts : Code := bodyOf Go.Proofs.Try.f116
theorem k_impl_compareTexts (F g : Nat) (a0 a1 : AV) (h : H) : callD Go.Proofs.Try.prog (Env.add (Env.add (fun _ _ _ => none : Env) 74 (u1 (c_impl_node_text F g))) 140 (u2 (c_strings_Compare F g))) 10 F b_impl_compareTexts [4] A_impl_compareTexts [a0, a1] h = c_impl_compareTexts F g a0 a1 h := by kernel_rfl
theorem s_impl_compareTexts (F g : Nat) : ∀ args h r, u2 (c_impl_compareTexts F g) args h = some r → Tri Go.Proofs.Try.prog 116 args h r := by
  intro args h r e; obtain ⟨a0, a1, rfl, e1⟩ := u2_some e; exact fn_sound Go.Proofs.Try.func116 rfl rfl rfl Go.Proofs.Try.ntmps116 (Sound.add (Sound.add (Sound.none _) (s_impl_node_text F g)) (s_strings_Compare F g)) ((k_impl_compareTexts F g a0 a1 h).trans e1)

-- "(*loop.example/treenumbers/impl.node).sort"
noncomputable abbrev D_impl_node_sort (F g : Nat) : Env := (Env.add (fun _ _ _ => none : Env) 116 (u2 (c_impl_compareTexts F g)))
noncomputable def c_impl_node_sort_l1 (F g : Nat) (self : AV → H → Option R) : List AV → H → (List AV → H → Option R) → Option R := fun vs h kc5 => (fun x6 x7 x8 x9 => aCmpI ilt x9 x8 h fun x10 h => withBool x10 fun t11 => bc t11 (aIdxAddr 1 x7 x9 h fun x12 h => aLoad x12 h fun x13 h => bindR (self x13 h) fun x14 h => aArith iadd x9 (AV.int 3 (Int.ofNat 1)) h fun x15 h => kc5 [x6, x7, x8, x15] h) (aNilCheck x6 h fun x16 h => aField 2 x16 h fun x17 h => aLoad x17 h fun x18 h => bindR (c_slices_SortFunc_4168 F g (D_impl_node_sort F g) x18 (AV.func (.func 116) (AV.leaf .nil) (AV.leaf .nil)) h) fun x19 h => some (AV.one .tup (AV.leaf .nil), h))) (hd vs) (hd (tl vs)) (hd (tl (tl vs))) (hd (tl (tl (tl vs))))
noncomputable def c_impl_node_sort (F g : Nat) : AV → H → Option R := Nat.rec (motive := fun _ => AV → H → Option R) (fun _ _ => none) (fun g self a0 h => aNilCheck a0 h fun x1 h => aField 2 x1 h fun x2 h => aLoad x2 h fun x3 h => aLenK 1 x3 h fun x4 h => loopD F (c_impl_node_sort_l1 F g self) [a0, x3, x4, (AV.int 3 (Int.ofNat 0))] h) g
noncomputable def A_impl_node_sort : An := (.two (.two .o (.two (.at_ [0, 7, 8, 9] (.two .o (.two (.two .o .o) (.two (.two (.two .o .o) .o) .o))) .o) .o)) .o)
noncomputable def b_impl_node_sort : Code := bodyOf Go.Proofs.Try.f73
theorem k_impl_node_sort (F g : Nat) (a0 : AV) (h : H) : callD Go.Proofs.Try.prog (Env.add (Env.add (D_impl_node_sort F g) 115 (u2 (c_slices_SortFunc_4168 F g (D_impl_node_sort F g)))) 73 (u1 (c_impl_node_sort F g))) 21 F b_impl_node_sort [] A_impl_node_sort [a0] h = c_impl_node_sort F (g + 1) a0 h := by kernel_rfl
theorem s_impl_node_sort (F g : Nat) : ∀ args h r, u1 (c_impl_node_sort F g) args h = some r → Tri Go.Proofs.Try.prog 73 args h r := by
  induction g with
  | zero => intro args h r e; obtain ⟨a0, rfl, e⟩ := u1_some e; cases e
  | succ g ih => intro args h r e; obtain ⟨a0, rfl, e1⟩ := u1_some e; exact fn_sound Go.Proofs.Try.func73 rfl rfl rfl Go.Proofs.Try.ntmps73 (Sound.add (Sound.add (Sound.add (Sound.none _) (s_impl_compareTexts F g)) (s_slices_SortFunc_4168 F g (D_impl_node_sort F g) (Sound.add (Sound.none _) (s_impl_compareTexts F g)))) ih) ((k_impl_node_sort F g a0 h).trans e1)

-- "loop.example/treenumbers/impl.TreeSorted"
noncomputable def c_impl_TreeSorted (F g : Nat) (a0 : AV) (h : H) : Option R := bindR (c_impl_readTree F g a0 h) fun x1 h => aExtract x1 0 h fun x2 h => aExtract x1 1 h fun x3 h => aNot x3 h fun x4 h => withBool x4 fun t5 => bc t5 (some (AV.one .tup (AV.cons (AV.str [] 0) (AV.cons (AV.bool false) (AV.leaf .nil))), h)) (bindR (c_impl_node_sort F g x2 h) fun x6 h => bindR (c_impl_node_text F g x2 h) fun x7 h => some (AV.one .tup (AV.cons x7 (AV.cons (AV.bool true) (AV.leaf .nil))), h))
noncomputable def A_impl_TreeSorted : An := (.two .o (.two .o (.two (.two .o (.two (.two .o .o) .o)) (.two .o (.two .o .o)))))
noncomputable def b_impl_TreeSorted : Code := bodyOf Go.Proofs.Try.f20
theorem k_impl_TreeSorted (F g : Nat) (a0 : AV) (h : H) : callD Go.Proofs.Try.prog (Env.add (Env.add (Env.add (fun _ _ _ => none : Env) 72 (u1 (c_impl_readTree F g))) 73 (u1 (c_impl_node_sort F g))) 74 (u1 (c_impl_node_text F g))) 17 F b_impl_TreeSorted [2, 3] A_impl_TreeSorted [a0] h = c_impl_TreeSorted F g a0 h := by kernel_rfl
theorem s_impl_TreeSorted (F g : Nat) : ∀ args h r, u1 (c_impl_TreeSorted F g) args h = some r → Tri Go.Proofs.Try.prog 20 args h r := by
  intro args h r e; obtain ⟨a0, rfl, e1⟩ := u1_some e; exact fn_sound Go.Proofs.Try.func20 rfl rfl rfl Go.Proofs.Try.ntmps20 (Sound.add (Sound.add (Sound.add (Sound.none _) (s_impl_readTree F g)) (s_impl_node_sort F g)) (s_impl_node_text F g)) ((k_impl_TreeSorted F g a0 h).trans e1)

-- "loop.example/treenumbers/impl.CodeTree"
noncomputable def c_impl_CodeTree (F g : Nat) (a0 : AV) (h : H) : Option R := bindR (c_impl_isCode F g a0 h) fun x1 h => aNot x1 h fun x2 h => withBool x2 fun t3 => bc t3 (some (AV.one .tup (AV.cons (AV.str [] 0) (AV.cons (AV.bool false) (AV.leaf .nil))), h)) (bindR (c_impl_codeText F g a0 h) fun x4 h => bindR (c_impl_TreeSorted F g x4 h) fun x5 h => aExtract x5 0 h fun x6 h => aExtract x5 1 h fun x7 h => some (AV.one .tup (AV.cons x6 (AV.cons x7 (AV.leaf .nil))), h))
noncomputable def A_impl_CodeTree : An := (.two .o (.two (.two .o (.two (.two .o .o) .o)) (.two .o .o)))
noncomputable def b_impl_CodeTree : Code := bodyOf Go.Proofs.Try.f19
theorem k_impl_CodeTree (F g : Nat) (a0 : AV) (h : H) : callD Go.Proofs.Try.prog (Env.add (Env.add (Env.add (fun _ _ _ => none : Env) 70 (u1 (c_impl_isCode F g))) 71 (u1 (c_impl_codeText F g))) 20 (u1 (c_impl_TreeSorted F g))) 12 F b_impl_CodeTree [2, 3] A_impl_CodeTree [a0] h = c_impl_CodeTree F g a0 h := by kernel_rfl
theorem s_impl_CodeTree (F g : Nat) : ∀ args h r, u1 (c_impl_CodeTree F g) args h = some r → Tri Go.Proofs.Try.prog 19 args h r := by
  intro args h r e; obtain ⟨a0, rfl, e1⟩ := u1_some e; exact fn_sound Go.Proofs.Try.func19 rfl rfl rfl Go.Proofs.Try.ntmps19 (Sound.add (Sound.add (Sound.add (Sound.none _) (s_impl_isCode F g)) (s_impl_codeText F g)) (s_impl_TreeSorted F g)) ((k_impl_CodeTree F g a0 h).trans e1)

-- "loop.example/treenumbers/impl.CodeNodes"
noncomputable def c_impl_CodeNodes (F g : Nat) (a0 : AV) (h : H) : Option R := bindR (c_impl_isCode F g a0 h) fun x1 h => aNot x1 h fun x2 h => withBool x2 fun t3 => bc t3 (some (AV.one .tup (AV.cons (AV.int 3 (Int.ofNat 0)) (AV.cons (AV.bool false) (AV.leaf .nil))), h)) (bindR (c_impl_codeText F g a0 h) fun x4 h => aLenK 0 x4 h fun x5 h => aQuo x5 (AV.int 3 (Int.ofNat 2)) h fun x6 h => some (AV.one .tup (AV.cons x6 (AV.cons (AV.bool true) (AV.leaf .nil))), h))
noncomputable def A_impl_CodeNodes : An := (.two .o (.two (.two .o (.two (.two .o .o) .o)) (.two .o .o)))
noncomputable def b_impl_CodeNodes : Code := bodyOf Go.Proofs.Try.f21
theorem k_impl_CodeNodes (F g : Nat) (a0 : AV) (h : H) : callD Go.Proofs.Try.prog (Env.add (Env.add (fun _ _ _ => none : Env) 70 (u1 (c_impl_isCode F g))) 71 (u1 (c_impl_codeText F g))) 11 F b_impl_CodeNodes [2, 3] A_impl_CodeNodes [a0] h = c_impl_CodeNodes F g a0 h := by kernel_rfl
theorem s_impl_CodeNodes (F g : Nat) : ∀ args h r, u1 (c_impl_CodeNodes F g) args h = some r → Tri Go.Proofs.Try.prog 21 args h r := by
  intro args h r e; obtain ⟨a0, rfl, e1⟩ := u1_some e; exact fn_sound Go.Proofs.Try.func21 rfl rfl rfl Go.Proofs.Try.ntmps21 (Sound.add (Sound.add (Sound.none _) (s_impl_isCode F g)) (s_impl_codeText F g)) ((k_impl_CodeNodes F g a0 h).trans e1)

-- "(*loop.example/treenumbers/impl.node).nodes"
noncomputable def c_impl_node_nodes_l1 (F g : Nat) (self : AV → H → Option R) : List AV → H → (List AV → H → Option R) → Option R := fun vs h kc6 => (fun x7 x8 x9 x10 => aCmpI ilt x10 x9 h fun x11 h => withBool x11 fun t12 => bc t12 (aIdxAddr 1 x8 x10 h fun x13 h => aLoad x13 h fun x14 h => bindR (self x14 h) fun x15 h => aAppend 1 8 x7 x15 h fun x16 h => aArith iadd x10 (AV.int 3 (Int.ofNat 1)) h fun x17 h => kc6 [x16, x8, x9, x17] h) (some (x7, h))) (hd vs) (hd (tl vs)) (hd (tl (tl vs))) (hd (tl (tl (tl vs))))
noncomputable def c_impl_node_nodes (F g : Nat) : AV → H → Option R := Nat.rec (motive := fun _ => AV → H → Option R) (fun _ _ => none) (fun g self a0 h => aBuildSlice 1 1 [(0, 1, a0)] h fun x1 h => aNilCheck a0 h fun x2 h => aField 2 x2 h fun x3 h => aLoad x3 h fun x4 h => aLenK 1 x4 h fun x5 h => loopD F (c_impl_node_nodes_l1 F g self) [x1, x4, x5, (AV.int 3 (Int.ofNat 0))] h) g
noncomputable def A_impl_node_nodes : An := (.two .o (.two .o (.two (.two .o (.two (.at_ [3, 11, 12, 13] (.two .o (.two (.two .o .o) (.two (.two (.two .o .o) .o) .o))) .o) .o)) (.two .o .o))))
noncomputable def b_impl_node_nodes : Code := bodyOf Go.Proofs.Try.f75
theorem k_impl_node_nodes (F g : Nat) (a0 : AV) (h : H) : callD Go.Proofs.Try.prog (Env.add (fun _ _ _ => none : Env) 75 (u1 (c_impl_node_nodes F g))) 23 F b_impl_node_nodes [2] A_impl_node_nodes [a0] h = c_impl_node_nodes F (g + 1) a0 h := by kernel_rfl
theorem s_impl_node_nodes (F g : Nat) : ∀ args h r, u1 (c_impl_node_nodes F g) args h = some r → Tri Go.Proofs.Try.prog 75 args h r := by
  induction g with
  | zero => intro args h r e; obtain ⟨a0, rfl, e⟩ := u1_some e; cases e
  | succ g ih => intro args h r e; obtain ⟨a0, rfl, e1⟩ := u1_some e; exact fn_sound Go.Proofs.Try.func75 rfl rfl rfl Go.Proofs.Try.ntmps75 (Sound.add (Sound.none _) ih) ((k_impl_node_nodes F g a0 h).trans e1)

-- "loop.example/treenumbers/impl.TreeNodes"
noncomputable def c_impl_TreeNodes (F g : Nat) (a0 : AV) (h : H) : Option R := bindR (c_impl_readTree F g a0 h) fun x1 h => aExtract x1 0 h fun x2 h => aExtract x1 1 h fun x3 h => aNot x3 h fun x4 h => withBool x4 fun t5 => bc t5 (some (AV.one .tup (AV.cons (AV.int 3 (Int.ofNat 0)) (AV.cons (AV.bool false) (AV.leaf .nil))), h)) (bindR (c_impl_node_nodes F g x2 h) fun x6 h => aLenK 1 x6 h fun x7 h => some (AV.one .tup (AV.cons x7 (AV.cons (AV.bool true) (AV.leaf .nil))), h))
noncomputable def A_impl_TreeNodes : An := (.two .o (.two .o (.two (.two .o (.two (.two .o .o) .o)) (.two .o .o))))
noncomputable def b_impl_TreeNodes : Code := bodyOf Go.Proofs.Try.f22
theorem k_impl_TreeNodes (F g : Nat) (a0 : AV) (h : H) : callD Go.Proofs.Try.prog (Env.add (Env.add (fun _ _ _ => none : Env) 72 (u1 (c_impl_readTree F g))) 75 (u1 (c_impl_node_nodes F g))) 16 F b_impl_TreeNodes [2, 3] A_impl_TreeNodes [a0] h = c_impl_TreeNodes F g a0 h := by kernel_rfl
theorem s_impl_TreeNodes (F g : Nat) : ∀ args h r, u1 (c_impl_TreeNodes F g) args h = some r → Tri Go.Proofs.Try.prog 22 args h r := by
  intro args h r e; obtain ⟨a0, rfl, e1⟩ := u1_some e; exact fn_sound Go.Proofs.Try.func22 rfl rfl rfl Go.Proofs.Try.ntmps22 (Sound.add (Sound.add (Sound.none _) (s_impl_readTree F g)) (s_impl_node_nodes F g)) ((k_impl_TreeNodes F g a0 h).trans e1)

-- "loop.example/treenumbers/laws.FnCode"
noncomputable def c_laws_FnCode_j1 (F g : Nat) (vs : List AV) (h : H) : Option R := (fun x30 x31 => aPick x30 x31 (AV.bool false) h fun x32 h => some (x32, h)) (hd vs) (hd (tl vs))
noncomputable def c_laws_FnCode_j2 (F g : Nat) (vs : List AV) (h : H) : Option R := (fun x75 x76 => aPick x75 x76 (AV.bool false) h fun x77 h => some (x77, h)) (hd vs) (hd (tl vs))
noncomputable def c_laws_FnCode_j3 (F g : Nat) (vs : List AV) (h : H) : Option R := (fun x70 x71 x72 x73 => aPick x72 x73 (AV.bool false) h fun x74 h => guardB true x74 (aCmpI ieq x70 x71 h fun x78 h => (c_laws_FnCode_j2 F g) [x74, x78] h) ((c_laws_FnCode_j2 F g) [x74, (AV.one .tup (AV.leaf .nil))] h)) (hd vs) (hd (tl vs)) (hd (tl (tl vs))) (hd (tl (tl (tl vs))))
noncomputable def c_laws_FnCode_j4 (F g : Nat) (vs : List AV) (h : H) : Option R := (fun x63 x64 x65 x66 x67 x68 => aPick x67 x68 (AV.bool false) h fun x69 h => guardB true x69 (aCmpS eqL x63 x64 h fun x79 h => (c_laws_FnCode_j3 F g) [x65, x66, x69, x79] h) ((c_laws_FnCode_j3 F g) [x65, x66, x69, (AV.one .tup (AV.leaf .nil))] h)) (hd vs) (hd (tl vs)) (hd (tl (tl vs))) (hd (tl (tl (tl vs)))) (hd (tl (tl (tl (tl vs))))) (hd (tl (tl (tl (tl (tl vs))))))
noncomputable def c_laws_FnCode_j5 (F g : Nat) (vs : List AV) (h : H) : Option R := (fun x55 x56 x57 x58 x59 x60 x61 => aPick x60 x61 (AV.bool false) h fun x62 h => guardB true x62 ((c_laws_FnCode_j4 F g) [x55, x56, x57, x58, x62, x59] h) ((c_laws_FnCode_j4 F g) [x55, x56, x57, x58, x62, (AV.one .tup (AV.leaf .nil))] h)) (hd vs) (hd (tl vs)) (hd (tl (tl vs))) (hd (tl (tl (tl vs)))) (hd (tl (tl (tl (tl vs))))) (hd (tl (tl (tl (tl (tl vs)))))) (hd (tl (tl (tl (tl (tl (tl vs)))))))
noncomputable def c_laws_FnCode_j6 (F g : Nat) (vs : List AV) (h : H) : Option R := (fun x46 x47 x48 x49 x50 x51 x52 x53 => aPick x52 x53 (AV.bool false) h fun x54 h => guardB true x54 ((c_laws_FnCode_j5 F g) [x46, x47, x48, x50, x51, x54, x49] h) ((c_laws_FnCode_j5 F g) [x46, x47, x48, x50, x51, x54, (AV.one .tup (AV.leaf .nil))] h)) (hd vs) (hd (tl vs)) (hd (tl (tl vs))) (hd (tl (tl (tl vs)))) (hd (tl (tl (tl (tl vs))))) (hd (tl (tl (tl (tl (tl vs)))))) (hd (tl (tl (tl (tl (tl (tl vs))))))) (hd (tl (tl (tl (tl (tl (tl (tl vs))))))))
noncomputable def c_laws_FnCode_j7 (F g : Nat) (vs : List AV) (h : H) : Option R := (fun x20 x21 x22 x23 x24 x25 x26 => aPick x25 (AV.bool true) x26 h fun x27 h => withBool x27 fun t28 => bc t28 (aEq false 0 x22 x24 h fun x29 h => guardB true x29 (aCmpI ieq x21 x23 h fun x33 h => (c_laws_FnCode_j1 F g) [x29, x33] h) ((c_laws_FnCode_j1 F g) [x29, (AV.one .tup (AV.leaf .nil))] h)) (bindR (c_impl_CodeTree F g x21 h) fun x34 h => aExtract x34 0 h fun x35 h => aExtract x34 1 h fun x36 h => bindR (c_impl_TreeSorted F g x20 h) fun x37 h => aExtract x37 0 h fun x38 h => aExtract x37 1 h fun x39 h => bindR (c_impl_CodeNodes F g x21 h) fun x40 h => aExtract x40 0 h fun x41 h => aExtract x40 1 h fun x42 h => bindR (c_impl_TreeNodes F g x20 h) fun x43 h => aExtract x43 0 h fun x44 h => aExtract x43 1 h fun x45 h => guardB true x36 ((c_laws_FnCode_j6 F g) [x35, x38, x41, x42, x44, x45, x36, x39] h) ((c_laws_FnCode_j6 F g) [x35, x38, x41, x42, x44, x45, x36, (AV.one .tup (AV.leaf .nil))] h))) (hd vs) (hd (tl vs)) (hd (tl (tl vs))) (hd (tl (tl (tl vs)))) (hd (tl (tl (tl (tl vs))))) (hd (tl (tl (tl (tl (tl vs)))))) (hd (tl (tl (tl (tl (tl (tl vs)))))))
noncomputable def c_laws_FnCode_j8 (F g : Nat) (vs : List AV) (h : H) : Option R := (fun x12 x13 x14 x15 x16 x17 x18 => aPick x17 (AV.bool true) x18 h fun x19 h => guardB false x19 (aNot x14 h fun x80 h => (c_laws_FnCode_j7 F g) [x12, x13, x14, x15, x16, x19, x80] h) ((c_laws_FnCode_j7 F g) [x12, x13, x14, x15, x16, x19, (AV.one .tup (AV.leaf .nil))] h)) (hd vs) (hd (tl vs)) (hd (tl (tl vs))) (hd (tl (tl (tl vs)))) (hd (tl (tl (tl (tl vs))))) (hd (tl (tl (tl (tl (tl vs)))))) (hd (tl (tl (tl (tl (tl (tl vs)))))))
noncomputable def c_laws_FnCode_r9 (F g : Nat) (x4 : AV) (h : H) : Option R := bindR (c_impl_CodeOf F g x4 h) fun x5 h => aExtract x5 0 h fun x6 h => aExtract x5 1 h fun x7 h => bindR (c_spec_CodeOf F g x4 h) fun x8 h => aExtract x8 0 h fun x9 h => aExtract x8 1 h fun x10 h => aEq true 0 x7 x10 h fun x11 h => guardB false x11 (aCmpI (fun a b => bnot (ieq a b)) x6 x9 h fun x81 h => (c_laws_FnCode_j8 F g) [x4, x6, x7, x9, x10, x11, x81] h) ((c_laws_FnCode_j8 F g) [x4, x6, x7, x9, x10, x11, (AV.one .tup (AV.leaf .nil))] h)
noncomputable def c_laws_FnCode (F g : Nat) (a0 : AV) (h : H) : Option R := aLenK 1 a0 h fun x1 h => aCmpI (fun a b => ilt b a) x1 (AV.int 3 (Int.ofNat 1048576)) h fun x2 h => withBool x2 fun t3 => bc t3 (some ((AV.bool true), h)) (bindR (c_spec_DrawCodeOf F g a0 h) fun x4 h => c_laws_FnCode_r9 F g x4 h)
noncomputable def A_laws_FnCode : An := (.two .o (.two (.two .o (.two (.two .o .o) .o)) (.two .o (.two .o (.two .o (.two (.two (.at_ [3, 4, 5, 6, 7, 34, 37] .o (.at_ [3, 4, 5, 6, 7, 39, 41] .o .o)) (.two (.two (.at_ [46, 49] .o .o) .o) .o)) (.two .o (.two .o (.two .o (.two .o (.two (.at_ [8, 10, 12, 13, 14, 15, 72, 73] .o (.at_ [8, 10, 12, 14, 15, 75, 76] .o (.at_ [8, 10, 12, 14, 78, 79] .o (.at_ [12, 14, 81, 84] .o (.at_ [86, 89] .o .o))))) .o)))))))))))
noncomputable def b_laws_FnCode : Code := bodyOf Go.Proofs.Try.f3
theorem k_laws_FnCode (F g : Nat) (a0 : AV) (h : H) : callD Go.Proofs.Try.prog (Env.add (Env.add (Env.add (Env.add (Env.add (Env.add (Env.add (fun _ _ _ => none : Env) 16 (u1 (c_spec_DrawCodeOf F g))) 17 (u1 (c_impl_CodeOf F g))) 18 (u1 (c_spec_CodeOf F g))) 19 (u1 (c_impl_CodeTree F g))) 20 (u1 (c_impl_TreeSorted F g))) 21 (u1 (c_impl_CodeNodes F g))) 22 (u1 (c_impl_TreeNodes F g))) 91 F b_laws_FnCode [2] A_laws_FnCode [a0] h = c_laws_FnCode F g a0 h := by kernel_rfl
theorem s_laws_FnCode (F g : Nat) : ∀ args h r, u1 (c_laws_FnCode F g) args h = some r → Tri Go.Proofs.Try.prog 3 args h r := by
  intro args h r e; obtain ⟨a0, rfl, e1⟩ := u1_some e; exact fn_sound Go.Proofs.Try.func3 rfl rfl rfl Go.Proofs.Try.ntmps3 (Sound.add (Sound.add (Sound.add (Sound.add (Sound.add (Sound.add (Sound.add (Sound.none _) (s_spec_DrawCodeOf F g)) (s_impl_CodeOf F g)) (s_spec_CodeOf F g)) (s_impl_CodeTree F g)) (s_impl_TreeSorted F g)) (s_impl_CodeNodes F g)) (s_impl_TreeNodes F g)) ((k_laws_FnCode F g a0 h).trans e1)

end
end Go.AI.T
