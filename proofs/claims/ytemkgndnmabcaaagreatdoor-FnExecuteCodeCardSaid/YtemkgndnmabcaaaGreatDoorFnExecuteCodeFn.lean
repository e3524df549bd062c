/- The functions that the law FnExecuteCode reaches, as the evaluator reads them. -/
import Derived.Test.YtemkgndnmabcaaaGreatDoorRaw
import Derived.Test.YtemkgndnmabcaaaGreatDoorXb
import Derived.Test.YtemkgndnmabcaaaGreatDoorProg
import Derived.KernelRfl
namespace Go.AI
open Go Go.RowKit Go.AI
set_option linter.unusedVariables false
set_option linter.unusedSimpArgs false
set_option maxRecDepth 100000
noncomputable section
-- "loop.example/treenumbers/spec.DrawCodeOf"
noncomputable def c_spec_DrawCodeOf (F g : Nat) (a0 : AV) (h : H) : Option R := bindR (c_spec_l6Open F g a0 h) fun x1 h => bindR (c_spec_l91Tree F g x1 (AV.int 3 (Int.ofNat 7)) h) fun x2 h => some (x2, h)
noncomputable def A_spec_DrawCodeOf : An := (.two .o (.two .o .o))
noncomputable def b_spec_DrawCodeOf : Code := bodyOf Go.Proofs.Tryz.f4
theorem k_spec_DrawCodeOf (F g : Nat) (a0 : AV) (h : H) : callD Go.Proofs.Tryz.prog (Env.add (Env.add (fun _ _ _ => none : Env) 11 (u1 (c_spec_l6Open F g))) 10 (u2 (c_spec_l91Tree F g))) 6 F b_spec_DrawCodeOf [2] A_spec_DrawCodeOf [a0] h = c_spec_DrawCodeOf F g a0 h := by kernel_rfl
theorem s_spec_DrawCodeOf (F g : Nat) : ∀ args h r, u1 (c_spec_DrawCodeOf F g) args h = some r → Tri Go.Proofs.Tryz.prog 4 args h r := by
  intro args h r e; obtain ⟨a0, rfl, e1⟩ := u1_some e; exact fn_sound Go.Proofs.Tryz.func4 rfl rfl rfl Go.Proofs.Tryz.ntmps4 (Sound.add (Sound.add (Sound.none _) (s_spec_l6Open F g)) (s_spec_l91Tree F g)) ((k_spec_DrawCodeOf F g a0 h).trans e1)

end
end Go.AI
namespace Go.AI
open Go Go.RowKit Go.AI
set_option linter.unusedVariables false
set_option linter.unusedSimpArgs false
set_option maxRecDepth 100000
noncomputable section
theorem seven_ok {F g : Nat} {a : AV} {c : Nat} {L : List AV} {h : H} (hF : 10000 < F) (ha : (a = .leaf .nils ∧ c = 0) ∨ a = .osl 1 0 c 1) (h0 : 0 < c → ∃ fl, h.get 1 = .cells fl L) (hb : ∀ i, i < c → ∃ v, L[i]? = some (.int 4 (.ofNat v)) ∧ v < 256) (hn : 3 ≤ h.n) (hlo : 3 ≤ h.lo) :
    ∃ l h', (l.length ≤ 300 ∧ (isTree l = true → l.length ≤ 14)) ∧ c_spec_DrawCodeOf F g a h = some (.str l l.length, h') ∧ 3 ≤ h'.lo := by
  obtain ⟨b, m, h1, e1, r1, _⟩ := open_ok (F := F) (g := g) ha h0 hb hn hlo
  obtain ⟨l, p', h2, g1, g2, g3, r2⟩ := tree_ok' (F := F) (g := g) (n := 7) r1 hF (by omega) (by omega)
  refine ⟨l, h2, g1, ?_, r2.lo⟩
  delta c_spec_DrawCodeOf
  rw [e1, bindR_some', show AV.int 3 (Int.ofNat 7) = nI 7 from rfl, g3, bindR_some']
end
end Go.AI
namespace Go.AI.T
open Go Go.RowKit Go.AI
set_option linter.unusedVariables false
set_option linter.unusedSimpArgs false
set_option maxRecDepth 100000
noncomputable section
def c_spec_DrawCodeOf (F g : Nat) (a0 : AV) (h : H) : Option R := quietC (Go.AI.c_spec_DrawCodeOf 20000 20) a0 h
theorem s_spec_DrawCodeOf (F g : Nat) : ∀ args h r, u1 (c_spec_DrawCodeOf F g) args h = some r → Tri Go.Proofs.Tryz.prog id_spec_DrawCodeOf args h r := quietC_sound (Go.AI.s_spec_DrawCodeOf 20000 20)
theorem draw_FnExecuteCode (F g : Nat) {a0 : AV} {n : Nat} {L : List AV} {B : Blk} (ha : (a0 = .leaf .nils ∧ n = 0) ∨ a0 = .osl 1 0 n 1) (hB : 0 < n → B = .cells 2 L) (hb : ∀ i, i < n → ∃ v, L[i]? = some (.int 4 (.ofNat v)) ∧ v < 256) :
    ∃ l, (l.length ≤ 300 ∧ (isTree l = true → l.length ≤ 14)) ∧ c_spec_DrawCodeOf F g a0 (hCode B) = some (.str l l.length, hCode B) := by
  obtain ⟨l, h', hl, e, hlo⟩ := seven_ok (F := 20000) (g := 20) (h := hCode B) (by omega) ha (fun hn => ⟨2, hB hn⟩) hb (Nat.le_refl _) (Nat.le_refl _)
  exact ⟨l, hl, quietC_ok e rfl hlo⟩
end
end Go.AI.T
namespace Go.AI.T
open Go Go.RowKit Go.AI
set_option linter.unusedVariables false
set_option linter.unusedSimpArgs false
set_option maxRecDepth 100000
noncomputable section
-- "loop.example/treenumbers/spec.l1End"
noncomputable def c_spec_l1End_j1 (F g : Nat) (kc1 : List AV → H → Option R) (vs : List AV) (h : H) : Option R := (fun x8 x9 x10 => aCmpI ieq x9 (AV.int 3 (Int.ofNat 0)) h fun x11 h => withBool x11 fun t12 => bc t12 (aArith iadd x10 (AV.int 3 (Int.ofNat 1)) h fun x13 h => some (x13, h)) (aCmpI ilt x9 (AV.int 3 (Int.ofNat 0)) h fun x14 h => withBool x14 fun t15 => bc t15 (some ((AV.int 3 (Int.negSucc 0)), h)) (aArith iadd x10 (AV.int 3 (Int.ofNat 1)) h fun x16 h => kc1 [x8, x9, x16] h))) (hd vs) (hd (tl vs)) (hd (tl (tl vs)))
noncomputable def c_spec_l1End_l2 (F g : Nat) : List AV → H → (List AV → H → Option R) → Option R := fun vs h kc1 => (fun x2 x3 x4 => aLenK 0 x2 h fun x5 h => aCmpI ilt x4 x5 h fun x6 h => withBool x6 fun t7 => bc t7 (aIdxStr x2 x4 h fun x17 h => aCmpI ieq x17 (AV.int 4 (Int.ofNat 40)) h fun x18 h => withBool x18 fun t19 => bc t19 (aArith iadd x3 (AV.int 3 (Int.ofNat 1)) h fun x20 h => (c_spec_l1End_j1 F g kc1) [x2, x20, x4] h) (aCmpI ieq x17 (AV.int 4 (Int.ofNat 41)) h fun x21 h => withBool x21 fun t22 => bc t22 (aArith isub x3 (AV.int 3 (Int.ofNat 1)) h fun x23 h => (c_spec_l1End_j1 F g kc1) [x2, x23, x4] h) (some ((AV.int 3 (Int.negSucc 0)), h)))) (some ((AV.int 3 (Int.negSucc 0)), h))) (hd vs) (hd (tl vs)) (hd (tl (tl vs)))
noncomputable def c_spec_l1End (F g : Nat) (a0 a1 : AV) (h : H) : Option R := loopD F (c_spec_l1End_l2 F g) [a0, (AV.int 3 (Int.ofNat 0)), a1] h
noncomputable def A_spec_l1End : An := (.two .o (.two .o (.two (.two .o (.two (.at_ [0, 5, 6] (.two (.two .o (.two .o .o)) (.two (.two (.at_ [0, 5, 6] (.two .o (.two (.two .o (.two .o (.two .o (.two .o (.two .o .o))))) .o)) (.two (.two .o (.two (.two .o .o) .o)) (.two .o (.two (.two .o .o) .o)))) .o) .o)) .o) .o)) (.two .o .o))))
noncomputable def b_spec_l1End : Code := bodyOf Go.Proofs.Tryz.f24
theorem k_spec_l1End (F g : Nat) (a0 a1 : AV) (h : H) : callD Go.Proofs.Tryz.prog (fun _ _ _ => none : Env) 31 F b_spec_l1End [4] A_spec_l1End [a0, a1] h = c_spec_l1End F g a0 a1 h := by kernel_rfl
theorem s_spec_l1End (F g : Nat) : ∀ args h r, u2 (c_spec_l1End F g) args h = some r → Tri Go.Proofs.Tryz.prog 24 args h r := by
  intro args h r e; obtain ⟨a0, a1, rfl, e1⟩ := u2_some e; exact fn_sound Go.Proofs.Tryz.func24 rfl rfl rfl Go.Proofs.Tryz.ntmps24 (Sound.none _) ((k_spec_l1End F g a0 a1 h).trans e1)

-- "loop.example/treenumbers/spec.l1Kids"
noncomputable def c_spec_l1Kids_l1 (F g : Nat) : List AV → H → (List AV → H → Option R) → Option R := fun vs h kc2 => (fun x3 x4 x5 => aLenK 0 x3 h fun x6 h => aArith isub x6 (AV.int 3 (Int.ofNat 1)) h fun x7 h => aCmpI ilt x5 x7 h fun x8 h => withBool x8 fun t9 => bc t9 (bindR (c_spec_l1End F g x3 x5 h) fun x10 h => aSliceS x3 (some x5) (some x10) none h fun x11 h => aBuildSlice 1 1 [(0, 1, x11)] h fun x12 h => aAppend 1 16 x4 x12 h fun x13 h => kc2 [x3, x13, x10] h) (some (x4, h))) (hd vs) (hd (tl vs)) (hd (tl (tl vs)))
noncomputable def c_spec_l1Kids (F g : Nat) (a0 : AV) (h : H) : Option R := aBuildSlice 0 1 [] h fun x1 h => loopD F (c_spec_l1Kids_l1 F g) [a0, x1, (AV.int 3 (Int.ofNat 1))] h
noncomputable def A_spec_l1Kids : An := (.two .o (.two .o (.two .o (.two (.two (.at_ [0, 3, 4] (.two (.two .o (.two .o .o)) (.two (.two .o (.two .o .o)) .o)) .o) .o) (.two .o .o)))))
noncomputable def b_spec_l1Kids : Code := bodyOf Go.Proofs.Tryz.f25
theorem k_spec_l1Kids (F g : Nat) (a0 : AV) (h : H) : callD Go.Proofs.Tryz.prog (Env.add (fun _ _ _ => none : Env) 24 (u2 (c_spec_l1End F g))) 24 F b_spec_l1Kids [2] A_spec_l1Kids [a0] h = c_spec_l1Kids F g a0 h := by kernel_rfl
theorem s_spec_l1Kids (F g : Nat) : ∀ args h r, u1 (c_spec_l1Kids F g) args h = some r → Tri Go.Proofs.Tryz.prog 25 args h r := by
  intro args h r e; obtain ⟨a0, rfl, e1⟩ := u1_some e; exact fn_sound Go.Proofs.Tryz.func25 rfl rfl rfl Go.Proofs.Tryz.ntmps25 (Sound.add (Sound.none _) (s_spec_l1End F g)) ((k_spec_l1Kids F g a0 h).trans e1)

-- "loop.example/treenumbers/spec.l2Code"
noncomputable def c_spec_l2Code_j1 (F g : Nat) (kc2 : List AV → H → Option R) (vs : List AV) (h : H) : Option R := (fun x17 x18 x19 x20 x21 => aPick x20 (AV.bool true) x21 h fun x22 h => withBool x22 fun t23 => bc t23 (some ((AV.int 3 (Int.ofNat 0)), h)) (aArith iadd x19 (AV.int 3 (Int.ofNat 1)) h fun x24 h => kc2 [x17, x18, x24] h)) (hd vs) (hd (tl vs)) (hd (tl (tl vs))) (hd (tl (tl (tl vs)))) (hd (tl (tl (tl (tl vs)))))
noncomputable def c_spec_l2Code_l2 (F g : Nat) (self : AV → H → Option R) : List AV → H → (List AV → H → Option R) → Option R := fun vs h kc2 => (fun x3 x4 x5 => aLenK 1 x4 h fun x6 h => aCmpI ilt x5 x6 h fun x7 h => withBool x7 fun t8 => bc t8 (aIdxAddr 1 x4 x5 h fun x9 h => aLoad x9 h fun x10 h => bindR (self x10 h) fun x11 h => aCmpI ieq x11 (AV.int 3 (Int.ofNat 0)) h fun x12 h => withBool x12 fun t13 => bc t13 (some ((AV.int 3 (Int.ofNat 0)), h)) (bindR (c_spec_l2At F g x11 h) fun x14 h => aArith imul x3 x14 h fun x15 h => aCmpI ieq x15 (AV.int 3 (Int.ofNat 0)) h fun x16 h => guardB false x16 (aCmpI (fun a b => ilt b a) x15 (AV.int 3 (Int.ofNat 5000)) h fun x25 h => (c_spec_l2Code_j1 F g kc2) [x15, x4, x5, x16, x25] h) ((c_spec_l2Code_j1 F g kc2) [x15, x4, x5, x16, (AV.one .tup (AV.leaf .nil))] h))) (some (x3, h))) (hd vs) (hd (tl vs)) (hd (tl (tl vs)))
noncomputable def c_spec_l2Code (F g : Nat) : AV → H → Option R := Nat.rec (motive := fun _ => AV → H → Option R) (fun _ _ => none) (fun g self a0 h => bindR (c_spec_l1Kids F g a0 h) fun x1 h => loopD F (c_spec_l2Code_l2 F g self) [(AV.int 3 (Int.ofNat 1)), x1, (AV.int 3 (Int.ofNat 0))] h) g
noncomputable def A_spec_l2Code : An := (.two .o (.two .o (.two .o (.two (.two .o (.two (.at_ [3, 4, 5] (.two (.two .o (.two .o .o)) (.two (.two (.two .o (.two (.two .o (.two (.two .o .o) .o)) (.two .o (.two (.at_ [3, 4, 5, 28, 30] .o .o) (.two (.two .o .o) .o))))) .o) .o)) .o) .o)) (.two .o .o)))))
noncomputable def b_spec_l2Code : Code := bodyOf Go.Proofs.Tryz.f14
theorem k_spec_l2Code (F g : Nat) (a0 : AV) (h : H) : callD Go.Proofs.Tryz.prog (Env.add (Env.add (Env.add (fun _ _ _ => none : Env) 25 (u1 (c_spec_l1Kids F g))) 26 (u1 (c_spec_l2At F g))) 14 (u1 (c_spec_l2Code F g))) 33 F b_spec_l2Code [2] A_spec_l2Code [a0] h = c_spec_l2Code F (g + 1) a0 h := by kernel_rfl
theorem s_spec_l2Code (F g : Nat) : ∀ args h r, u1 (c_spec_l2Code F g) args h = some r → Tri Go.Proofs.Tryz.prog 14 args h r := by
  induction g with
  | zero => intro args h r e; obtain ⟨a0, rfl, e⟩ := u1_some e; cases e
  | succ g ih => intro args h r e; obtain ⟨a0, rfl, e1⟩ := u1_some e; exact fn_sound Go.Proofs.Tryz.func14 rfl rfl rfl Go.Proofs.Tryz.ntmps14 (Sound.add (Sound.add (Sound.add (Sound.none _) (s_spec_l1Kids F g)) (s_spec_l2At F g)) ih) ((k_spec_l2Code F g a0 h).trans e1)

-- "loop.example/treenumbers/spec.CodeOf"
noncomputable def c_spec_CodeOf (F g : Nat) (a0 : AV) (h : H) : Option R := bindR (c_spec_TreeIn F g a0 h) fun x1 h => aNot x1 h fun x2 h => withBool x2 fun t3 => bc t3 (some (AV.one .tup (AV.cons (AV.int 3 (Int.ofNat 0)) (AV.cons (AV.bool false) (AV.leaf .nil))), h)) (bindR (c_spec_l2Code F g a0 h) fun x4 h => aCmpI (fun a b => ilt b a) x4 (AV.int 3 (Int.ofNat 0)) h fun x5 h => some (AV.one .tup (AV.cons x4 (AV.cons x5 (AV.leaf .nil))), h))
noncomputable def A_spec_CodeOf : An := (.two .o (.two (.two .o (.two (.two .o .o) .o)) (.two .o (.two .o .o))))
noncomputable def b_spec_CodeOf : Code := bodyOf Go.Proofs.Tryz.f6
theorem k_spec_CodeOf (F g : Nat) (a0 : AV) (h : H) : callD Go.Proofs.Tryz.prog (Env.add (Env.add (fun _ _ _ => none : Env) 13 (u1 (c_spec_TreeIn F g))) 14 (u1 (c_spec_l2Code F g))) 13 F b_spec_CodeOf [2, 3] A_spec_CodeOf [a0] h = c_spec_CodeOf F g a0 h := by kernel_rfl
theorem s_spec_CodeOf (F g : Nat) : ∀ args h r, u1 (c_spec_CodeOf F g) args h = some r → Tri Go.Proofs.Tryz.prog 6 args h r := by
  intro args h r e; obtain ⟨a0, rfl, e1⟩ := u1_some e; exact fn_sound Go.Proofs.Tryz.func6 rfl rfl rfl Go.Proofs.Tryz.ntmps6 (Sound.add (Sound.add (Sound.none _) (s_spec_TreeIn F g)) (s_spec_l2Code F g)) ((k_spec_CodeOf F g a0 h).trans e1)

-- "(*loop.example/treenumbers/impl.node).nodes"
noncomputable def c_impl_node_nodes_l1 (F g : Nat) (self : AV → H → Option R) : List AV → H → (List AV → H → Option R) → Option R := fun vs h kc6 => (fun x7 x8 x9 x10 => aCmpI ilt x10 x9 h fun x11 h => withBool x11 fun t12 => bc t12 (aIdxAddr 1 x8 x10 h fun x13 h => aLoad x13 h fun x14 h => bindR (self x14 h) fun x15 h => aAppend 1 8 x7 x15 h fun x16 h => aArith iadd x10 (AV.int 3 (Int.ofNat 1)) h fun x17 h => kc6 [x16, x8, x9, x17] h) (some (x7, h))) (hd vs) (hd (tl vs)) (hd (tl (tl vs))) (hd (tl (tl (tl vs))))
noncomputable def c_impl_node_nodes (F g : Nat) : AV → H → Option R := Nat.rec (motive := fun _ => AV → H → Option R) (fun _ _ => none) (fun g self a0 h => aBuildSlice 1 1 [(0, 1, a0)] h fun x1 h => aNilCheck a0 h fun x2 h => aField 2 x2 h fun x3 h => aLoad x3 h fun x4 h => aLenK 1 x4 h fun x5 h => loopD F (c_impl_node_nodes_l1 F g self) [x1, x4, x5, (AV.int 3 (Int.ofNat 0))] h) g
noncomputable def A_impl_node_nodes : An := (.two .o (.two .o (.two (.two .o (.two (.at_ [3, 11, 12, 13] (.two .o (.two (.two .o .o) (.two (.two (.two .o .o) .o) .o))) .o) .o)) (.two .o .o))))
noncomputable def b_impl_node_nodes : Code := bodyOf Go.Proofs.Tryz.f16
theorem k_impl_node_nodes (F g : Nat) (a0 : AV) (h : H) : callD Go.Proofs.Tryz.prog (Env.add (fun _ _ _ => none : Env) 16 (u1 (c_impl_node_nodes F g))) 23 F b_impl_node_nodes [2] A_impl_node_nodes [a0] h = c_impl_node_nodes F (g + 1) a0 h := by kernel_rfl
theorem s_impl_node_nodes (F g : Nat) : ∀ args h r, u1 (c_impl_node_nodes F g) args h = some r → Tri Go.Proofs.Tryz.prog 16 args h r := by
  induction g with
  | zero => intro args h r e; obtain ⟨a0, rfl, e⟩ := u1_some e; cases e
  | succ g ih => intro args h r e; obtain ⟨a0, rfl, e1⟩ := u1_some e; exact fn_sound Go.Proofs.Tryz.func16 rfl rfl rfl Go.Proofs.Tryz.ntmps16 (Sound.add (Sound.none _) ih) ((k_impl_node_nodes F g a0 h).trans e1)

-- "loop.example/treenumbers/impl.TreeNodes"
noncomputable def c_impl_TreeNodes (F g : Nat) (a0 : AV) (h : H) : Option R := bindR (c_impl_readTree F g a0 h) fun x1 h => aExtract x1 0 h fun x2 h => aExtract x1 1 h fun x3 h => aNot x3 h fun x4 h => withBool x4 fun t5 => bc t5 (some (AV.one .tup (AV.cons (AV.int 3 (Int.ofNat 0)) (AV.cons (AV.bool false) (AV.leaf .nil))), h)) (bindR (c_impl_node_nodes F g x2 h) fun x6 h => aLenK 1 x6 h fun x7 h => some (AV.one .tup (AV.cons x7 (AV.cons (AV.bool true) (AV.leaf .nil))), h))
noncomputable def A_impl_TreeNodes : An := (.two .o (.two .o (.two (.two .o (.two (.two .o .o) .o)) (.two .o .o))))
noncomputable def b_impl_TreeNodes : Code := bodyOf Go.Proofs.Tryz.f7
theorem k_impl_TreeNodes (F g : Nat) (a0 : AV) (h : H) : callD Go.Proofs.Tryz.prog (Env.add (Env.add (fun _ _ _ => none : Env) 15 (u1 (c_impl_readTree F g))) 16 (u1 (c_impl_node_nodes F g))) 16 F b_impl_TreeNodes [2, 3] A_impl_TreeNodes [a0] h = c_impl_TreeNodes F g a0 h := by kernel_rfl
theorem s_impl_TreeNodes (F g : Nat) : ∀ args h r, u1 (c_impl_TreeNodes F g) args h = some r → Tri Go.Proofs.Tryz.prog 7 args h r := by
  intro args h r e; obtain ⟨a0, rfl, e1⟩ := u1_some e; exact fn_sound Go.Proofs.Tryz.func7 rfl rfl rfl Go.Proofs.Tryz.ntmps7 (Sound.add (Sound.add (Sound.none _) (s_impl_readTree F g)) (s_impl_node_nodes F g)) ((k_impl_TreeNodes F g a0 h).trans e1)

-- "loop.example/treenumbers/impl.Execute"
noncomputable def c_impl_Execute_l1 (F g : Nat) : List AV → H → (List AV → H → Option R) → Option R := fun vs h kc12 => (fun x13 x14 x15 x16 x17 => aCmpI ilt x17 x16 h fun x18 h => withBool x18 fun t19 => bc t19 (aIdxAddr 1 x15 x17 h fun x20 h => aLoad x20 h fun x21 h => bindR (c_impl_workbench_answer F g x13 x21 h) fun x22 h => aSAdd x22 (AV.str [10] 1) h fun x23 h => aSAdd x14 x23 h fun x24 h => aArith iadd x17 (AV.int 3 (Int.ofNat 1)) h fun x25 h => kc12 [x13, x24, x15, x16, x25] h) (aField 0 x13 h fun x26 h => aLoad x26 h fun x27 h => bindR (c_impl_TreeNodes F g x27 h) fun x28 h => aExtract x28 0 h fun x29 h => aExtract x28 1 h fun x30 h => aSAdd x14 (AV.str [110, 111, 100, 101, 115, 32] 6) h fun x31 h => bindR (c_strconv_Itoa F g x29 h) fun x32 h => aSAdd x31 x32 h fun x33 h => aSAdd x33 (AV.str [10] 1) h fun x34 h => some (x34, h))) (hd vs) (hd (tl vs)) (hd (tl (tl vs))) (hd (tl (tl (tl vs)))) (hd (tl (tl (tl (tl vs)))))
noncomputable def c_impl_Execute (F g : Nat) (a0 : AV) (h : H) : Option R := aLenK 0 a0 h fun x1 h => aCmpI (fun a b => ilt b a) x1 (AV.int 3 (Int.ofNat 600)) h fun x2 h => withBool x2 fun t3 => bc t3 (some ((AV.str [116, 111, 111, 32, 108, 111, 110, 103, 10] 9), h)) (aBuild [(AV.str [] 0)] [(0, 1, (AV.str [40, 41] 2))] h fun x4 h => aAlloc [(AV.str [] 0)] h fun x5 h => aStoreN 1 x5 x4 h fun x6 h => bindR (c_strings_Split F g a0 (AV.str [10] 1) h) fun x7 h => aLenK 1 x7 h fun x8 h => aArith isub x8 (AV.int 3 (Int.ofNat 1)) h fun x9 h => aSliceV 1 x7 none (some x9) none h fun x10 h => aLenK 1 x10 h fun x11 h => loopD F (c_impl_Execute_l1 F g) [x5, (AV.str [] 0), x10, x11, (AV.int 3 (Int.ofNat 0))] h)
noncomputable def A_impl_Execute : An := (.two .o (.two (.two .o (.two (.two .o .o) .o)) (.two .o (.two .o (.two .o (.two (.two .o (.two (.at_ [3, 4, 20, 21, 22] (.two .o (.two (.two .o .o) (.two (.two (.two .o .o) .o) .o))) .o) .o)) (.two .o (.two .o .o))))))))
noncomputable def b_impl_Execute : Code := bodyOf Go.Proofs.Tryz.f8
theorem k_impl_Execute (F g : Nat) (a0 : AV) (h : H) : callD Go.Proofs.Tryz.prog (Env.add (Env.add (Env.add (Env.add (fun _ _ _ => none : Env) 17 (u2 (c_strings_Split F g))) 18 (u2 (c_impl_workbench_answer F g))) 7 (u1 (c_impl_TreeNodes F g))) 19 (u1 (c_strconv_Itoa F g))) 44 F b_impl_Execute [2] A_impl_Execute [a0] h = c_impl_Execute F g a0 h := by kernel_rfl
theorem s_impl_Execute (F g : Nat) : ∀ args h r, u1 (c_impl_Execute F g) args h = some r → Tri Go.Proofs.Tryz.prog 8 args h r := by
  intro args h r e; obtain ⟨a0, rfl, e1⟩ := u1_some e; exact fn_sound Go.Proofs.Tryz.func8 rfl rfl rfl Go.Proofs.Tryz.ntmps8 (Sound.add (Sound.add (Sound.add (Sound.add (Sound.none _) (s_strings_Split F g)) (s_impl_workbench_answer F g)) (s_impl_TreeNodes F g)) (s_strconv_Itoa F g)) ((k_impl_Execute F g a0 h).trans e1)

-- "loop.example/treenumbers/laws.digits"
noncomputable def c_laws_digits (F g : Nat) : AV → H → Option R := Nat.rec (motive := fun _ => AV → H → Option R) (fun _ _ => none) (fun g self a0 h => aCmpI ilt a0 (AV.int 3 (Int.ofNat 10)) h fun x1 h => withBool x1 fun t2 => bc t2 (aMM true (AV.int 3 (Int.ofNat 0)) a0 h fun x3 h => aArith iadd (AV.int 3 (Int.ofNat 48)) x3 h fun x4 h => aConvI 4 x4 h fun x5 h => aBuildSlice 1 1 [(0, 1, x5)] h fun x6 h => aB2S x6 h fun x7 h => some (x7, h)) (aQuo a0 (AV.int 3 (Int.ofNat 10)) h fun x8 _ => bindF (self x8 h.mark) h fun x9 _ => aRem a0 (AV.int 3 (Int.ofNat 10)) h fun x10 _ => aArith iadd (AV.int 3 (Int.ofNat 48)) x10 h fun x11 _ => aConvI 4 x11 h fun x12 _ => aBuildSlice 1 1 [(0, 1, x12)] h fun x13 h => aB2S x13 h fun x14 _ => aSAdd x9 x14 h fun x15 _ => some (x15, h))) g
noncomputable def A_laws_digits : An := (.two .o (.two (.two .o (.two (.two .o .o) .o)) (.two .o .o)))
noncomputable def b_laws_digits : Code := bodyOf Go.Proofs.Tryz.f9
theorem k_laws_digits (F g : Nat) (a0 : AV) (h : H) : callD Go.Proofs.Tryz.prog (Env.add (fun _ _ _ => none : Env) 9 (u1 (c_laws_digits F g))) 21 F b_laws_digits [2] A_laws_digits [a0] h = c_laws_digits F (g + 1) a0 h := by kernel_rfl
theorem s_laws_digits (F g : Nat) : ∀ args h r, u1 (c_laws_digits F g) args h = some r → Tri Go.Proofs.Tryz.prog 9 args h r := by
  induction g with
  | zero => intro args h r e; obtain ⟨a0, rfl, e⟩ := u1_some e; cases e
  | succ g ih => intro args h r e; obtain ⟨a0, rfl, e1⟩ := u1_some e; exact fn_sound Go.Proofs.Tryz.func9 rfl rfl rfl Go.Proofs.Tryz.ntmps9 (Sound.add (Sound.none _) ih) ((k_laws_digits F g a0 h).trans e1)

-- "loop.example/treenumbers/laws.FnExecuteCode"
noncomputable def c_laws_FnExecuteCode_j1 (F g : Nat) (vs : List AV) (h : H) : Option R := (fun x30 x31 => aPick x30 x31 (AV.bool false) h fun x32 h => some (x32, h)) (hd vs) (hd (tl vs))
noncomputable def c_laws_FnExecuteCode_j2 (F g : Nat) (vs : List AV) (h : H) : Option R := (fun x37 x38 => aPick x37 x38 (AV.bool false) h fun x39 h => some (x39, h)) (hd vs) (hd (tl vs))
noncomputable def c_laws_FnExecuteCode_j3 (F g : Nat) (vs : List AV) (h : H) : Option R := (fun x20 x21 x22 x23 x24 x25 x26 => aPick x25 (AV.bool true) x26 h fun x27 h => withBool x27 fun t28 => bc t28 (aEq false 0 x22 x24 h fun x29 h => guardB true x29 (aCmpI ieq x21 x23 h fun x33 h => (c_laws_FnExecuteCode_j1 F g) [x29, x33] h) ((c_laws_FnExecuteCode_j1 F g) [x29, (AV.one .tup (AV.leaf .nil))] h)) (bindR (c_impl_TreeNodes F g x20 h) fun x34 h => aExtract x34 0 h fun x35 h => aExtract x34 1 h fun x36 h => guardB true x36 (aSAdd (AV.str [116, 114, 101, 101, 32] 5) x20 h fun x40 h => aSAdd x40 (AV.str [10, 110, 117, 109, 98, 101, 114, 10, 115, 111, 114, 116, 101, 100, 10] 15) h fun x41 h => bindR (c_impl_Execute F g x41 h) fun x42 h => bindR (c_laws_digits F g x21 h) fun x43 h => aSAdd (AV.str [111, 107, 10] 3) x43 h fun x44 h => aSAdd x44 (AV.str [10, 111, 107, 10, 110, 111, 100, 101, 115, 32] 10) h fun x45 h => bindR (c_laws_digits F g x35 h) fun x46 h => aSAdd x45 x46 h fun x47 h => aSAdd x47 (AV.str [10] 1) h fun x48 h => aCmpS eqL x42 x48 h fun x49 h => (c_laws_FnExecuteCode_j2 F g) [x36, x49] h) ((c_laws_FnExecuteCode_j2 F g) [x36, (AV.one .tup (AV.leaf .nil))] h))) (hd vs) (hd (tl vs)) (hd (tl (tl vs))) (hd (tl (tl (tl vs)))) (hd (tl (tl (tl (tl vs))))) (hd (tl (tl (tl (tl (tl vs)))))) (hd (tl (tl (tl (tl (tl (tl vs)))))))
noncomputable def c_laws_FnExecuteCode_j4 (F g : Nat) (vs : List AV) (h : H) : Option R := (fun x12 x13 x14 x15 x16 x17 x18 => aPick x17 (AV.bool true) x18 h fun x19 h => guardB false x19 (aNot x14 h fun x50 h => (c_laws_FnExecuteCode_j3 F g) [x12, x13, x14, x15, x16, x19, x50] h) ((c_laws_FnExecuteCode_j3 F g) [x12, x13, x14, x15, x16, x19, (AV.one .tup (AV.leaf .nil))] h)) (hd vs) (hd (tl vs)) (hd (tl (tl vs))) (hd (tl (tl (tl vs)))) (hd (tl (tl (tl (tl vs))))) (hd (tl (tl (tl (tl (tl vs)))))) (hd (tl (tl (tl (tl (tl (tl vs)))))))
noncomputable def c_laws_FnExecuteCode_r5 (F g : Nat) (x4 : AV) (h : H) : Option R := bindR (c_impl_CodeOf F g x4 h) fun x5 h => aExtract x5 0 h fun x6 h => aExtract x5 1 h fun x7 h => bindR (c_spec_CodeOf F g x4 h) fun x8 h => aExtract x8 0 h fun x9 h => aExtract x8 1 h fun x10 h => aEq true 0 x7 x10 h fun x11 h => guardB false x11 (aCmpI (fun a b => bnot (ieq a b)) x6 x9 h fun x51 h => (c_laws_FnExecuteCode_j4 F g) [x4, x6, x7, x9, x10, x11, x51] h) ((c_laws_FnExecuteCode_j4 F g) [x4, x6, x7, x9, x10, x11, (AV.one .tup (AV.leaf .nil))] h)
noncomputable def c_laws_FnExecuteCode (F g : Nat) (a0 : AV) (h : H) : Option R := aLenK 1 a0 h fun x1 h => aCmpI (fun a b => ilt b a) x1 (AV.int 3 (Int.ofNat 1048576)) h fun x2 h => withBool x2 fun t3 => bc t3 (some ((AV.bool true), h)) (bindR (c_spec_DrawCodeOf F g a0 h) fun x4 h => c_laws_FnExecuteCode_r5 F g x4 h)
noncomputable def A_laws_FnExecuteCode : An := (.two .o (.two (.two .o (.two (.two .o .o) .o)) (.two .o (.two .o (.two .o (.two (.two (.at_ [3, 4, 5, 6, 7, 28, 31] .o (.at_ [3, 4, 5, 6, 7, 33, 35] .o .o)) (.two (.two (.at_ [40, 43] .o .o) .o) .o)) (.two .o (.two (.at_ [51, 64] .o .o) .o))))))))
noncomputable def b_laws_FnExecuteCode : Code := bodyOf Go.Proofs.Tryz.f3
theorem k_laws_FnExecuteCode (F g : Nat) (a0 : AV) (h : H) : callD Go.Proofs.Tryz.prog (Env.add (Env.add (Env.add (Env.add (Env.add (Env.add (fun _ _ _ => none : Env) 4 (u1 (c_spec_DrawCodeOf F g))) 5 (u1 (c_impl_CodeOf F g))) 6 (u1 (c_spec_CodeOf F g))) 7 (u1 (c_impl_TreeNodes F g))) 8 (u1 (c_impl_Execute F g))) 9 (u1 (c_laws_digits F g))) 66 F b_laws_FnExecuteCode [2] A_laws_FnExecuteCode [a0] h = c_laws_FnExecuteCode F g a0 h := by kernel_rfl
theorem s_laws_FnExecuteCode (F g : Nat) : ∀ args h r, u1 (c_laws_FnExecuteCode F g) args h = some r → Tri Go.Proofs.Tryz.prog 3 args h r := by
  intro args h r e; obtain ⟨a0, rfl, e1⟩ := u1_some e; exact fn_sound Go.Proofs.Tryz.func3 rfl rfl rfl Go.Proofs.Tryz.ntmps3 (Sound.add (Sound.add (Sound.add (Sound.add (Sound.add (Sound.add (Sound.none _) (s_spec_DrawCodeOf F g)) (s_impl_CodeOf F g)) (s_spec_CodeOf F g)) (s_impl_TreeNodes F g)) (s_impl_Execute F g)) (s_laws_digits F g)) ((k_laws_FnExecuteCode F g a0 h).trans e1)

end
end Go.AI.T
