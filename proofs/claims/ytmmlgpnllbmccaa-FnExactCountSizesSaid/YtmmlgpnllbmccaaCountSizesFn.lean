/- The functions that the law FnExactCountSizes reaches, as the evaluator reads them, in company. -/
import Derived.Test.YtmmlgpnllbmccaaCo6
import Derived.KernelRfl
namespace Go.AI.T
open Go Go.RowKit Go.AI Go.Conc Go.Co Go.Co.Cnt
set_option linter.unusedVariables false
set_option linter.unusedSimpArgs false
set_option maxRecDepth 100000
noncomputable section
-- "(*loop.example/treenumbers/impl.node).nodes"
noncomputable def c_impl_node_nodes_l1 (F g : Nat) (self : AV → H → Option R) : List AV → H → (List AV → H → Option R) → Option R := fun vs h kc6 => (fun x7 x8 x9 x10 => aCmpI ilt x10 x9 h fun x11 h => withBool x11 fun t12 => bc t12 (aIdxAddr 1 x8 x10 h fun x13 h => aLoad x13 h fun x14 h => bindR (self x14 h) fun x15 h => aAppend 1 8 x7 x15 h fun x16 h => aArith iadd x10 (AV.int 3 (Int.ofNat 1)) h fun x17 h => kc6 [x16, x8, x9, x17] h) (some (x7, h))) (hd vs) (hd (tl vs)) (hd (tl (tl vs))) (hd (tl (tl (tl vs))))
noncomputable def c_impl_node_nodes (F g : Nat) : AV → H → Option R := Nat.rec (motive := fun _ => AV → H → Option R) (fun _ _ => none) (fun g self a0 h => aBuildSlice 1 1 [(0, 1, a0)] h fun x1 h => aNilCheck a0 h fun x2 h => aField 2 x2 h fun x3 h => aLoad x3 h fun x4 h => aLenK 1 x4 h fun x5 h => loopD F (c_impl_node_nodes_l1 F g self) [x1, x4, x5, (AV.int 3 (Int.ofNat 0))] h) g
noncomputable def A_impl_node_nodes : An := (.two .o (.two .o (.two (.two .o (.two (.at_ [3, 11, 12, 13] (.two .o (.two (.two .o .o) (.two (.two (.two .o .o) .o) .o))) .o) .o)) (.two .o .o))))
noncomputable def b_impl_node_nodes : Code := bodyOf Go.Proofs.Try.f58
theorem k_impl_node_nodes (F g : Nat) (a0 : AV) (h : H) : callD Go.Proofs.Try.prog (Env.add (fun _ _ _ => none : Env) 58 (u1 (c_impl_node_nodes F g))) 23 F b_impl_node_nodes [2] A_impl_node_nodes [a0] h = c_impl_node_nodes F (g + 1) a0 h := by kernel_rfl
theorem co_impl_node_nodes {Post : Value → World → Prop} {main : Bool} {fk : Option Fk} (F g : Nat) : ∀ args h r, u1 (c_impl_node_nodes F g) args h = some r → CoTri Go.Proofs.Try.prog tW Post main (fk, true) 58 args h r := by
  induction g with
  | zero => intro args h r e; obtain ⟨a0, rfl, e⟩ := u1_some e; cases e
  | succ g ih => intro args h r e; obtain ⟨a0, rfl, e1⟩ := u1_some e; exact fn_soundC Go.Proofs.Try.func58 rfl rfl rfl Go.Proofs.Try.ntmps58 (by kernel_rfl) (CoSound.add (CoSound.none _ _ _ _ _) ih) ((k_impl_node_nodes F g a0 h).trans e1)
theorem wk_impl_node_nodes {Post : Value → World → Prop} {main : Bool} (F g : Nat) : ∀ args h r, u1 (c_impl_node_nodes F g) args h = some r → CoTri Go.Proofs.Try.prog tW Post main (none, false) 58 args h r := fun args h r e => (co_impl_node_nodes F g args h r e).weak

-- "(*loop.example/treenumbers/impl.node).size"
noncomputable def c_impl_node_size (F g : Nat) (a0 : AV) (h : H) : Option R := bindR (c_impl_node_nodes F g a0 h) fun x1 h => aLenK 1 x1 h fun x2 h => some (x2, h)
noncomputable def A_impl_node_size : An := (.two .o (.two .o .o))
noncomputable def b_impl_node_size : Code := bodyOf Go.Proofs.Try.f63
theorem k_impl_node_size (F g : Nat) (a0 : AV) (h : H) : callD Go.Proofs.Try.prog (Env.add (fun _ _ _ => none : Env) 58 (u1 (c_impl_node_nodes F g))) 6 F b_impl_node_size [2] A_impl_node_size [a0] h = c_impl_node_size F g a0 h := by kernel_rfl
theorem co_impl_node_size {Post : Value → World → Prop} {main : Bool} {fk : Option Fk} (F g : Nat) : ∀ args h r, u1 (c_impl_node_size F g) args h = some r → CoTri Go.Proofs.Try.prog tW Post main (fk, true) 63 args h r := by
  intro args h r e; obtain ⟨a0, rfl, e1⟩ := u1_some e; exact fn_soundC Go.Proofs.Try.func63 rfl rfl rfl Go.Proofs.Try.ntmps63 (by kernel_rfl) (CoSound.add (CoSound.none _ _ _ _ _) (co_impl_node_nodes F g)) ((k_impl_node_size F g a0 h).trans e1)
theorem wk_impl_node_size {Post : Value → World → Prop} {main : Bool} (F g : Nat) : ∀ args h r, u1 (c_impl_node_size F g) args h = some r → CoTri Go.Proofs.Try.prog tW Post main (none, false) 63 args h r := fun args h r e => (co_impl_node_size F g args h r e).weak

-- "loop.example/treenumbers/spec.l1Opens"
noncomputable def c_spec_l1Opens_j1 (F g : Nat) (kc2 : List AV → H → Option R) (vs : List AV) (h : H) : Option R := (fun x9 x10 x11 => aArith iadd x11 (AV.int 3 (Int.ofNat 1)) h fun x12 h => kc2 [x9, x10, x12] h) (hd vs) (hd (tl vs)) (hd (tl (tl vs)))
noncomputable def c_spec_l1Opens_l2 (F g : Nat) : List AV → H → (List AV → H → Option R) → Option R := fun vs h kc2 => (fun x3 x4 x5 => aLenK 0 x3 h fun x6 h => aCmpI ilt x5 x6 h fun x7 h => withBool x7 fun t8 => bc t8 (aIdxStr x3 x5 h fun x13 h => aCmpI ieq x13 (AV.int 4 (Int.ofNat 40)) h fun x14 h => withBool x14 fun t15 => bc t15 (aBuildSlice 1 1 [(0, 1, x5)] h fun x16 h => aAppend 1 8 x4 x16 h fun x17 h => (c_spec_l1Opens_j1 F g kc2) [x3, x17, x5] h) ((c_spec_l1Opens_j1 F g kc2) [x3, x4, x5] h)) (some (x4, h))) (hd vs) (hd (tl vs)) (hd (tl (tl vs)))
noncomputable def c_spec_l1Opens (F g : Nat) (a0 : AV) (h : H) : Option R := aBuildSlice 0 1 [] h fun x1 h => loopD F (c_spec_l1Opens_l2 F g) [a0, x1, (AV.int 3 (Int.ofNat 0))] h
noncomputable def A_spec_l1Opens : An := (.two .o (.two .o (.two (.two .o (.two (.at_ [0, 3, 4] (.two (.two .o (.two .o .o)) (.at_ [0, 3, 4] (.two (.two .o (.two .o .o)) .o) .o)) .o) .o)) (.two .o .o))))
noncomputable def b_spec_l1Opens : Code := bodyOf Go.Proofs.Try.f85
theorem k_spec_l1Opens (F g : Nat) (a0 : AV) (h : H) : callD Go.Proofs.Try.prog (fun _ _ _ => none : Env) 21 F b_spec_l1Opens [2] A_spec_l1Opens [a0] h = c_spec_l1Opens F g a0 h := by kernel_rfl
theorem co_spec_l1Opens {Post : Value → World → Prop} {main : Bool} {fk : Option Fk} (F g : Nat) : ∀ args h r, u1 (c_spec_l1Opens F g) args h = some r → CoTri Go.Proofs.Try.prog tW Post main (fk, true) 85 args h r := by
  intro args h r e; obtain ⟨a0, rfl, e1⟩ := u1_some e; exact fn_soundC Go.Proofs.Try.func85 rfl rfl rfl Go.Proofs.Try.ntmps85 (by kernel_rfl) (CoSound.none _ _ _ _ _) ((k_spec_l1Opens F g a0 h).trans e1)
theorem wk_spec_l1Opens {Post : Value → World → Prop} {main : Bool} (F g : Nat) : ∀ args h r, u1 (c_spec_l1Opens F g) args h = some r → CoTri Go.Proofs.Try.prog tW Post main (none, false) 85 args h r := fun args h r e => (co_spec_l1Opens F g args h r e).weak

-- "loop.example/treenumbers/spec.l1End"
noncomputable def c_spec_l1End_j1 (F g : Nat) (kc1 : List AV → H → Option R) (vs : List AV) (h : H) : Option R := (fun x8 x9 x10 => aCmpI ieq x9 (AV.int 3 (Int.ofNat 0)) h fun x11 h => withBool x11 fun t12 => bc t12 (aArith iadd x10 (AV.int 3 (Int.ofNat 1)) h fun x13 h => some (x13, h)) (aCmpI ilt x9 (AV.int 3 (Int.ofNat 0)) h fun x14 h => withBool x14 fun t15 => bc t15 (some ((AV.int 3 (Int.negSucc 0)), h)) (aArith iadd x10 (AV.int 3 (Int.ofNat 1)) h fun x16 h => kc1 [x8, x9, x16] h))) (hd vs) (hd (tl vs)) (hd (tl (tl vs)))
noncomputable def c_spec_l1End_l2 (F g : Nat) : List AV → H → (List AV → H → Option R) → Option R := fun vs h kc1 => (fun x2 x3 x4 => aLenK 0 x2 h fun x5 h => aCmpI ilt x4 x5 h fun x6 h => withBool x6 fun t7 => bc t7 (aIdxStr x2 x4 h fun x17 h => aCmpI ieq x17 (AV.int 4 (Int.ofNat 40)) h fun x18 h => withBool x18 fun t19 => bc t19 (aArith iadd x3 (AV.int 3 (Int.ofNat 1)) h fun x20 h => (c_spec_l1End_j1 F g kc1) [x2, x20, x4] h) (aCmpI ieq x17 (AV.int 4 (Int.ofNat 41)) h fun x21 h => withBool x21 fun t22 => bc t22 (aArith isub x3 (AV.int 3 (Int.ofNat 1)) h fun x23 h => (c_spec_l1End_j1 F g kc1) [x2, x23, x4] h) (some ((AV.int 3 (Int.negSucc 0)), h)))) (some ((AV.int 3 (Int.negSucc 0)), h))) (hd vs) (hd (tl vs)) (hd (tl (tl vs)))
noncomputable def c_spec_l1End (F g : Nat) (a0 a1 : AV) (h : H) : Option R := loopD F (c_spec_l1End_l2 F g) [a0, (AV.int 3 (Int.ofNat 0)), a1] h
noncomputable def A_spec_l1End : An := (.two .o (.two .o (.two (.two .o (.two (.at_ [0, 5, 6] (.two (.two .o (.two .o .o)) (.two (.two (.at_ [0, 5, 6] (.two .o (.two (.two .o (.two .o (.two .o (.two .o (.two .o .o))))) .o)) (.two (.two .o (.two (.two .o .o) .o)) (.two .o (.two (.two .o .o) .o)))) .o) .o)) .o) .o)) (.two .o .o))))
noncomputable def b_spec_l1End : Code := bodyOf Go.Proofs.Try.f86
theorem k_spec_l1End (F g : Nat) (a0 a1 : AV) (h : H) : callD Go.Proofs.Try.prog (fun _ _ _ => none : Env) 31 F b_spec_l1End [4] A_spec_l1End [a0, a1] h = c_spec_l1End F g a0 a1 h := by kernel_rfl
theorem co_spec_l1End {Post : Value → World → Prop} {main : Bool} {fk : Option Fk} (F g : Nat) : ∀ args h r, u2 (c_spec_l1End F g) args h = some r → CoTri Go.Proofs.Try.prog tW Post main (fk, true) 86 args h r := by
  intro args h r e; obtain ⟨a0, a1, rfl, e1⟩ := u2_some e; exact fn_soundC Go.Proofs.Try.func86 rfl rfl rfl Go.Proofs.Try.ntmps86 (by kernel_rfl) (CoSound.none _ _ _ _ _) ((k_spec_l1End F g a0 a1 h).trans e1)
theorem wk_spec_l1End {Post : Value → World → Prop} {main : Bool} (F g : Nat) : ∀ args h r, u2 (c_spec_l1End F g) args h = some r → CoTri Go.Proofs.Try.prog tW Post main (none, false) 86 args h r := fun args h r e => (co_spec_l1End F g args h r e).weak

-- "loop.example/treenumbers/spec.l1Part"
noncomputable def c_spec_l1Part (F g : Nat) (a0 a1 : AV) (h : H) : Option R := bindR (c_spec_l1Opens F g a0 h) fun x1 h => aIdxAddr 1 x1 a1 h fun x2 h => aLoad x2 h fun x3 h => bindR (c_spec_l1End F g a0 x3 h) fun x4 h => aSliceS a0 (some x3) (some x4) none h fun x5 h => some (x5, h)
noncomputable def A_spec_l1Part : An := (.two .o (.two .o (.two .o .o)))
noncomputable def b_spec_l1Part : Code := bodyOf Go.Proofs.Try.f61
theorem k_spec_l1Part (F g : Nat) (a0 a1 : AV) (h : H) : callD Go.Proofs.Try.prog (Env.add (Env.add (fun _ _ _ => none : Env) 85 (u1 (c_spec_l1Opens F g))) 86 (u2 (c_spec_l1End F g))) 17 F b_spec_l1Part [4] A_spec_l1Part [a0, a1] h = c_spec_l1Part F g a0 a1 h := by kernel_rfl
theorem co_spec_l1Part {Post : Value → World → Prop} {main : Bool} {fk : Option Fk} (F g : Nat) : ∀ args h r, u2 (c_spec_l1Part F g) args h = some r → CoTri Go.Proofs.Try.prog tW Post main (fk, true) 61 args h r := by
  intro args h r e; obtain ⟨a0, a1, rfl, e1⟩ := u2_some e; exact fn_soundC Go.Proofs.Try.func61 rfl rfl rfl Go.Proofs.Try.ntmps61 (by kernel_rfl) (CoSound.add (CoSound.add (CoSound.none _ _ _ _ _) (co_spec_l1Opens F g)) (co_spec_l1End F g)) ((k_spec_l1Part F g a0 a1 h).trans e1)
theorem wk_spec_l1Part {Post : Value → World → Prop} {main : Bool} (F g : Nat) : ∀ args h r, u2 (c_spec_l1Part F g) args h = some r → CoTri Go.Proofs.Try.prog tW Post main (none, false) 61 args h r := fun args h r e => (co_spec_l1Part F g args h r e).weak

-- "loop.example/treenumbers/spec.l4Sizes"
noncomputable def c_spec_l4Sizes_l1 (F g : Nat) : List AV → H → (List AV → H → Option R) → Option R := fun vs h kc2 => (fun x3 x4 x5 => aLenK 0 x3 h fun x6 h => aQuo x6 (AV.int 3 (Int.ofNat 2)) h fun x7 h => aCmpI ilt x5 x7 h fun x8 h => withBool x8 fun t9 => bc t9 (bindR (c_spec_l1Part F g x3 x5 h) fun x10 h => aLenK 0 x10 h fun x11 h => aQuo x11 (AV.int 3 (Int.ofNat 2)) h fun x12 h => aBuildSlice 1 1 [(0, 1, x12)] h fun x13 h => aAppend 1 8 x4 x13 h fun x14 h => aArith iadd x5 (AV.int 3 (Int.ofNat 1)) h fun x15 h => kc2 [x3, x14, x15] h) (some (x4, h))) (hd vs) (hd (tl vs)) (hd (tl (tl vs)))
noncomputable def c_spec_l4Sizes (F g : Nat) (a0 : AV) (h : H) : Option R := aBuildSlice 0 1 [] h fun x1 h => loopD F (c_spec_l4Sizes_l1 F g) [a0, x1, (AV.int 3 (Int.ofNat 0))] h
noncomputable def A_spec_l4Sizes : An := (.two .o (.two .o (.two (.two .o (.two (.at_ [0, 3, 4] (.two (.two .o (.two .o .o)) (.two (.two .o .o) .o)) .o) .o)) (.two .o .o))))
noncomputable def b_spec_l4Sizes : Code := bodyOf Go.Proofs.Try.f75
theorem k_spec_l4Sizes (F g : Nat) (a0 : AV) (h : H) : callD Go.Proofs.Try.prog (Env.add (fun _ _ _ => none : Env) 61 (u2 (c_spec_l1Part F g))) 22 F b_spec_l4Sizes [2] A_spec_l4Sizes [a0] h = c_spec_l4Sizes F g a0 h := by kernel_rfl
theorem co_spec_l4Sizes {Post : Value → World → Prop} {main : Bool} {fk : Option Fk} (F g : Nat) : ∀ args h r, u1 (c_spec_l4Sizes F g) args h = some r → CoTri Go.Proofs.Try.prog tW Post main (fk, true) 75 args h r := by
  intro args h r e; obtain ⟨a0, rfl, e1⟩ := u1_some e; exact fn_soundC Go.Proofs.Try.func75 rfl rfl rfl Go.Proofs.Try.ntmps75 (by kernel_rfl) (CoSound.add (CoSound.none _ _ _ _ _) (co_spec_l1Part F g)) ((k_spec_l4Sizes F g a0 h).trans e1)
theorem wk_spec_l4Sizes {Post : Value → World → Prop} {main : Bool} (F g : Nat) : ∀ args h r, u1 (c_spec_l4Sizes F g) args h = some r → CoTri Go.Proofs.Try.prog tW Post main (none, false) 75 args h r := fun args h r e => (co_spec_l4Sizes F g args h r e).weak

-- "loop.example/treenumbers/spec.CountSizes"
noncomputable def c_spec_CountSizes (F g : Nat) (a0 : AV) (h : H) : Option R := bindR (c_spec_TreeIn F g a0 h) fun x1 h => aNot x1 h fun x2 h => withBool x2 fun t3 => bc t3 (aBuildSlice 0 1 [] h fun x4 h => some (AV.one .tup (AV.cons x4 (AV.cons (AV.bool false) (AV.leaf .nil))), h)) (bindR (c_spec_l4Sizes F g a0 h) fun x5 h => some (AV.one .tup (AV.cons x5 (AV.cons (AV.bool true) (AV.leaf .nil))), h))
noncomputable def A_spec_CountSizes : An := (.two .o (.two (.two .o (.two (.two .o .o) .o)) (.two .o .o)))
noncomputable def b_spec_CountSizes : Code := bodyOf Go.Proofs.Try.f41
theorem k_spec_CountSizes (F g : Nat) (a0 : AV) (h : H) : callD Go.Proofs.Try.prog (Env.add (Env.add (fun _ _ _ => none : Env) 67 (u1 (c_spec_TreeIn F g))) 75 (u1 (c_spec_l4Sizes F g))) 10 F b_spec_CountSizes [2, 3] A_spec_CountSizes [a0] h = c_spec_CountSizes F g a0 h := by kernel_rfl
theorem co_spec_CountSizes {Post : Value → World → Prop} {main : Bool} {fk : Option Fk} (F g : Nat) : ∀ args h r, u1 (c_spec_CountSizes F g) args h = some r → CoTri Go.Proofs.Try.prog tW Post main (fk, true) 41 args h r := by
  intro args h r e; obtain ⟨a0, rfl, e1⟩ := u1_some e; exact fn_soundC Go.Proofs.Try.func41 rfl rfl rfl Go.Proofs.Try.ntmps41 (by kernel_rfl) (CoSound.add (CoSound.add (CoSound.none _ _ _ _ _) (co_spec_TreeIn F g)) (co_spec_l4Sizes F g)) ((k_spec_CountSizes F g a0 h).trans e1)
theorem wk_spec_CountSizes {Post : Value → World → Prop} {main : Bool} (F g : Nat) : ∀ args h r, u1 (c_spec_CountSizes F g) args h = some r → CoTri Go.Proofs.Try.prog tW Post main (none, false) 41 args h r := fun args h r e => (co_spec_CountSizes F g args h r e).weak

/-- counts, by reckoning. -/
abbrev G_counts (F g : Nat) : Env := (Env.add (fun _ _ _ => none : Env) 63 (u1 (c_impl_node_size F g)))
noncomputable def c_impl_node_counts (F g : Nat) (a0 a1 : AV) (h : H) : Option R := onSome (cts (G_counts F g) h.fz a1 12 a0) fun L => some (resC h.fz L)
theorem co_impl_node_counts {Post : Value → World → Prop} {main : Bool} (F g : Nat) : ∀ args h r, u2 (c_impl_node_counts F g) args h = some r → CoTri Go.Proofs.Try.prog tW Post main (none, false) n_c args h r := by
  intro args h r e; obtain ⟨a0, a1, rfl, e1⟩ := u2_some e
  obtain ⟨L, e2, e3⟩ := onSome_some e1
  cases e3
  exact cts_sound (G := G_counts F g) (fun main k => (CoSound.add (CoSound.none _ _ _ _ _) (co_impl_node_size F g))) rfl e2

-- "loop.example/treenumbers/impl.countsIn"
noncomputable def c_impl_countsIn (F g : Nat) (a0 a1 : AV) (h : H) : Option R := bindR (c_impl_readTree F g a0 h) fun x1 h => aExtract x1 0 h fun x2 h => aExtract x1 1 h fun x3 h => aNot x3 h fun x4 h => withBool x4 fun t5 => bc t5 (some (AV.one .tup (AV.cons (AV.leaf .nils) (AV.cons (AV.bool false) (AV.leaf .nil))), h)) (bindR (c_impl_node_counts F g x2 a1 h) fun x6 h => some (AV.one .tup (AV.cons x6 (AV.cons (AV.bool true) (AV.leaf .nil))), h))
noncomputable def A_impl_countsIn : An := (.two .o (.two .o (.two (.two .o (.two (.two .o .o) .o)) (.two .o .o))))
noncomputable def b_impl_countsIn : Code := bodyOf Go.Proofs.Try.f62
theorem k_impl_countsIn (F g : Nat) (a0 a1 : AV) (h : H) : callD Go.Proofs.Try.prog (Env.add (Env.add (fun _ _ _ => none : Env) 57 (u1 (c_impl_readTree F g))) 87 (u2 (c_impl_node_counts F g))) 18 F b_impl_countsIn [4, 5] A_impl_countsIn [a0, a1] h = c_impl_countsIn F g a0 a1 h := by kernel_rfl
theorem co_impl_countsIn {Post : Value → World → Prop} {main : Bool} (F g : Nat) : ∀ args h r, u2 (c_impl_countsIn F g) args h = some r → CoTri Go.Proofs.Try.prog tW Post main (none, false) 62 args h r := by
  intro args h r e; obtain ⟨a0, a1, rfl, e1⟩ := u2_some e; exact fn_soundC Go.Proofs.Try.func62 rfl rfl rfl Go.Proofs.Try.ntmps62 (by kernel_rfl) (CoSound.add (CoSound.add (CoSound.none _ _ _ _ _) (wk_impl_readTree F g)) (co_impl_node_counts F g)) ((k_impl_countsIn F g a0 a1 h).trans e1)

-- "loop.example/treenumbers/impl.CountSizes"
noncomputable abbrev D_impl_CountSizes (F g : Nat) : Env := (Env.add (fun _ _ _ => none : Env) 63 (u1 (c_impl_node_size F g)))
noncomputable def c_impl_CountSizes (F g : Nat) (a0 : AV) (h : H) : Option R := bindR (c_impl_countsIn F g a0 (AV.func (.func 63) (AV.leaf .nil) (AV.leaf .nil)) h) fun x1 h => aExtract x1 0 h fun x2 h => aExtract x1 1 h fun x3 h => some (AV.one .tup (AV.cons x2 (AV.cons x3 (AV.leaf .nil))), h)
noncomputable def A_impl_CountSizes : An := (.two .o (.two .o .o))
noncomputable def b_impl_CountSizes : Code := bodyOf Go.Proofs.Try.f23
theorem k_impl_CountSizes (F g : Nat) (a0 : AV) (h : H) : callD Go.Proofs.Try.prog (Env.add (D_impl_CountSizes F g) 62 (u2 (c_impl_countsIn F g))) 8 F b_impl_CountSizes [2, 3] A_impl_CountSizes [a0] h = c_impl_CountSizes F g a0 h := by kernel_rfl
theorem co_impl_CountSizes {Post : Value → World → Prop} {main : Bool} (F g : Nat) : ∀ args h r, u1 (c_impl_CountSizes F g) args h = some r → CoTri Go.Proofs.Try.prog tW Post main (none, false) 23 args h r := by
  intro args h r e; obtain ⟨a0, rfl, e1⟩ := u1_some e; exact fn_soundC Go.Proofs.Try.func23 rfl rfl rfl Go.Proofs.Try.ntmps23 (by kernel_rfl) (CoSound.add (CoSound.add (CoSound.none _ _ _ _ _) (wk_impl_node_size F g)) (co_impl_countsIn F g)) ((k_impl_CountSizes F g a0 h).trans e1)

-- "loop.example/treenumbers/laws.eqIntS"
noncomputable def c_laws_eqIntS_l1 (F g : Nat) : List AV → H → (List AV → H → Option R) → Option R := fun vs h kc5 => (fun x6 x7 x8 => aLenK 1 x6 h fun x9 h => aCmpI ilt x8 x9 h fun x10 h => withBool x10 fun t11 => bc t11 (aIdxAddr 1 x6 x8 h fun x12 _ => aLoad x12 h fun x13 _ => aIdxAddr 1 x7 x8 h fun x14 _ => aLoad x14 h fun x15 _ => aCmpI (fun a b => bnot (ieq a b)) x13 x15 h fun x16 _ => withBool x16 fun t17 => bc t17 (some ((AV.bool false), h)) (aArith iadd x8 (AV.int 3 (Int.ofNat 1)) h fun x18 h => kc5 [x6, x7, x18] h)) (some ((AV.bool true), h))) (hd vs) (hd (tl vs)) (hd (tl (tl vs)))
noncomputable def c_laws_eqIntS (F g : Nat) (a0 a1 : AV) (h : H) : Option R := aLenK 1 a0 h fun x1 h => aLenK 1 a1 h fun x2 h => aCmpI (fun a b => bnot (ieq a b)) x1 x2 h fun x3 h => withBool x3 fun t4 => bc t4 (some ((AV.bool false), h)) (loopD F (c_laws_eqIntS_l1 F g) [a0, a1, (AV.int 3 (Int.ofNat 0))] h)
noncomputable def A_laws_eqIntS : An := (.two .o (.two (.two .o (.two (.two .o .o) .o)) (.two (.two .o (.two (.at_ [0, 1, 5] (.two (.two .o (.two .o .o)) (.two (.two (.two .o (.two (.two .o .o) .o)) .o) .o)) .o) .o)) (.two .o .o))))
noncomputable def b_laws_eqIntS : Code := bodyOf Go.Proofs.Try.f51
theorem k_laws_eqIntS (F g : Nat) (a0 a1 : AV) (h : H) : callD Go.Proofs.Try.prog (fun _ _ _ => none : Env) 26 F b_laws_eqIntS [4] A_laws_eqIntS [a0, a1] h = c_laws_eqIntS F g a0 a1 h := by kernel_rfl
theorem co_laws_eqIntS {Post : Value → World → Prop} {main : Bool} {fk : Option Fk} (F g : Nat) : ∀ args h r, u2 (c_laws_eqIntS F g) args h = some r → CoTri Go.Proofs.Try.prog tW Post main (fk, true) 51 args h r := by
  intro args h r e; obtain ⟨a0, a1, rfl, e1⟩ := u2_some e; exact fn_soundC Go.Proofs.Try.func51 rfl rfl rfl Go.Proofs.Try.ntmps51 (by kernel_rfl) (CoSound.none _ _ _ _ _) ((k_laws_eqIntS F g a0 a1 h).trans e1)
theorem wk_laws_eqIntS {Post : Value → World → Prop} {main : Bool} (F g : Nat) : ∀ args h r, u2 (c_laws_eqIntS F g) args h = some r → CoTri Go.Proofs.Try.prog tW Post main (none, false) 51 args h r := fun args h r e => (co_laws_eqIntS F g args h r e).weak

-- "loop.example/treenumbers/laws.markIntS"
noncomputable def c_laws_markIntS_l1 (F g : Nat) : List AV → H → (List AV → H → Option R) → Option R := fun vs h kc1 => (fun x2 x3 x4 => aLenK 1 x2 h fun x5 h => aCmpI ilt x4 x5 h fun x6 h => withBool x6 fun t7 => bc t7 (aIdxAddr 1 x2 x4 h fun x8 h => aStore x8 x3 h fun x9 h => aArith iadd x3 (AV.int 3 (Int.ofNat 1)) h fun x10 h => aArith iadd x4 (AV.int 3 (Int.ofNat 1)) h fun x11 h => kc1 [x2, x10, x11] h) (some (x3, h))) (hd vs) (hd (tl vs)) (hd (tl (tl vs)))
noncomputable def c_laws_markIntS (F g : Nat) (a0 a1 : AV) (h : H) : Option R := loopD F (c_laws_markIntS_l1 F g) [a0, a1, (AV.int 3 (Int.ofNat 0))] h
noncomputable def A_laws_markIntS : An := (.two .o (.two (.two .o (.two (.at_ [0, 1, 5] (.two (.two .o (.two .o .o)) (.two (.two (.two .o .o) .o) .o)) .o) .o)) (.two .o .o)))
noncomputable def b_laws_markIntS : Code := bodyOf Go.Proofs.Try.f52
theorem k_laws_markIntS (F g : Nat) (a0 a1 : AV) (h : H) : callD Go.Proofs.Try.prog (fun _ _ _ => none : Env) 19 F b_laws_markIntS [4] A_laws_markIntS [a0, a1] h = c_laws_markIntS F g a0 a1 h := by kernel_rfl
theorem co_laws_markIntS {Post : Value → World → Prop} {main : Bool} {fk : Option Fk} (F g : Nat) : ∀ args h r, u2 (c_laws_markIntS F g) args h = some r → CoTri Go.Proofs.Try.prog tW Post main (fk, true) 52 args h r := by
  intro args h r e; obtain ⟨a0, a1, rfl, e1⟩ := u2_some e; exact fn_soundC Go.Proofs.Try.func52 rfl rfl rfl Go.Proofs.Try.ntmps52 (by kernel_rfl) (CoSound.none _ _ _ _ _) ((k_laws_markIntS F g a0 a1 h).trans e1)
theorem wk_laws_markIntS {Post : Value → World → Prop} {main : Bool} (F g : Nat) : ∀ args h r, u2 (c_laws_markIntS F g) args h = some r → CoTri Go.Proofs.Try.prog tW Post main (none, false) 52 args h r := fun args h r e => (co_laws_markIntS F g args h r e).weak

-- "loop.example/treenumbers/laws.heldIntS"
noncomputable def c_laws_heldIntS_l1 (F g : Nat) : List AV → H → (List AV → H → Option R) → Option R := fun vs h kc1 => (fun x2 x3 x4 => aLenK 1 x2 h fun x5 h => aCmpI ilt x4 x5 h fun x6 h => withBool x6 fun t7 => bc t7 (aIdxAddr 1 x2 x4 h fun x8 h => aLoad x8 h fun x9 h => aCmpI (fun a b => bnot (ieq a b)) x9 x3 h fun x10 h => withBool x10 fun t11 => bc t11 (some ((AV.int 3 (Int.negSucc 0)), h)) (aArith iadd x3 (AV.int 3 (Int.ofNat 1)) h fun x12 h => aArith iadd x4 (AV.int 3 (Int.ofNat 1)) h fun x13 h => kc1 [x2, x12, x13] h)) (some (x3, h))) (hd vs) (hd (tl vs)) (hd (tl (tl vs)))
noncomputable def c_laws_heldIntS (F g : Nat) (a0 a1 : AV) (h : H) : Option R := loopD F (c_laws_heldIntS_l1 F g) [a0, a1, (AV.int 3 (Int.ofNat 0))] h
noncomputable def A_laws_heldIntS : An := (.two .o (.two (.two .o (.two (.at_ [0, 1, 5] (.two (.two .o (.two .o .o)) (.two (.two (.two (.two .o (.two (.two .o .o) .o)) .o) .o) .o)) .o) .o)) (.two .o .o)))
noncomputable def b_laws_heldIntS : Code := bodyOf Go.Proofs.Try.f53
theorem k_laws_heldIntS (F g : Nat) (a0 a1 : AV) (h : H) : callD Go.Proofs.Try.prog (fun _ _ _ => none : Env) 21 F b_laws_heldIntS [4] A_laws_heldIntS [a0, a1] h = c_laws_heldIntS F g a0 a1 h := by kernel_rfl
theorem co_laws_heldIntS {Post : Value → World → Prop} {main : Bool} {fk : Option Fk} (F g : Nat) : ∀ args h r, u2 (c_laws_heldIntS F g) args h = some r → CoTri Go.Proofs.Try.prog tW Post main (fk, true) 53 args h r := by
  intro args h r e; obtain ⟨a0, a1, rfl, e1⟩ := u2_some e; exact fn_soundC Go.Proofs.Try.func53 rfl rfl rfl Go.Proofs.Try.ntmps53 (by kernel_rfl) (CoSound.none _ _ _ _ _) ((k_laws_heldIntS F g a0 a1 h).trans e1)
theorem wk_laws_heldIntS {Post : Value → World → Prop} {main : Bool} (F g : Nat) : ∀ args h r, u2 (c_laws_heldIntS F g) args h = some r → CoTri Go.Proofs.Try.prog tW Post main (none, false) 53 args h r := fun args h r e => (co_laws_heldIntS F g args h r e).weak

-- "loop.example/treenumbers/laws.FnExactCountSizes"
noncomputable def c_laws_FnExactCountSizes_j1 (F g : Nat) (vs : List AV) (h : H) : Option R := (fun x31 x32 x33 x34 => aPick x33 (AV.bool true) x34 h fun x35 h => withBool x35 fun t36 => bc t36 (some ((AV.bool false), h)) (bindR (c_laws_heldIntS F g x31 (AV.int 3 (Int.ofNat 1)) h) fun x37 h => aCmpI ilt x37 (AV.int 3 (Int.ofNat 0)) h fun x38 h => withBool x38 fun t39 => bc t39 (some ((AV.bool false), h)) (aCmpI (fun a b => bnot (ieq a b)) x37 x32 h fun x40 h => withBool x40 fun t41 => bc t41 (some ((AV.bool false), h)) (some ((AV.bool true), h))))) (hd vs) (hd (tl vs)) (hd (tl (tl vs))) (hd (tl (tl (tl vs))))
noncomputable def c_laws_FnExactCountSizes_j2 (F g : Nat) (vs : List AV) (h : H) : Option R := (fun x12 x13 x14 x15 x16 x17 => aPick x16 (AV.bool true) x17 h fun x18 h => withBool x18 fun t19 => bc t19 (some ((AV.bool false), h)) (bindR (c_laws_markIntS F g x15 (AV.int 3 (Int.ofNat 1)) h) fun x20 h => bindR (c_laws_heldIntS F g x15 (AV.int 3 (Int.ofNat 1)) h) fun x21 h => aCmpI ilt x21 (AV.int 3 (Int.ofNat 0)) h fun x22 h => withBool x22 fun t23 => bc t23 (some ((AV.bool false), h)) (aCmpI (fun a b => bnot (ieq a b)) x21 x20 h fun x24 h => withBool x24 fun t25 => bc t25 (some ((AV.bool false), h)) (bindR (c_impl_CountSizes F g x12 h) fun x26 h => aExtract x26 0 h fun x27 h => aExtract x26 1 h fun x28 h => bindR (c_laws_eqIntS F g x27 x13 h) fun x29 h => aNot x29 h fun x30 h => guardB false x30 (aEq true 0 x28 x14 h fun x42 h => (c_laws_FnExactCountSizes_j1 F g) [x15, x20, x30, x42] h) ((c_laws_FnExactCountSizes_j1 F g) [x15, x20, x30, (AV.one .tup (AV.leaf .nil))] h))))) (hd vs) (hd (tl vs)) (hd (tl (tl vs))) (hd (tl (tl (tl vs)))) (hd (tl (tl (tl (tl vs))))) (hd (tl (tl (tl (tl (tl vs))))))
noncomputable def c_laws_FnExactCountSizes (F g : Nat) (a0 : AV) (h : H) : Option R := aLenK 0 a0 h fun x1 h => aCmpI (fun a b => ilt b a) x1 (AV.int 3 (Int.ofNat 1048576)) h fun x2 h => withBool x2 fun t3 => bc t3 (some ((AV.bool true), h)) (bindR (c_spec_CountSizes F g a0 h) fun x4 h => aExtract x4 0 h fun x5 h => aExtract x4 1 h fun x6 h => bindR (c_impl_CountSizes F g a0 h) fun x7 h => aExtract x7 0 h fun x8 h => aExtract x7 1 h fun x9 h => bindR (c_laws_eqIntS F g x8 x5 h) fun x10 h => aNot x10 h fun x11 h => guardB false x11 (aEq true 0 x9 x6 h fun x43 h => (c_laws_FnExactCountSizes_j2 F g) [a0, x5, x6, x8, x11, x43] h) ((c_laws_FnExactCountSizes_j2 F g) [a0, x5, x6, x8, x11, (AV.one .tup (AV.leaf .nil))] h))
noncomputable def A_laws_FnExactCountSizes : An := (.two .o (.two (.two .o (.two (.two .o .o) .o)) (.two .o (.two .o (.two (.two (.at_ [0, 3, 4, 5, 28, 31] .o .o) (.two (.two .o .o) .o)) (.two .o (.two .o (.two .o (.two .o (.two (.two .o (.two (.two .o .o) .o)) (.two (.two .o (.two (.two .o .o) .o)) (.two .o (.two (.two (.at_ [5, 7, 53, 56] .o .o) (.two (.two .o .o) .o)) (.two .o (.two .o (.two (.two .o (.two (.two .o .o) .o)) (.two (.two .o (.two (.two .o .o) .o)) (.two .o .o))))))))))))))))))
noncomputable def b_laws_FnExactCountSizes : Code := bodyOf Go.Proofs.Try.f13
theorem k_laws_FnExactCountSizes (F g : Nat) (a0 : AV) (h : H) : callD Go.Proofs.Try.prog (Env.add (Env.add (Env.add (Env.add (Env.add (fun _ _ _ => none : Env) 41 (u1 (c_spec_CountSizes F g))) 23 (u1 (c_impl_CountSizes F g))) 51 (u2 (c_laws_eqIntS F g))) 52 (u2 (c_laws_markIntS F g))) 53 (u2 (c_laws_heldIntS F g))) 66 F b_laws_FnExactCountSizes [2] A_laws_FnExactCountSizes [a0] h = c_laws_FnExactCountSizes F g a0 h := by kernel_rfl
theorem co_laws_FnExactCountSizes {Post : Value → World → Prop} {main : Bool} (F g : Nat) : ∀ args h r, u1 (c_laws_FnExactCountSizes F g) args h = some r → CoTri Go.Proofs.Try.prog tW Post main (none, false) 13 args h r := by
  intro args h r e; obtain ⟨a0, rfl, e1⟩ := u1_some e; exact fn_soundC Go.Proofs.Try.func13 rfl rfl rfl Go.Proofs.Try.ntmps13 (by kernel_rfl) (CoSound.add (CoSound.add (CoSound.add (CoSound.add (CoSound.add (CoSound.none _ _ _ _ _) (wk_spec_CountSizes F g)) (co_impl_CountSizes F g)) (wk_laws_eqIntS F g)) (wk_laws_markIntS F g)) (wk_laws_heldIntS F g)) ((k_laws_FnExactCountSizes F g a0 h).trans e1)


theorem root_laws_FnExactCountSizes (F g : Nat) {a0 : AV} {h' : H} (e1 : c_laws_FnExactCountSizes F g a0 H0 = some (.bool true, h')) {v : Value} (hV : VL (fun _ => Option.none) [a0] [v]) (W : World) : Walk Go.Proofs.Try.prog tW (fun v w' => v = .bool true ∧ Below W.heap.size W w') true (lgLaw W) (G (Frame.enter Go.Proofs.Try.prog 13 #[v] .normal) []) W :=
  root_soundC (fk0 := (none, false)) Go.Proofs.Try.func13 rfl (by kernel_rfl) rfl Go.Proofs.Try.ntmps13 (by kernel_rfl) (CoSound.add (CoSound.add (CoSound.add (CoSound.add (CoSound.add (CoSound.none _ _ _ _ _) (wk_spec_CountSizes F g)) (co_impl_CountSizes F g)) (wk_laws_eqIntS F g)) (wk_laws_markIntS F g)) (wk_laws_heldIntS F g)) ((k_laws_FnExactCountSizes F g a0 H0).trans e1) (Rel.empty W) (cov_empty _) hV (fit_law W) rfl rfl rfl fun v s' w' q => law_post q

end
end Go.AI.T
