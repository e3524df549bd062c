/- The functions that the law FnPaths reaches, as the evaluator reads them, in company. -/
import Derived.Test.YtkdialpmplolcaaCo7
import Derived.KernelRfl
namespace Go.AI
open Go Go.RowKit Go.AI Go.Conc Go.Co Go.Co.Cnt
set_option linter.unusedVariables false
set_option linter.unusedSimpArgs false
set_option maxRecDepth 100000
noncomputable section
noncomputable def c_spec_DrawCountPaths (F g : Nat) (a0 : AV) (h : H) : Option R := bindR (c_spec_l91Some F g a0 h) fun x1 h => some (x1, h)
noncomputable def A_spec_DrawCountPaths : An := (.two .o (.two .o .o))
noncomputable def b_spec_DrawCountPaths : Code := bodyOf Go.Proofs.Try.f47
theorem k_spec_DrawCountPaths (F g : Nat) (a0 : AV) (h : H) : callD Go.Proofs.Try.prog (Env.add (fun _ _ _ => none : Env) 75 (u1 (c_spec_l91Some F g))) 5 F b_spec_DrawCountPaths [2] A_spec_DrawCountPaths [a0] h = c_spec_DrawCountPaths F g a0 h := by kernel_rfl
theorem co_spec_DrawCountPaths {Post : Value → World → Prop} {main : Bool} {fk : Option Fk} (F g : Nat) : ∀ args h r, u1 (c_spec_DrawCountPaths F g) args h = some r → CoTri Go.Proofs.Try.prog tW Post main (fk, true) 47 args h r := by
  intro args h r e; obtain ⟨a0, rfl, e1⟩ := u1_some e; exact fn_soundC Go.Proofs.Try.func47 rfl rfl rfl Go.Proofs.Try.ntmps47 (by kernel_rfl) (CoSound.add (CoSound.none _ _ _ _ _) (co_spec_l91Some F g)) ((k_spec_DrawCountPaths F g a0 h).trans e1)

end
end Go.AI
namespace Go.AI.T
open Go Go.RowKit Go.AI Go.Conc Go.Co Go.Co.Cnt
set_option linter.unusedVariables false
set_option linter.unusedSimpArgs false
set_option maxRecDepth 100000
noncomputable section
def c_spec_DrawCountPaths (F g : Nat) (a0 : AV) (h : H) : Option R := quietC (Go.AI.c_spec_DrawCountPaths 20000 20) a0 h
theorem co_spec_DrawCountPaths {Post : Value → World → Prop} {main : Bool} {fk : Option Fk} (F g : Nat) : ∀ args h r, u1 (c_spec_DrawCountPaths F g) args h = some r → CoTri Go.Proofs.Try.prog tW Post main (fk, true) id_spec_DrawCountPaths args h r := co_quietC (Go.AI.co_spec_DrawCountPaths 20000 20)
theorem wk_spec_DrawCountPaths {Post : Value → World → Prop} {main : Bool} (F g : Nat) : ∀ args h r, u1 (c_spec_DrawCountPaths F g) args h = some r → CoTri Go.Proofs.Try.prog tW Post main (none, false) id_spec_DrawCountPaths args h r := fun args h r e => (co_spec_DrawCountPaths F g args h r e).weak
theorem draw_FnPaths (F g : Nat) {a0 : AV} {n : Nat} {L : List AV} {B : Blk} (ha : (a0 = .leaf .nils ∧ n = 0) ∨ a0 = .osl 0 0 n 1) (hB : 0 < n → B = .cells 2 L) (hb : ∀ i, i < n → ∃ v, L[i]? = some (.int 4 (.ofNat v)) ∧ v < 256) :
    ∃ l, (l.length ≤ 300 ∧ (isTree l = true → l.length ≤ 16)) ∧ c_spec_DrawCountPaths F g a0 (hCode B) = some (.str l l.length, hCode B) := by
  obtain ⟨l, h', hl, e, hlo⟩ := some_ok (F := 20000) (g := 20) (h := hCode B) (by omega) ha (fun hn => ⟨2, hB hn⟩) hb (Nat.le_refl _) (Nat.le_refl _)
  refine ⟨l, hl, quietC_ok (h' := h') ?_ rfl hlo⟩
  show bindR (Go.AI.c_spec_l91Some 20000 20 a0 (hCode B)) _ = _
  rw [e]; rfl
noncomputable def c_impl_node_nodes_l1 (F g : Nat) (self : AV → H → Option R) : List AV → H → (List AV → H → Option R) → Option R := fun vs h kc6 => (fun x7 x8 x9 x10 => aCmpI ilt x10 x9 h fun x11 h => withBool x11 fun t12 => bc t12 (aIdxAddr 1 x8 x10 h fun x13 h => aLoad x13 h fun x14 h => bindR (self x14 h) fun x15 h => aAppend 1 8 x7 x15 h fun x16 h => aArith iadd x10 (AV.int 3 (Int.ofNat 1)) h fun x17 h => kc6 [x16, x8, x9, x17] h) (some (x7, h))) (hd vs) (hd (tl vs)) (hd (tl (tl vs))) (hd (tl (tl (tl vs))))
noncomputable def c_impl_node_nodes (F g : Nat) : AV → H → Option R := Nat.rec (motive := fun _ => AV → H → Option R) (fun _ _ => none) (fun g self a0 h => aBuildSlice 1 1 [(0, 1, a0)] h fun x1 h => aNilCheck a0 h fun x2 h => aField 2 x2 h fun x3 h => aLoad x3 h fun x4 h => aLenK 1 x4 h fun x5 h => loopD F (c_impl_node_nodes_l1 F g self) [x1, x4, x5, (AV.int 3 (Int.ofNat 0))] h) g
noncomputable def A_impl_node_nodes : An := (.two .o (.two .o (.two (.two .o (.two (.at_ [3, 11, 12, 13] (.two .o (.two (.two .o .o) (.two (.two (.two .o .o) .o) .o))) .o) .o)) (.two .o .o))))
noncomputable def b_impl_node_nodes : Code := bodyOf Go.Proofs.Try.f69
theorem k_impl_node_nodes (F g : Nat) (a0 : AV) (h : H) : callD Go.Proofs.Try.prog (Env.add (fun _ _ _ => none : Env) 69 (u1 (c_impl_node_nodes F g))) 23 F b_impl_node_nodes [2] A_impl_node_nodes [a0] h = c_impl_node_nodes F (g + 1) a0 h := by kernel_rfl
theorem co_impl_node_nodes {Post : Value → World → Prop} {main : Bool} {fk : Option Fk} (F g : Nat) : ∀ args h r, u1 (c_impl_node_nodes F g) args h = some r → CoTri Go.Proofs.Try.prog tW Post main (fk, true) 69 args h r := by
  induction g with
  | zero => intro args h r e; obtain ⟨a0, rfl, e⟩ := u1_some e; cases e
  | succ g ih => intro args h r e; obtain ⟨a0, rfl, e1⟩ := u1_some e; exact fn_soundC Go.Proofs.Try.func69 rfl rfl rfl Go.Proofs.Try.ntmps69 (by kernel_rfl) (CoSound.add (CoSound.none _ _ _ _ _) ih) ((k_impl_node_nodes F g a0 h).trans e1)
noncomputable def c_impl_node_size (F g : Nat) (a0 : AV) (h : H) : Option R := bindR (c_impl_node_nodes F g a0 h) fun x1 h => aLenK 1 x1 h fun x2 h => some (x2, h)
noncomputable def A_impl_node_size : An := (.two .o (.two .o .o))
noncomputable def b_impl_node_size : Code := bodyOf Go.Proofs.Try.f74
theorem k_impl_node_size (F g : Nat) (a0 : AV) (h : H) : callD Go.Proofs.Try.prog (Env.add (fun _ _ _ => none : Env) 69 (u1 (c_impl_node_nodes F g))) 6 F b_impl_node_size [2] A_impl_node_size [a0] h = c_impl_node_size F g a0 h := by kernel_rfl
theorem co_impl_node_size {Post : Value → World → Prop} {main : Bool} {fk : Option Fk} (F g : Nat) : ∀ args h r, u1 (c_impl_node_size F g) args h = some r → CoTri Go.Proofs.Try.prog tW Post main (fk, true) 74 args h r := by
  intro args h r e; obtain ⟨a0, rfl, e1⟩ := u1_some e; exact fn_soundC Go.Proofs.Try.func74 rfl rfl rfl Go.Proofs.Try.ntmps74 (by kernel_rfl) (CoSound.add (CoSound.none _ _ _ _ _) (co_impl_node_nodes F g)) ((k_impl_node_size F g a0 h).trans e1)
theorem wk_impl_node_size {Post : Value → World → Prop} {main : Bool} (F g : Nat) : ∀ args h r, u1 (c_impl_node_size F g) args h = some r → CoTri Go.Proofs.Try.prog tW Post main (none, false) 74 args h r := fun args h r e => (co_impl_node_size F g args h r e).weak
/-- counts, by reckoning. -/
abbrev G_counts (F g : Nat) : Env := (Env.add (fun _ _ _ => none : Env) 74 (u1 (c_impl_node_size F g)))
noncomputable def c_impl_node_counts (F g : Nat) (a0 a1 : AV) (h : H) : Option R := onSome (cts (G_counts F g) h.fz a1 12 a0) fun L => some (resC h.fz L)
theorem co_impl_node_counts {Post : Value → World → Prop} {main : Bool} (F g : Nat) : ∀ args h r, u2 (c_impl_node_counts F g) args h = some r → CoTri Go.Proofs.Try.prog tW Post main (none, false) n_c args h r := by
  intro args h r e; obtain ⟨a0, a1, rfl, e1⟩ := u2_some e
  obtain ⟨L, e2, e3⟩ := onSome_some e1
  cases e3
  exact cts_sound (G := G_counts F g) (fun main k => (CoSound.add (CoSound.none _ _ _ _ _) (co_impl_node_size F g))) rfl e2
noncomputable def c_impl_countsIn (F g : Nat) (a0 a1 : AV) (h : H) : Option R := bindR (c_impl_readTree F g a0 h) fun x1 h => aExtract x1 0 h fun x2 h => aExtract x1 1 h fun x3 h => aNot x3 h fun x4 h => withBool x4 fun t5 => bc t5 (some (AV.one .tup (AV.cons (AV.leaf .nils) (AV.cons (AV.bool false) (AV.leaf .nil))), h)) (bindR (c_impl_node_counts F g x2 a1 h) fun x6 h => some (AV.one .tup (AV.cons x6 (AV.cons (AV.bool true) (AV.leaf .nil))), h))
noncomputable def A_impl_countsIn : An := (.two .o (.two .o (.two (.two .o (.two (.two .o .o) .o)) (.two .o .o))))
noncomputable def b_impl_countsIn : Code := bodyOf Go.Proofs.Try.f73
theorem k_impl_countsIn (F g : Nat) (a0 a1 : AV) (h : H) : callD Go.Proofs.Try.prog (Env.add (Env.add (fun _ _ _ => none : Env) 68 (u1 (c_impl_readTree F g))) 102 (u2 (c_impl_node_counts F g))) 18 F b_impl_countsIn [4, 5] A_impl_countsIn [a0, a1] h = c_impl_countsIn F g a0 a1 h := by kernel_rfl
theorem co_impl_countsIn {Post : Value → World → Prop} {main : Bool} (F g : Nat) : ∀ args h r, u2 (c_impl_countsIn F g) args h = some r → CoTri Go.Proofs.Try.prog tW Post main (none, false) 73 args h r := by
  intro args h r e; obtain ⟨a0, a1, rfl, e1⟩ := u2_some e; exact fn_soundC Go.Proofs.Try.func73 rfl rfl rfl Go.Proofs.Try.ntmps73 (by kernel_rfl) (CoSound.add (CoSound.add (CoSound.none _ _ _ _ _) (wk_impl_readTree F g)) (co_impl_node_counts F g)) ((k_impl_countsIn F g a0 a1 h).trans e1)
noncomputable abbrev D_impl_CountSizes (F g : Nat) : Env := (Env.add (fun _ _ _ => none : Env) 74 (u1 (c_impl_node_size F g)))
noncomputable def c_impl_CountSizes (F g : Nat) (a0 : AV) (h : H) : Option R := bindR (c_impl_countsIn F g a0 (AV.func (.func 74) (AV.leaf .nil) (AV.leaf .nil)) h) fun x1 h => aExtract x1 0 h fun x2 h => aExtract x1 1 h fun x3 h => some (AV.one .tup (AV.cons x2 (AV.cons x3 (AV.leaf .nil))), h)
noncomputable def A_impl_CountSizes : An := (.two .o (.two .o .o))
noncomputable def b_impl_CountSizes : Code := bodyOf Go.Proofs.Try.f26
theorem k_impl_CountSizes (F g : Nat) (a0 : AV) (h : H) : callD Go.Proofs.Try.prog (Env.add (D_impl_CountSizes F g) 73 (u2 (c_impl_countsIn F g))) 8 F b_impl_CountSizes [2, 3] A_impl_CountSizes [a0] h = c_impl_CountSizes F g a0 h := by kernel_rfl
theorem co_impl_CountSizes {Post : Value → World → Prop} {main : Bool} (F g : Nat) : ∀ args h r, u1 (c_impl_CountSizes F g) args h = some r → CoTri Go.Proofs.Try.prog tW Post main (none, false) 26 args h r := by
  intro args h r e; obtain ⟨a0, rfl, e1⟩ := u1_some e; exact fn_soundC Go.Proofs.Try.func26 rfl rfl rfl Go.Proofs.Try.ntmps26 (by kernel_rfl) (CoSound.add (CoSound.add (CoSound.none _ _ _ _ _) (wk_impl_node_size F g)) (co_impl_countsIn F g)) ((k_impl_CountSizes F g a0 h).trans e1)
noncomputable def c_impl_CountPaths_l1 (F g : Nat) : List AV → H → (List AV → H → Option R) → Option R := fun vs h kc7 => (fun x8 x9 x10 x11 => aCmpI ilt x11 x10 h fun x12 h => withBool x12 fun t13 => bc t13 (aIdxAddr 1 x9 x11 h fun x14 h => aLoad x14 h fun x15 h => aArith isub x15 (AV.int 3 (Int.ofNat 1)) h fun x16 h => aArith iadd x8 x16 h fun x17 h => aArith iadd x11 (AV.int 3 (Int.ofNat 1)) h fun x18 h => kc7 [x17, x9, x10, x18] h) (some (AV.one .tup (AV.cons x8 (AV.cons (AV.bool true) (AV.leaf .nil))), h))) (hd vs) (hd (tl vs)) (hd (tl (tl vs))) (hd (tl (tl (tl vs))))
noncomputable def c_impl_CountPaths (F g : Nat) (a0 : AV) (h : H) : Option R := bindR (c_impl_CountSizes F g a0 h) fun x1 h => aExtract x1 0 h fun x2 h => aExtract x1 1 h fun x3 h => aNot x3 h fun x4 h => withBool x4 fun t5 => bc t5 (some (AV.one .tup (AV.cons (AV.int 3 (Int.ofNat 0)) (AV.cons (AV.bool false) (AV.leaf .nil))), h)) (aLenK 1 x2 h fun x6 h => loopD F (c_impl_CountPaths_l1 F g) [(AV.int 3 (Int.ofNat 0)), x2, x6, (AV.int 3 (Int.ofNat 0))] h)
noncomputable def A_impl_CountPaths : An := (.two .o (.two .o (.two (.two .o (.two (.two .o .o) .o)) (.two .o (.two (.two .o (.two (.at_ [6, 16, 17, 18] (.two .o (.two (.two .o .o) (.two (.two (.two .o .o) .o) .o))) .o) .o)) (.two .o .o))))))
noncomputable def b_impl_CountPaths : Code := bodyOf Go.Proofs.Try.f48
theorem k_impl_CountPaths (F g : Nat) (a0 : AV) (h : H) : callD Go.Proofs.Try.prog (Env.add (fun _ _ _ => none : Env) 26 (u1 (c_impl_CountSizes F g))) 28 F b_impl_CountPaths [2, 3] A_impl_CountPaths [a0] h = c_impl_CountPaths F g a0 h := by kernel_rfl
theorem co_impl_CountPaths {Post : Value → World → Prop} {main : Bool} (F g : Nat) : ∀ args h r, u1 (c_impl_CountPaths F g) args h = some r → CoTri Go.Proofs.Try.prog tW Post main (none, false) 48 args h r := by
  intro args h r e; obtain ⟨a0, rfl, e1⟩ := u1_some e; exact fn_soundC Go.Proofs.Try.func48 rfl rfl rfl Go.Proofs.Try.ntmps48 (by kernel_rfl) (CoSound.add (CoSound.none _ _ _ _ _) (co_impl_CountSizes F g)) ((k_impl_CountPaths F g a0 h).trans e1)
noncomputable def c_spec_l1Depths_j1 (F g : Nat) (kc2 : List AV → H → Option R) (vs : List AV) (h : H) : Option R := (fun x10 x11 x12 x13 => aArith iadd x13 (AV.int 3 (Int.ofNat 1)) h fun x14 h => kc2 [x10, x11, x12, x14] h) (hd vs) (hd (tl vs)) (hd (tl (tl vs))) (hd (tl (tl (tl vs))))
noncomputable def c_spec_l1Depths_l2 (F g : Nat) : List AV → H → (List AV → H → Option R) → Option R := fun vs h kc2 => (fun x3 x4 x5 x6 => aLenK 0 x3 h fun x7 h => aCmpI ilt x6 x7 h fun x8 h => withBool x8 fun t9 => bc t9 (aIdxStr x3 x6 h fun x15 h => aCmpI ieq x15 (AV.int 4 (Int.ofNat 40)) h fun x16 h => withBool x16 fun t17 => bc t17 (aBuildSlice 1 1 [(0, 1, x5)] h fun x18 h => aAppend 1 8 x4 x18 h fun x19 h => aArith iadd x5 (AV.int 3 (Int.ofNat 1)) h fun x20 h => (c_spec_l1Depths_j1 F g kc2) [x3, x19, x20, x6] h) (aArith isub x5 (AV.int 3 (Int.ofNat 1)) h fun x21 h => (c_spec_l1Depths_j1 F g kc2) [x3, x4, x21, x6] h)) (some (x4, h))) (hd vs) (hd (tl vs)) (hd (tl (tl vs))) (hd (tl (tl (tl vs))))
noncomputable def c_spec_l1Depths (F g : Nat) (a0 : AV) (h : H) : Option R := aBuildSlice 0 1 [] h fun x1 h => loopD F (c_spec_l1Depths_l2 F g) [a0, x1, (AV.int 3 (Int.ofNat 0)), (AV.int 3 (Int.ofNat 0))] h
noncomputable def A_spec_l1Depths : An := (.two .o (.two .o (.two .o (.two (.two .o (.two (.at_ [0, 3, 4, 5] (.two (.two .o (.two .o .o)) (.at_ [0, 3, 4, 5] (.two (.two .o (.two (.two .o .o) .o)) .o) .o)) .o) .o)) (.two .o .o)))))
noncomputable def b_spec_l1Depths : Code := bodyOf Go.Proofs.Try.f88
theorem k_spec_l1Depths (F g : Nat) (a0 : AV) (h : H) : callD Go.Proofs.Try.prog (fun _ _ _ => none : Env) 26 F b_spec_l1Depths [2] A_spec_l1Depths [a0] h = c_spec_l1Depths F g a0 h := by kernel_rfl
theorem co_spec_l1Depths {Post : Value → World → Prop} {main : Bool} {fk : Option Fk} (F g : Nat) : ∀ args h r, u1 (c_spec_l1Depths F g) args h = some r → CoTri Go.Proofs.Try.prog tW Post main (fk, true) 88 args h r := by
  intro args h r e; obtain ⟨a0, rfl, e1⟩ := u1_some e; exact fn_soundC Go.Proofs.Try.func88 rfl rfl rfl Go.Proofs.Try.ntmps88 (by kernel_rfl) (CoSound.none _ _ _ _ _) ((k_spec_l1Depths F g a0 h).trans e1)
noncomputable def c_spec_CountPaths_l1 (F g : Nat) : List AV → H → (List AV → H → Option R) → Option R := fun vs h kc5 => (fun x6 x7 x8 => aLenK 1 x7 h fun x9 h => aCmpI ilt x8 x9 h fun x10 h => withBool x10 fun t11 => bc t11 (aIdxAddr 1 x7 x8 h fun x12 h => aLoad x12 h fun x13 h => aArith iadd x6 x13 h fun x14 h => aArith iadd x8 (AV.int 3 (Int.ofNat 1)) h fun x15 h => kc5 [x14, x7, x15] h) (some (AV.one .tup (AV.cons x6 (AV.cons (AV.bool true) (AV.leaf .nil))), h))) (hd vs) (hd (tl vs)) (hd (tl (tl vs)))
noncomputable def c_spec_CountPaths (F g : Nat) (a0 : AV) (h : H) : Option R := bindR (c_spec_TreeIn F g a0 h) fun x1 h => aNot x1 h fun x2 h => withBool x2 fun t3 => bc t3 (some (AV.one .tup (AV.cons (AV.int 3 (Int.ofNat 0)) (AV.cons (AV.bool false) (AV.leaf .nil))), h)) (bindR (c_spec_l1Depths F g a0 h) fun x4 h => loopD F (c_spec_CountPaths_l1 F g) [(AV.int 3 (Int.ofNat 0)), x4, (AV.int 3 (Int.ofNat 0))] h)
noncomputable def A_spec_CountPaths : An := (.two .o (.two (.two .o (.two (.two .o .o) .o)) (.two .o (.two .o (.two (.two .o (.two (.at_ [4, 5, 6] (.two (.two .o (.two .o .o)) (.two (.two .o .o) .o)) .o) .o)) (.two .o .o))))))
noncomputable def b_spec_CountPaths : Code := bodyOf Go.Proofs.Try.f49
theorem k_spec_CountPaths (F g : Nat) (a0 : AV) (h : H) : callD Go.Proofs.Try.prog (Env.add (Env.add (fun _ _ _ => none : Env) 78 (u1 (c_spec_TreeIn F g))) 88 (u1 (c_spec_l1Depths F g))) 25 F b_spec_CountPaths [2, 3] A_spec_CountPaths [a0] h = c_spec_CountPaths F g a0 h := by kernel_rfl
theorem co_spec_CountPaths {Post : Value → World → Prop} {main : Bool} {fk : Option Fk} (F g : Nat) : ∀ args h r, u1 (c_spec_CountPaths F g) args h = some r → CoTri Go.Proofs.Try.prog tW Post main (fk, true) 49 args h r := by
  intro args h r e; obtain ⟨a0, rfl, e1⟩ := u1_some e; exact fn_soundC Go.Proofs.Try.func49 rfl rfl rfl Go.Proofs.Try.ntmps49 (by kernel_rfl) (CoSound.add (CoSound.add (CoSound.none _ _ _ _ _) (co_spec_TreeIn F g)) (co_spec_l1Depths F g)) ((k_spec_CountPaths F g a0 h).trans e1)
theorem wk_spec_CountPaths {Post : Value → World → Prop} {main : Bool} (F g : Nat) : ∀ args h r, u1 (c_spec_CountPaths F g) args h = some r → CoTri Go.Proofs.Try.prog tW Post main (none, false) 49 args h r := fun args h r e => (co_spec_CountPaths F g args h r e).weak
noncomputable def c_laws_total_l1 (F g : Nat) : List AV → H → (List AV → H → Option R) → Option R := fun vs h kc1 => (fun x2 x3 x4 => aLenK 1 x2 h fun x5 h => aCmpI ilt x4 x5 h fun x6 h => withBool x6 fun t7 => bc t7 (aIdxAddr 1 x2 x4 h fun x8 h => aLoad x8 h fun x9 h => aArith iadd x3 x9 h fun x10 h => aArith iadd x4 (AV.int 3 (Int.ofNat 1)) h fun x11 h => kc1 [x2, x10, x11] h) (some (x3, h))) (hd vs) (hd (tl vs)) (hd (tl (tl vs)))
noncomputable def c_laws_total (F g : Nat) (a0 : AV) (h : H) : Option R := loopD F (c_laws_total_l1 F g) [a0, (AV.int 3 (Int.ofNat 0)), (AV.int 3 (Int.ofNat 0))] h
noncomputable def A_laws_total : An := (.two .o (.two .o (.two (.two .o (.two (.at_ [0, 3, 4] (.two (.two .o (.two .o .o)) (.two (.two .o .o) .o)) .o) .o)) (.two .o .o))))
noncomputable def b_laws_total : Code := bodyOf Go.Proofs.Try.f50
theorem k_laws_total (F g : Nat) (a0 : AV) (h : H) : callD Go.Proofs.Try.prog (fun _ _ _ => none : Env) 18 F b_laws_total [2] A_laws_total [a0] h = c_laws_total F g a0 h := by kernel_rfl
theorem co_laws_total {Post : Value → World → Prop} {main : Bool} {fk : Option Fk} (F g : Nat) : ∀ args h r, u1 (c_laws_total F g) args h = some r → CoTri Go.Proofs.Try.prog tW Post main (fk, true) 50 args h r := by
  intro args h r e; obtain ⟨a0, rfl, e1⟩ := u1_some e; exact fn_soundC Go.Proofs.Try.func50 rfl rfl rfl Go.Proofs.Try.ntmps50 (by kernel_rfl) (CoSound.none _ _ _ _ _) ((k_laws_total F g a0 h).trans e1)
theorem wk_laws_total {Post : Value → World → Prop} {main : Bool} (F g : Nat) : ∀ args h r, u1 (c_laws_total F g) args h = some r → CoTri Go.Proofs.Try.prog tW Post main (none, false) 50 args h r := fun args h r e => (co_laws_total F g args h r e).weak
noncomputable def c_laws_FnPaths_j1 (F g : Nat) (vs : List AV) (h : H) : Option R := (fun x30 x31 => aPick x30 x31 (AV.bool false) h fun x32 h => some (x32, h)) (hd vs) (hd (tl vs))
noncomputable def c_laws_FnPaths_j2 (F g : Nat) (vs : List AV) (h : H) : Option R := (fun x37 x38 => aPick x37 x38 (AV.bool false) h fun x39 h => some (x39, h)) (hd vs) (hd (tl vs))
noncomputable def c_laws_FnPaths_j3 (F g : Nat) (vs : List AV) (h : H) : Option R := (fun x20 x21 x22 x23 x24 x25 x26 => aPick x25 (AV.bool true) x26 h fun x27 h => withBool x27 fun t28 => bc t28 (aEq false 0 x22 x24 h fun x29 h => guardB true x29 (aCmpI ieq x21 x23 h fun x33 h => (c_laws_FnPaths_j1 F g) [x29, x33] h) ((c_laws_FnPaths_j1 F g) [x29, (AV.one .tup (AV.leaf .nil))] h)) (bindR (c_impl_CountSizes F g x20 h) fun x34 h => aExtract x34 0 h fun x35 h => aExtract x34 1 h fun x36 h => guardB true x36 (bindR (c_laws_total F g x35 h) fun x40 h => aLenK 1 x35 h fun x41 h => aArith iadd x21 x41 h fun x42 h => aCmpI ieq x40 x42 h fun x43 h => (c_laws_FnPaths_j2 F g) [x36, x43] h) ((c_laws_FnPaths_j2 F g) [x36, (AV.one .tup (AV.leaf .nil))] h))) (hd vs) (hd (tl vs)) (hd (tl (tl vs))) (hd (tl (tl (tl vs)))) (hd (tl (tl (tl (tl vs))))) (hd (tl (tl (tl (tl (tl vs)))))) (hd (tl (tl (tl (tl (tl (tl vs)))))))
noncomputable def c_laws_FnPaths_j4 (F g : Nat) (vs : List AV) (h : H) : Option R := (fun x12 x13 x14 x15 x16 x17 x18 => aPick x17 (AV.bool true) x18 h fun x19 h => guardB false x19 (aNot x14 h fun x44 h => (c_laws_FnPaths_j3 F g) [x12, x13, x14, x15, x16, x19, x44] h) ((c_laws_FnPaths_j3 F g) [x12, x13, x14, x15, x16, x19, (AV.one .tup (AV.leaf .nil))] h)) (hd vs) (hd (tl vs)) (hd (tl (tl vs))) (hd (tl (tl (tl vs)))) (hd (tl (tl (tl (tl vs))))) (hd (tl (tl (tl (tl (tl vs)))))) (hd (tl (tl (tl (tl (tl (tl vs)))))))
noncomputable def c_laws_FnPaths_r5 (F g : Nat) (x4 : AV) (h : H) : Option R := bindR (c_impl_CountPaths F g x4 h) fun x5 h => aExtract x5 0 h fun x6 h => aExtract x5 1 h fun x7 h => bindR (c_spec_CountPaths F g x4 h) fun x8 h => aExtract x8 0 h fun x9 h => aExtract x8 1 h fun x10 h => aEq true 0 x7 x10 h fun x11 h => guardB false x11 (aCmpI (fun a b => bnot (ieq a b)) x6 x9 h fun x45 h => (c_laws_FnPaths_j4 F g) [x4, x6, x7, x9, x10, x11, x45] h) ((c_laws_FnPaths_j4 F g) [x4, x6, x7, x9, x10, x11, (AV.one .tup (AV.leaf .nil))] h)
noncomputable def c_laws_FnPaths (F g : Nat) (a0 : AV) (h : H) : Option R := aLenK 1 a0 h fun x1 h => aCmpI (fun a b => ilt b a) x1 (AV.int 3 (Int.ofNat 1048576)) h fun x2 h => withBool x2 fun t3 => bc t3 (some ((AV.bool true), h)) (bindR (c_spec_DrawCountPaths F g a0 h) fun x4 h => c_laws_FnPaths_r5 F g x4 h)
noncomputable def A_laws_FnPaths : An := (.two .o (.two (.two .o (.two (.two .o .o) .o)) (.two .o (.two .o (.two .o (.two (.two (.at_ [3, 4, 5, 6, 7, 28, 31] .o (.at_ [3, 4, 5, 6, 7, 33, 35] .o .o)) (.two (.two (.at_ [40, 43] .o .o) .o) .o)) (.two .o (.two (.at_ [51, 58] .o .o) .o))))))))
noncomputable def b_laws_FnPaths : Code := bodyOf Go.Proofs.Try.f9
theorem k_laws_FnPaths (F g : Nat) (a0 : AV) (h : H) : callD Go.Proofs.Try.prog (Env.add (Env.add (Env.add (Env.add (Env.add (fun _ _ _ => none : Env) 47 (u1 (c_spec_DrawCountPaths F g))) 48 (u1 (c_impl_CountPaths F g))) 49 (u1 (c_spec_CountPaths F g))) 26 (u1 (c_impl_CountSizes F g))) 50 (u1 (c_laws_total F g))) 60 F b_laws_FnPaths [2] A_laws_FnPaths [a0] h = c_laws_FnPaths F g a0 h := by kernel_rfl
theorem root_laws_FnPaths (F g : Nat) {a0 : AV} {h h' : H} (e1 : c_laws_FnPaths F g a0 h = some (.bool true, h')) {ι : Inj} {v : Value} {W : World} (hR : Rel ι h W) (hC : Cov ι h (lgLaw W)) (hV : VL ι [a0] [v]) : Walk Go.Proofs.Try.prog tW (fun v w' => v = .bool true ∧ Below W.heap.size W w') true (lgLaw W) (G (Frame.enter Go.Proofs.Try.prog 9 #[v] .normal) []) W :=
  root_soundC (fk0 := (none, false)) Go.Proofs.Try.func9 rfl (by kernel_rfl) rfl Go.Proofs.Try.ntmps9 (by kernel_rfl) (CoSound.add (CoSound.add (CoSound.add (CoSound.add (CoSound.add (CoSound.none _ _ _ _ _) (wk_spec_DrawCountPaths F g)) (co_impl_CountPaths F g)) (wk_spec_CountPaths F g)) (co_impl_CountSizes F g)) (wk_laws_total F g)) ((k_laws_FnPaths F g a0 h).trans e1) hR hC hV (fit_law W) rfl rfl rfl fun v s' w' q => law_post q

end
end Go.AI.T
