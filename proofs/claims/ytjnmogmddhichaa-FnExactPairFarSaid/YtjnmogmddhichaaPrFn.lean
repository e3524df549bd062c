/- Which texts are trees of pairs. -/
import Derived.KernelRfl
import Derived.Test.YtjnmogmddhichaaRaw
import Derived.Test.YtjnmogmddhichaaProg
namespace Go.AI.T.R
open Go Go.RowKit Go.AI
set_option linter.unusedVariables false
set_option linter.unusedSimpArgs false
set_option maxRecDepth 100000
noncomputable section
-- "loop.example/treenumbers/impl.pairsIn"
noncomputable def c_impl_pairsIn_j1 (F g : Nat) (vs : List AV) (h : H) : Option R := (fun x29 x30 x31 => aPick x30 x31 (AV.bool false) h fun x32 h => some (AV.one .tup (AV.cons x29 (AV.cons x32 (AV.leaf .nil))), h)) (hd vs) (hd (tl vs)) (hd (tl (tl vs)))
noncomputable def c_impl_pairsIn (F g : Nat) : AV → H → Option R := Nat.rec (motive := fun _ => AV → H → Option R) (fun _ _ => none) (fun g self a0 h => aNilCheck a0 h fun x1 h => aField 2 x1 h fun x2 h => aLoad x2 h fun x3 h => aLenK 1 x3 h fun x4 h => aCmpI ieq x4 (AV.int 3 (Int.ofNat 0)) h fun x5 h => withBool x5 fun t6 => bc t6 (aBuild [] [] h fun x7 h => aMkIface 92 x7 h fun x8 h => some (AV.one .tup (AV.cons x8 (AV.cons (AV.bool true) (AV.leaf .nil))), h)) (aCmpI ieq x4 (AV.int 3 (Int.ofNat 2)) h fun x9 h => withBool x9 fun t10 => bc t10 (aNilCheck a0 h fun x11 h => aField 2 x11 h fun x12 h => aLoad x12 h fun x13 h => aIdxAddr 1 x13 (AV.int 3 (Int.ofNat 0)) h fun x14 h => aLoad x14 h fun x15 h => bindR (self x15 h) fun x16 h => aExtract x16 0 h fun x17 h => aExtract x16 1 h fun x18 h => aNilCheck a0 h fun x19 h => aField 2 x19 h fun x20 h => aLoad x20 h fun x21 h => aIdxAddr 1 x21 (AV.int 3 (Int.ofNat 1)) h fun x22 h => aLoad x22 h fun x23 h => bindR (self x23 h) fun x24 h => aExtract x24 0 h fun x25 h => aExtract x24 1 h fun x26 h => aBuild [(AV.leaf .nili), (AV.leaf .nili)] [(0, 1, x17), (1, 1, x25)] h fun x27 h => aMkIface 94 x27 h fun x28 h => guardB true x18 ((c_impl_pairsIn_j1 F g) [x28, x18, x26] h) ((c_impl_pairsIn_j1 F g) [x28, x18, (AV.one .tup (AV.leaf .nil))] h)) (some (AV.one .tup (AV.cons (AV.leaf .nili) (AV.cons (AV.bool false) (AV.leaf .nil))), h)))) g
noncomputable def A_impl_pairsIn : An := (.two .o (.two .o (.two (.two .o (.two (.two .o .o) (.two .o (.two (.two .o (.two .o (.two (.at_ [42, 44, 45] .o .o) .o))) (.two .o .o))))) .o)))
noncomputable def b_impl_pairsIn : Code := bodyOf Go.Proofs.Try.f71
theorem k_impl_pairsIn (F g : Nat) (a0 : AV) (h : H) : callD Go.Proofs.Try.prog (Env.add (fun _ _ _ => none : Env) 71 (u1 (c_impl_pairsIn F g))) 47 F b_impl_pairsIn [2, 3] A_impl_pairsIn [a0] h = c_impl_pairsIn F (g + 1) a0 h := by kernel_rfl
theorem s_impl_pairsIn (F g : Nat) : ∀ args h r, u1 (c_impl_pairsIn F g) args h = some r → Tri Go.Proofs.Try.prog 71 args h r := by
  induction g with
  | zero => intro args h r e; obtain ⟨a0, rfl, e⟩ := u1_some e; cases e
  | succ g ih => intro args h r e; obtain ⟨a0, rfl, e1⟩ := u1_some e; exact fn_sound Go.Proofs.Try.func71 rfl rfl rfl Go.Proofs.Try.ntmps71 (Sound.add (Sound.none _) ih) ((k_impl_pairsIn F g a0 h).trans e1)

-- "loop.example/treenumbers/impl.readPairs"
noncomputable def c_impl_readPairs (F g : Nat) (a0 : AV) (h : H) : Option R := bindR (c_impl_readTree F g a0 h) fun x1 h => aExtract x1 0 h fun x2 h => aExtract x1 1 h fun x3 h => aNot x3 h fun x4 h => withBool x4 fun t5 => bc t5 (some (AV.one .tup (AV.cons (AV.leaf .nili) (AV.cons (AV.bool false) (AV.leaf .nil))), h)) (bindR (c_impl_pairsIn F g x2 h) fun x6 h => aExtract x6 0 h fun x7 h => aExtract x6 1 h fun x8 h => some (AV.one .tup (AV.cons x7 (AV.cons x8 (AV.leaf .nil))), h))
noncomputable def A_impl_readPairs : An := (.two .o (.two .o (.two (.two .o (.two (.two .o .o) .o)) (.two .o .o))))
noncomputable def b_impl_readPairs : Code := bodyOf Go.Proofs.Try.f54
theorem k_impl_readPairs (F g : Nat) (a0 : AV) (h : H) : callD Go.Proofs.Try.prog (Env.add (Env.add (fun _ _ _ => none : Env) 27 (u1 (c_impl_readTree F g))) 71 (u1 (c_impl_pairsIn F g))) 17 F b_impl_readPairs [2, 3] A_impl_readPairs [a0] h = c_impl_readPairs F g a0 h := by kernel_rfl
theorem s_impl_readPairs (F g : Nat) : ∀ args h r, u1 (c_impl_readPairs F g) args h = some r → Tri Go.Proofs.Try.prog 54 args h r := by
  intro args h r e; obtain ⟨a0, rfl, e1⟩ := u1_some e; exact fn_sound Go.Proofs.Try.func54 rfl rfl rfl Go.Proofs.Try.ntmps54 (Sound.add (Sound.add (Sound.none _) (s_impl_readTree F g)) (s_impl_pairsIn F g)) ((k_impl_readPairs F g a0 h).trans e1)

-- "loop.example/treenumbers/impl.PairIn"
noncomputable def c_impl_PairIn (F g : Nat) (a0 : AV) (h : H) : Option R := bindR (c_impl_readPairs F g a0 h) fun x1 h => aExtract x1 0 h fun x2 h => aExtract x1 1 h fun x3 h => some (x3, h)
noncomputable def A_impl_PairIn : An := (.two .o (.two .o (.two .o .o)))
noncomputable def b_impl_PairIn : Code := bodyOf Go.Proofs.Try.f31
theorem k_impl_PairIn (F g : Nat) (a0 : AV) (h : H) : callD Go.Proofs.Try.prog (Env.add (fun _ _ _ => none : Env) 54 (u1 (c_impl_readPairs F g))) 11 F b_impl_PairIn [2] A_impl_PairIn [a0] h = c_impl_PairIn F g a0 h := by kernel_rfl
theorem s_impl_PairIn (F g : Nat) : ∀ args h r, u1 (c_impl_PairIn F g) args h = some r → Tri Go.Proofs.Try.prog 31 args h r := by
  intro args h r e; obtain ⟨a0, rfl, e1⟩ := u1_some e; exact fn_sound Go.Proofs.Try.func31 rfl rfl rfl Go.Proofs.Try.ntmps31 (Sound.add (Sound.none _) (s_impl_readPairs F g)) ((k_impl_PairIn F g a0 h).trans e1)

-- "loop.example/treenumbers/spec.l1End"
noncomputable def c_spec_l1End_j1 (F g : Nat) (kc1 : List AV → H → Option R) (vs : List AV) (h : H) : Option R := (fun x8 x9 x10 => aCmpI ieq x9 (AV.int 3 (Int.ofNat 0)) h fun x11 h => withBool x11 fun t12 => bc t12 (aArith iadd x10 (AV.int 3 (Int.ofNat 1)) h fun x13 h => some (x13, h)) (aCmpI ilt x9 (AV.int 3 (Int.ofNat 0)) h fun x14 h => withBool x14 fun t15 => bc t15 (some ((AV.int 3 (Int.negSucc 0)), h)) (aArith iadd x10 (AV.int 3 (Int.ofNat 1)) h fun x16 h => kc1 [x8, x9, x16] h))) (hd vs) (hd (tl vs)) (hd (tl (tl vs)))
noncomputable def c_spec_l1End_l2 (F g : Nat) : List AV → H → (List AV → H → Option R) → Option R := fun vs h kc1 => (fun x2 x3 x4 => aLenK 0 x2 h fun x5 h => aCmpI ilt x4 x5 h fun x6 h => withBool x6 fun t7 => bc t7 (aIdxStr x2 x4 h fun x17 h => aCmpI ieq x17 (AV.int 4 (Int.ofNat 40)) h fun x18 h => withBool x18 fun t19 => bc t19 (aArith iadd x3 (AV.int 3 (Int.ofNat 1)) h fun x20 h => (c_spec_l1End_j1 F g kc1) [x2, x20, x4] h) (aCmpI ieq x17 (AV.int 4 (Int.ofNat 41)) h fun x21 h => withBool x21 fun t22 => bc t22 (aArith isub x3 (AV.int 3 (Int.ofNat 1)) h fun x23 h => (c_spec_l1End_j1 F g kc1) [x2, x23, x4] h) (some ((AV.int 3 (Int.negSucc 0)), h)))) (some ((AV.int 3 (Int.negSucc 0)), h))) (hd vs) (hd (tl vs)) (hd (tl (tl vs)))
noncomputable def c_spec_l1End (F g : Nat) (a0 a1 : AV) (h : H) : Option R := loopD F (c_spec_l1End_l2 F g) [a0, (AV.int 3 (Int.ofNat 0)), a1] h
noncomputable def A_spec_l1End : An := (.two .o (.two .o (.two (.two .o (.two (.at_ [0, 5, 6] (.two (.two .o (.two .o .o)) (.two (.two (.at_ [0, 5, 6] (.two .o (.two (.two .o (.two .o (.two .o (.two .o (.two .o .o))))) .o)) (.two (.two .o (.two (.two .o .o) .o)) (.two .o (.two (.two .o .o) .o)))) .o) .o)) .o) .o)) (.two .o .o))))
noncomputable def b_spec_l1End : Code := bodyOf Go.Proofs.Try.f47
theorem k_spec_l1End (F g : Nat) (a0 a1 : AV) (h : H) : callD Go.Proofs.Try.prog (fun _ _ _ => none : Env) 31 F b_spec_l1End [4] A_spec_l1End [a0, a1] h = c_spec_l1End F g a0 a1 h := by kernel_rfl
theorem s_spec_l1End (F g : Nat) : ∀ args h r, u2 (c_spec_l1End F g) args h = some r → Tri Go.Proofs.Try.prog 47 args h r := by
  intro args h r e; obtain ⟨a0, a1, rfl, e1⟩ := u2_some e; exact fn_sound Go.Proofs.Try.func47 rfl rfl rfl Go.Proofs.Try.ntmps47 (Sound.none _) ((k_spec_l1End F g a0 a1 h).trans e1)

-- "loop.example/treenumbers/spec.l1Kids"
noncomputable def c_spec_l1Kids_l1 (F g : Nat) : List AV → H → (List AV → H → Option R) → Option R := fun vs h kc2 => (fun x3 x4 x5 => aLenK 0 x3 h fun x6 h => aArith isub x6 (AV.int 3 (Int.ofNat 1)) h fun x7 h => aCmpI ilt x5 x7 h fun x8 h => withBool x8 fun t9 => bc t9 (bindR (c_spec_l1End F g x3 x5 h) fun x10 h => aSliceS x3 (some x5) (some x10) none h fun x11 h => aBuildSlice 1 1 [(0, 1, x11)] h fun x12 h => aAppend 1 16 x4 x12 h fun x13 h => kc2 [x3, x13, x10] h) (some (x4, h))) (hd vs) (hd (tl vs)) (hd (tl (tl vs)))
noncomputable def c_spec_l1Kids (F g : Nat) (a0 : AV) (h : H) : Option R := aBuildSlice 0 1 [] h fun x1 h => loopD F (c_spec_l1Kids_l1 F g) [a0, x1, (AV.int 3 (Int.ofNat 1))] h
noncomputable def A_spec_l1Kids : An := (.two .o (.two .o (.two .o (.two (.two (.at_ [0, 3, 4] (.two (.two .o (.two .o .o)) (.two (.two .o (.two .o .o)) .o)) .o) .o) (.two .o .o)))))
noncomputable def b_spec_l1Kids : Code := bodyOf Go.Proofs.Try.f48
theorem k_spec_l1Kids (F g : Nat) (a0 : AV) (h : H) : callD Go.Proofs.Try.prog (Env.add (fun _ _ _ => none : Env) 47 (u2 (c_spec_l1End F g))) 24 F b_spec_l1Kids [2] A_spec_l1Kids [a0] h = c_spec_l1Kids F g a0 h := by kernel_rfl
theorem s_spec_l1Kids (F g : Nat) : ∀ args h r, u1 (c_spec_l1Kids F g) args h = some r → Tri Go.Proofs.Try.prog 48 args h r := by
  intro args h r e; obtain ⟨a0, rfl, e1⟩ := u1_some e; exact fn_sound Go.Proofs.Try.func48 rfl rfl rfl Go.Proofs.Try.ntmps48 (Sound.add (Sound.none _) (s_spec_l1End F g)) ((k_spec_l1Kids F g a0 h).trans e1)

-- "loop.example/treenumbers/spec.l8In"
noncomputable def c_spec_l8In_j1 (F g : Nat) (vs : List AV) (h : H) : Option R := (fun x16 x17 => aPick x16 (AV.bool true) x17 h fun x18 h => some (x18, h)) (hd vs) (hd (tl vs))
noncomputable def c_spec_l8In_l2 (F g : Nat) (self : AV → H → Option R) : List AV → H → (List AV → H → Option R) → Option R := fun vs h kc2 => (fun x3 x4 => aLenK 1 x3 h fun x5 h => aCmpI ilt x4 x5 h fun x6 h => withBool x6 fun t7 => bc t7 (aIdxAddr 1 x3 x4 h fun x8 h => aLoad x8 h fun x9 h => bindR (self x9 h) fun x10 h => aNot x10 h fun x11 h => withBool x11 fun t12 => bc t12 (some ((AV.bool false), h)) (aArith iadd x4 (AV.int 3 (Int.ofNat 1)) h fun x13 h => kc2 [x3, x13] h)) (aLenK 1 x3 h fun x14 h => aCmpI ieq x14 (AV.int 3 (Int.ofNat 0)) h fun x15 h => guardB false x15 (aLenK 1 x3 h fun x19 h => aCmpI ieq x19 (AV.int 3 (Int.ofNat 2)) h fun x20 h => (c_spec_l8In_j1 F g) [x15, x20] h) ((c_spec_l8In_j1 F g) [x15, (AV.one .tup (AV.leaf .nil))] h))) (hd vs) (hd (tl vs))
noncomputable def c_spec_l8In (F g : Nat) : AV → H → Option R := Nat.rec (motive := fun _ => AV → H → Option R) (fun _ _ => none) (fun g self a0 h => bindR (c_spec_l1Kids F g a0 h) fun x1 h => loopD F (c_spec_l8In_l2 F g self) [x1, (AV.int 3 (Int.ofNat 0))] h) g
noncomputable def A_spec_l8In : An := (.two .o (.two .o (.two (.two .o (.two (.at_ [3, 4] (.two (.two .o (.two .o .o)) (.two (.two (.two .o (.two (.two .o .o) .o)) .o) .o)) .o) .o)) (.two (.at_ [22, 25] .o .o) .o))))
noncomputable def b_spec_l8In : Code := bodyOf Go.Proofs.Try.f60
theorem k_spec_l8In (F g : Nat) (a0 : AV) (h : H) : callD Go.Proofs.Try.prog (Env.add (Env.add (fun _ _ _ => none : Env) 48 (u1 (c_spec_l1Kids F g))) 60 (u1 (c_spec_l8In F g))) 27 F b_spec_l8In [2] A_spec_l8In [a0] h = c_spec_l8In F (g + 1) a0 h := by kernel_rfl
theorem s_spec_l8In (F g : Nat) : ∀ args h r, u1 (c_spec_l8In F g) args h = some r → Tri Go.Proofs.Try.prog 60 args h r := by
  induction g with
  | zero => intro args h r e; obtain ⟨a0, rfl, e⟩ := u1_some e; cases e
  | succ g ih => intro args h r e; obtain ⟨a0, rfl, e1⟩ := u1_some e; exact fn_sound Go.Proofs.Try.func60 rfl rfl rfl Go.Proofs.Try.ntmps60 (Sound.add (Sound.add (Sound.none _) (s_spec_l1Kids F g)) ih) ((k_spec_l8In F g a0 h).trans e1)

-- "loop.example/treenumbers/spec.PairIn"
noncomputable def c_spec_PairIn_j1 (F g : Nat) (vs : List AV) (h : H) : Option R := (fun x2 x3 => aPick x2 x3 (AV.bool false) h fun x4 h => some (x4, h)) (hd vs) (hd (tl vs))
noncomputable def c_spec_PairIn (F g : Nat) (a0 : AV) (h : H) : Option R := bindR (c_spec_TreeIn F g a0 h) fun x1 h => guardB true x1 (bindR (c_spec_l8In F g a0 h) fun x5 h => (c_spec_PairIn_j1 F g) [x1, x5] h) ((c_spec_PairIn_j1 F g) [x1, (AV.one .tup (AV.leaf .nil))] h)
noncomputable def A_spec_PairIn : An := (.two .o (.two (.at_ [5, 7] .o .o) .o))
noncomputable def b_spec_PairIn : Code := bodyOf Go.Proofs.Try.f34
theorem k_spec_PairIn (F g : Nat) (a0 : AV) (h : H) : callD Go.Proofs.Try.prog (Env.add (Env.add (fun _ _ _ => none : Env) 25 (u1 (c_spec_TreeIn F g))) 60 (u1 (c_spec_l8In F g))) 9 F b_spec_PairIn [2] A_spec_PairIn [a0] h = c_spec_PairIn F g a0 h := by kernel_rfl
theorem s_spec_PairIn (F g : Nat) : ∀ args h r, u1 (c_spec_PairIn F g) args h = some r → Tri Go.Proofs.Try.prog 34 args h r := by
  intro args h r e; obtain ⟨a0, rfl, e1⟩ := u1_some e; exact fn_sound Go.Proofs.Try.func34 rfl rfl rfl Go.Proofs.Try.ntmps34 (Sound.add (Sound.add (Sound.none _) (s_spec_TreeIn F g)) (s_spec_l8In F g)) ((k_spec_PairIn F g a0 h).trans e1)

end
end Go.AI.T.R
namespace Go.AI.T
open Go Go.RowKit Go.AI
set_option linter.unusedVariables false
set_option linter.unusedSimpArgs false
set_option maxRecDepth 100000
noncomputable section
def PL : List (List Nat) := [[40, 41], [40, 40, 41, 40, 41, 41], [40, 40, 41, 40, 40, 41, 40, 41, 41, 41], [40, 40, 40, 41, 40, 41, 41, 40, 41, 41], [40, 40, 41, 40, 40, 41, 40, 40, 41, 40, 41, 41, 41, 41], [40, 40, 41, 40, 40, 40, 41, 40, 41, 41, 40, 41, 41, 41], [40, 40, 40, 41, 40, 41, 41, 40, 40, 41, 40, 41, 41, 41], [40, 40, 40, 41, 40, 40, 41, 40, 41, 41, 41, 40, 41, 41], [40, 40, 40, 40, 41, 40, 41, 41, 40, 41, 41, 40, 41, 41], [40, 40, 41, 40, 40, 41, 40, 40, 41, 40, 40, 41, 40, 41, 41, 41, 41, 41], [40, 40, 41, 40, 40, 41, 40, 40, 40, 41, 40, 41, 41, 40, 41, 41, 41, 41], [40, 40, 41, 40, 40, 40, 41, 40, 41, 41, 40, 40, 41, 40, 41, 41, 41, 41], [40, 40, 41, 40, 40, 40, 41, 40, 40, 41, 40, 41, 41, 41, 40, 41, 41, 41], [40, 40, 41, 40, 40, 40, 40, 41, 40, 41, 41, 40, 41, 41, 40, 41, 41, 41], [40, 40, 40, 41, 40, 41, 41, 40, 40, 41, 40, 40, 41, 40, 41, 41, 41, 41], [40, 40, 40, 41, 40, 41, 41, 40, 40, 40, 41, 40, 41, 41, 40, 41, 41, 41], [40, 40, 40, 41, 40, 40, 41, 40, 41, 41, 41, 40, 40, 41, 40, 41, 41, 41], [40, 40, 40, 40, 41, 40, 41, 41, 40, 41, 41, 40, 40, 41, 40, 41, 41, 41], [40, 40, 40, 41, 40, 40, 41, 40, 40, 41, 40, 41, 41, 41, 41, 40, 41, 41], [40, 40, 40, 41, 40, 40, 40, 41, 40, 41, 41, 40, 41, 41, 41, 40, 41, 41], [40, 40, 40, 40, 41, 40, 41, 41, 40, 40, 41, 40, 41, 41, 41, 40, 41, 41], [40, 40, 40, 40, 41, 40, 40, 41, 40, 41, 41, 41, 40, 41, 41, 40, 41, 41], [40, 40, 40, 40, 40, 41, 40, 41, 41, 40, 41, 41, 40, 41, 41, 40, 41, 41]]

def prT (r : Option R) : Bool := match r with
  | some (.bool b, _) => b
  | _ => false
/-- What the specification tells of a tree. -/
def prL (l : List Nat) : Bool := prT (R.c_spec_PairIn 2097152 20 (.str l (lenL l)) H0)
def isB (b : Bool) (r : Option R) : Bool := match r with
  | some (.bool c, _) => bc b c (bnot c)
  | _ => false
def memT (l : List Nat) : List (List Nat) → Bool
  | [] => false
  | x :: t => bc (eqL l x) true (memT l t)
def ok_Pr (l : List Nat) : Bool := match R.c_spec_PairIn 2097152 20 (.str l (lenL l)) H0 with
  | some (.bool b, _) => bc (isB b (R.c_impl_PairIn 2097152 20 (.str l (lenL l)) H0)) (bc b (memT l PL) true) false
  | _ => false
theorem eqL_of : ∀ {x y : List Nat}, eqL x y = true → x = y
  | [], [], _ => rfl
  | [], _ :: _, h => by cases h
  | _ :: _, [], h => by cases h
  | a :: x, b :: y, h => by
    rw [eqL_cons] at h
    cases h1 : Nat.beq a b with
    | false => rw [h1] at h; cases h
    | true => rw [h1, bc_true] at h; rw [Nat.eq_of_beq_eq_true h1, eqL_of h]
theorem memT_mem {l : List Nat} : ∀ {L : List (List Nat)}, memT l L = true → l ∈ L
  | [], h => by cases h
  | x :: t, h => by
    have h : bc (eqL l x) true (memT l t) = true := h
    cases h1 : eqL l x with
    | true => rw [eqL_of h1]; exact List.mem_cons_self ..
    | false => rw [h1, bc_false] at h; exact List.mem_cons_of_mem _ (memT_mem h)
theorem isB_some {b : Bool} {r : Option R} (e : isB b r = true) : ∃ h, r = some (.bool b, h) := by
  unfold isB at e
  split at e
  · rename_i c h
    cases b <;> cases c <;> first | (cases e; done) | exact ⟨h, rfl⟩
  · cases e
theorem ok_some {l : List Nat} (e : ok_Pr l = true) : (∃ h, R.c_spec_PairIn 2097152 20 (.str l (lenL l)) H0 = some (.bool (prL l), h)) ∧ (∃ h, R.c_impl_PairIn 2097152 20 (.str l (lenL l)) H0 = some (.bool (prL l), h)) ∧ (prL l = true → l ∈ PL) := by
  unfold ok_Pr at e
  split at e
  · rename_i b h hs
    have hf : prL l = b := by unfold prL; rw [hs]; rfl
    cases h1 : isB b (R.c_impl_PairIn 2097152 20 (.str l (lenL l)) H0) with
    | false => rw [h1] at e; cases e
    | true =>
      rw [h1, bc_true] at e
      rw [hf]
      refine ⟨⟨h, hs⟩, isB_some h1, fun hb => ?_⟩
      subst hb
      exact memT_mem e
  · cases e
end
end Go.AI.T
