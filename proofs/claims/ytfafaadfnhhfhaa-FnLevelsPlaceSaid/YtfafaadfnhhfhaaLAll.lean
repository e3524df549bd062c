/- The list of all trees, as the evaluator reads it. -/
import Derived.Test.YtfafaadfnhhfhaaRaw
import Derived.Test.YtfafaadfnhhfhaaRow
import Derived.Test.YtfafaadfnhhfhaaProg
import Derived.KernelRfl
namespace Go.AI.L
open Go Go.RowKit Go.AI
set_option linter.unusedVariables false
set_option linter.unusedSimpArgs false
set_option maxRecDepth 100000
noncomputable section
-- "loop.example/treenumbers/spec.l3Tree"
noncomputable def c_spec_l3Tree_l1 (F g : Nat) (kc1 : List AV → H → Option R) : List AV → H → (List AV → H → Option R) → Option R := fun vs h kc9 => (fun x10 x11 x12 x13 => aIdxAddr 1 x10 x13 h fun x14 h => aLoad x14 h fun x15 h => aCmpI (fun a b => ilt b a) x12 x15 h fun x16 h => withBool x16 fun t17 => bc t17 (aSAdd x11 (AV.str [41] 1) h fun x18 h => aArith isub x12 (AV.int 3 (Int.ofNat 1)) h fun x19 h => kc9 [x10, x18, x19, x13] h) (aSAdd x11 (AV.str [40] 1) h fun x20 h => aArith iadd x12 (AV.int 3 (Int.ofNat 1)) h fun x21 h => aArith iadd x13 (AV.int 3 (Int.ofNat 1)) h fun x22 h => kc1 [x10, x20, x21, x22] h)) (hd vs) (hd (tl vs)) (hd (tl (tl vs))) (hd (tl (tl (tl vs))))
noncomputable def c_spec_l3Tree_l2 (F g : Nat) : List AV → H → (List AV → H → Option R) → Option R := fun vs h kc23 => (fun x24 x25 => aCmpI (fun a b => ilt b a) x25 (AV.int 3 (Int.ofNat 0)) h fun x26 h => withBool x26 fun t27 => bc t27 (aSAdd x24 (AV.str [41] 1) h fun x28 h => aArith isub x25 (AV.int 3 (Int.ofNat 1)) h fun x29 h => kc23 [x28, x29] h) (some (x24, h))) (hd vs) (hd (tl vs))
noncomputable def c_spec_l3Tree_l3 (F g : Nat) : List AV → H → (List AV → H → Option R) → Option R := fun vs h kc1 => (fun x2 x3 x4 x5 => aLenK 1 x2 h fun x6 h => aCmpI ilt x5 x6 h fun x7 h => withBool x7 fun t8 => bc t8 (loopD F (c_spec_l3Tree_l1 F g kc1) [x2, x3, x4, x5] h) (loopD F (c_spec_l3Tree_l2 F g) [x3, x4] h)) (hd vs) (hd (tl vs)) (hd (tl (tl vs))) (hd (tl (tl (tl vs))))
noncomputable def c_spec_l3Tree (F g : Nat) (a0 : AV) (h : H) : Option R := loopD F (c_spec_l3Tree_l3 F g) [a0, (AV.str [] 0), (AV.int 3 (Int.ofNat 0)), (AV.int 3 (Int.ofNat 0))] h
noncomputable def A_spec_l3Tree : An := (.two .o (.two .o (.two .o (.two (.two .o (.two (.at_ [0, 3, 4, 5] (.two (.two .o (.two .o .o)) (.two (.two (.two (.two (.at_ [0, 3, 4, 5] (.two (.two .o (.two .o .o)) (.two (.two .o .o) .o)) .o) .o) (.two .o .o)) .o) .o)) .o) .o)) (.two (.two (.at_ [3, 4] (.two (.two .o (.two .o .o)) (.two (.two .o .o) .o)) .o) .o) (.two .o .o))))))
noncomputable def b_spec_l3Tree : Code := bodyOf Go.Proofs.Try.f115
theorem k_spec_l3Tree (F g : Nat) (a0 : AV) (h : H) : callD Go.Proofs.Try.prog (fun _ _ _ => none : Env) 33 F b_spec_l3Tree [2] A_spec_l3Tree [a0] h = c_spec_l3Tree F g a0 h := by kernel_rfl
theorem s_spec_l3Tree (F g : Nat) : ∀ args h r, u1 (c_spec_l3Tree F g) args h = some r → Tri Go.Proofs.Try.prog 115 args h r := by
  intro args h r e; obtain ⟨a0, rfl, e1⟩ := u1_some e; exact fn_sound Go.Proofs.Try.func115 rfl rfl rfl Go.Proofs.Try.ntmps115 (Sound.none _) ((k_spec_l3Tree F g a0 h).trans e1)

-- "loop.example/treenumbers/spec.l1End"
noncomputable def c_spec_l1End_j1 (F g : Nat) (kc1 : List AV → H → Option R) (vs : List AV) (h : H) : Option R := (fun x8 x9 x10 => aCmpI ieq x9 (AV.int 3 (Int.ofNat 0)) h fun x11 h => withBool x11 fun t12 => bc t12 (aArith iadd x10 (AV.int 3 (Int.ofNat 1)) h fun x13 h => some (x13, h)) (aCmpI ilt x9 (AV.int 3 (Int.ofNat 0)) h fun x14 h => withBool x14 fun t15 => bc t15 (some ((AV.int 3 (Int.negSucc 0)), h)) (aArith iadd x10 (AV.int 3 (Int.ofNat 1)) h fun x16 h => kc1 [x8, x9, x16] h))) (hd vs) (hd (tl vs)) (hd (tl (tl vs)))
noncomputable def c_spec_l1End_l2 (F g : Nat) : List AV → H → (List AV → H → Option R) → Option R := fun vs h kc1 => (fun x2 x3 x4 => aLenK 0 x2 h fun x5 h => aCmpI ilt x4 x5 h fun x6 h => withBool x6 fun t7 => bc t7 (aIdxStr x2 x4 h fun x17 h => aCmpI ieq x17 (AV.int 4 (Int.ofNat 40)) h fun x18 h => withBool x18 fun t19 => bc t19 (aArith iadd x3 (AV.int 3 (Int.ofNat 1)) h fun x20 h => (c_spec_l1End_j1 F g kc1) [x2, x20, x4] h) (aCmpI ieq x17 (AV.int 4 (Int.ofNat 41)) h fun x21 h => withBool x21 fun t22 => bc t22 (aArith isub x3 (AV.int 3 (Int.ofNat 1)) h fun x23 h => (c_spec_l1End_j1 F g kc1) [x2, x23, x4] h) (some ((AV.int 3 (Int.negSucc 0)), h)))) (some ((AV.int 3 (Int.negSucc 0)), h))) (hd vs) (hd (tl vs)) (hd (tl (tl vs)))
noncomputable def c_spec_l1End (F g : Nat) (a0 a1 : AV) (h : H) : Option R := loopD F (c_spec_l1End_l2 F g) [a0, (AV.int 3 (Int.ofNat 0)), a1] h
noncomputable def A_spec_l1End : An := (.two .o (.two .o (.two (.two .o (.two (.at_ [0, 5, 6] (.two (.two .o (.two .o .o)) (.two (.two (.at_ [0, 5, 6] (.two .o (.two (.two .o (.two .o (.two .o (.two .o (.two .o .o))))) .o)) (.two (.two .o (.two (.two .o .o) .o)) (.two .o (.two (.two .o .o) .o)))) .o) .o)) .o) .o)) (.two .o .o))))
noncomputable def b_spec_l1End : Code := bodyOf Go.Proofs.Try.f92
theorem k_spec_l1End (F g : Nat) (a0 a1 : AV) (h : H) : callD Go.Proofs.Try.prog (fun _ _ _ => none : Env) 31 F b_spec_l1End [4] A_spec_l1End [a0, a1] h = c_spec_l1End F g a0 a1 h := by kernel_rfl
theorem s_spec_l1End (F g : Nat) : ∀ args h r, u2 (c_spec_l1End F g) args h = some r → Tri Go.Proofs.Try.prog 92 args h r := by
  intro args h r e; obtain ⟨a0, a1, rfl, e1⟩ := u2_some e; exact fn_sound Go.Proofs.Try.func92 rfl rfl rfl Go.Proofs.Try.ntmps92 (Sound.none _) ((k_spec_l1End F g a0 a1 h).trans e1)

-- "loop.example/treenumbers/spec.l1Kids"
noncomputable def c_spec_l1Kids_l1 (F g : Nat) : List AV → H → (List AV → H → Option R) → Option R := fun vs h kc2 => (fun x3 x4 x5 => aLenK 0 x3 h fun x6 h => aArith isub x6 (AV.int 3 (Int.ofNat 1)) h fun x7 h => aCmpI ilt x5 x7 h fun x8 h => withBool x8 fun t9 => bc t9 (bindR (c_spec_l1End F g x3 x5 h) fun x10 h => aSliceS x3 (some x5) (some x10) none h fun x11 h => aBuildSlice 1 1 [(0, 1, x11)] h fun x12 h => aAppend 1 16 x4 x12 h fun x13 h => kc2 [x3, x13, x10] h) (some (x4, h))) (hd vs) (hd (tl vs)) (hd (tl (tl vs)))
noncomputable def c_spec_l1Kids (F g : Nat) (a0 : AV) (h : H) : Option R := aBuildSlice 0 1 [] h fun x1 h => loopD F (c_spec_l1Kids_l1 F g) [a0, x1, (AV.int 3 (Int.ofNat 1))] h
noncomputable def A_spec_l1Kids : An := (.two .o (.two .o (.two .o (.two (.two (.at_ [0, 3, 4] (.two (.two .o (.two .o .o)) (.two (.two .o (.two .o .o)) .o)) .o) .o) (.two .o .o)))))
noncomputable def b_spec_l1Kids : Code := bodyOf Go.Proofs.Try.f102
theorem k_spec_l1Kids (F g : Nat) (a0 : AV) (h : H) : callD Go.Proofs.Try.prog (Env.add (fun _ _ _ => none : Env) 92 (u2 (c_spec_l1End F g))) 24 F b_spec_l1Kids [2] A_spec_l1Kids [a0] h = c_spec_l1Kids F g a0 h := by kernel_rfl
theorem s_spec_l1Kids (F g : Nat) : ∀ args h r, u1 (c_spec_l1Kids F g) args h = some r → Tri Go.Proofs.Try.prog 102 args h r := by
  intro args h r e; obtain ⟨a0, rfl, e1⟩ := u1_some e; exact fn_sound Go.Proofs.Try.func102 rfl rfl rfl Go.Proofs.Try.ntmps102 (Sound.add (Sound.none _) (s_spec_l1End F g)) ((k_spec_l1Kids F g a0 h).trans e1)

-- "loop.example/treenumbers/spec.l1Of"
noncomputable def c_spec_l1Of_l1 (F g : Nat) : List AV → H → (List AV → H → Option R) → Option R := fun vs h kc1 => (fun x2 x3 x4 => aLenK 1 x2 h fun x5 h => aCmpI ilt x4 x5 h fun x6 h => withBool x6 fun t7 => bc t7 (aIdxAddr 1 x2 x4 h fun x8 h => aLoad x8 h fun x9 h => aSAdd x3 x9 h fun x10 h => aArith iadd x4 (AV.int 3 (Int.ofNat 1)) h fun x11 h => kc1 [x2, x10, x11] h) (aSAdd x3 (AV.str [41] 1) h fun x12 h => some (x12, h))) (hd vs) (hd (tl vs)) (hd (tl (tl vs)))
noncomputable def c_spec_l1Of (F g : Nat) (a0 : AV) (h : H) : Option R := loopD F (c_spec_l1Of_l1 F g) [a0, (AV.str [40] 1), (AV.int 3 (Int.ofNat 0))] h
noncomputable def A_spec_l1Of : An := (.two .o (.two .o (.two (.two .o (.two (.at_ [0, 3, 4] (.two (.two .o (.two .o .o)) (.two (.two .o .o) .o)) .o) .o)) (.two .o .o))))
noncomputable def b_spec_l1Of : Code := bodyOf Go.Proofs.Try.f107
theorem k_spec_l1Of (F g : Nat) (a0 : AV) (h : H) : callD Go.Proofs.Try.prog (fun _ _ _ => none : Env) 19 F b_spec_l1Of [2] A_spec_l1Of [a0] h = c_spec_l1Of F g a0 h := by kernel_rfl
theorem s_spec_l1Of (F g : Nat) : ∀ args h r, u1 (c_spec_l1Of F g) args h = some r → Tri Go.Proofs.Try.prog 107 args h r := by
  intro args h r e; obtain ⟨a0, rfl, e1⟩ := u1_some e; exact fn_sound Go.Proofs.Try.func107 rfl rfl rfl Go.Proofs.Try.ntmps107 (Sound.none _) ((k_spec_l1Of F g a0 h).trans e1)

-- "loop.example/treenumbers/spec.l1Sorted"
noncomputable def c_spec_l1Sorted_j1 (F g : Nat) (kc3 : List AV → H → Option R) (kc14 : List AV → H → Option R) (vs : List AV) (h : H) : Option R := (fun x21 x22 x23 x24 x25 x26 x27 => aPick x26 x27 (AV.bool false) h fun x28 h => withBool x28 fun t29 => bc t29 (aArith isub x25 (AV.int 3 (Int.ofNat 1)) h fun x30 h => kc14 [x21, x22, x23, x24, x30] h) (aBuildSlice 0 1 [] h fun x31 h => aSliceV 1 x22 none (some x25) none h fun x32 _ => aAppend 1 16 x31 x32 h fun x33 h => aBuildSlice 1 1 [(0, 1, x24)] h fun x34 h => aAppend 1 16 x33 x34 h fun x35 h => aSliceV 1 x22 (some x25) none none h fun x36 _ => aAppend 1 16 x35 x36 h fun x37 h => aArith iadd x23 (AV.int 3 (Int.ofNat 1)) h fun x38 h => kc3 [x21, x37, x38] h)) (hd vs) (hd (tl vs)) (hd (tl (tl vs))) (hd (tl (tl (tl vs)))) (hd (tl (tl (tl (tl vs))))) (hd (tl (tl (tl (tl (tl vs)))))) (hd (tl (tl (tl (tl (tl (tl vs)))))))
noncomputable def c_spec_l1Sorted_l2 (F g : Nat) (kc3 : List AV → H → Option R) : List AV → H → (List AV → H → Option R) → Option R := fun vs h kc14 => (fun x15 x16 x17 x18 x19 => aCmpI (fun a b => ilt b a) x19 (AV.int 3 (Int.ofNat 0)) h fun x20 h => guardB true x20 (aArith isub x19 (AV.int 3 (Int.ofNat 1)) h fun x39 h => aIdxAddr 1 x16 x39 h fun x40 h => aLoad x40 h fun x41 h => aCmpS ltL x18 x41 h fun x42 h => (c_spec_l1Sorted_j1 F g kc3 kc14) [x15, x16, x17, x18, x19, x20, x42] h) ((c_spec_l1Sorted_j1 F g kc3 kc14) [x15, x16, x17, x18, x19, x20, (AV.one .tup (AV.leaf .nil))] h)) (hd vs) (hd (tl vs)) (hd (tl (tl vs))) (hd (tl (tl (tl vs)))) (hd (tl (tl (tl (tl vs)))))
noncomputable def c_spec_l1Sorted_l3 (F g : Nat) (self : AV → H → Option R) : List AV → H → (List AV → H → Option R) → Option R := fun vs h kc3 => (fun x4 x5 x6 => aLenK 1 x4 h fun x7 h => aCmpI ilt x6 x7 h fun x8 h => withBool x8 fun t9 => bc t9 (aIdxAddr 1 x4 x6 h fun x10 h => aLoad x10 h fun x11 h => bindR (self x11 h) fun x12 h => aLenK 1 x5 h fun x13 h => loopD F (c_spec_l1Sorted_l2 F g kc3) [x4, x5, x6, x12, x13] h) (bindR (c_spec_l1Of F g x5 h) fun x43 h => some (x43, h))) (hd vs) (hd (tl vs)) (hd (tl (tl vs)))
noncomputable def c_spec_l1Sorted (F g : Nat) : AV → H → Option R := Nat.rec (motive := fun _ => AV → H → Option R) (fun _ _ => none) (fun g self a0 h => bindR (c_spec_l1Kids F g a0 h) fun x1 h => aBuildSlice 0 1 [] h fun x2 h => loopD F (c_spec_l1Sorted_l3 F g self) [x1, x2, (AV.int 3 (Int.ofNat 0))] h) g
noncomputable def A_spec_l1Sorted : An := (.two .o (.two .o (.two .o (.two (.two .o (.two (.at_ [3, 4, 5] (.two (.two .o (.two .o .o)) (.two (.two (.two .o (.two .o (.two (.two (.at_ [3, 4, 5, 6, 7] (.two (.two (.at_ [3, 4, 5, 6, 7, 26, 33] .o .o) (.two .o .o)) (.two .o .o)) .o) .o) .o))) .o) .o)) .o) .o)) (.two .o .o)))))
noncomputable def b_spec_l1Sorted : Code := bodyOf Go.Proofs.Try.f108
theorem k_spec_l1Sorted (F g : Nat) (a0 : AV) (h : H) : callD Go.Proofs.Try.prog (Env.add (Env.add (Env.add (fun _ _ _ => none : Env) 102 (u1 (c_spec_l1Kids F g))) 107 (u1 (c_spec_l1Of F g))) 108 (u1 (c_spec_l1Sorted F g))) 51 F b_spec_l1Sorted [2] A_spec_l1Sorted [a0] h = c_spec_l1Sorted F (g + 1) a0 h := by kernel_rfl
theorem s_spec_l1Sorted (F g : Nat) : ∀ args h r, u1 (c_spec_l1Sorted F g) args h = some r → Tri Go.Proofs.Try.prog 108 args h r := by
  induction g with
  | zero => intro args h r e; obtain ⟨a0, rfl, e⟩ := u1_some e; cases e
  | succ g ih => intro args h r e; obtain ⟨a0, rfl, e1⟩ := u1_some e; exact fn_sound Go.Proofs.Try.func108 rfl rfl rfl Go.Proofs.Try.ntmps108 (Sound.add (Sound.add (Sound.add (Sound.none _) (s_spec_l1Kids F g)) (s_spec_l1Of F g)) ih) ((k_spec_l1Sorted F g a0 h).trans e1)

-- "loop.example/treenumbers/spec.l3All"
noncomputable def c_spec_l3All_l1 (F g : Nat) (self : AV → AV → AV → H → Option R) : List AV → H → (List AV → H → Option R) → Option R := fun vs h kc15 => (fun x16 x17 x18 x19 => aCmpI (fun a b => ile b a) x19 (AV.int 3 (Int.ofNat 1)) h fun x20 h => withBool x20 fun t21 => bc t21 (aBuildSlice 0 1 [] h fun x22 h => aAppend 1 8 x22 x16 h fun x23 h => aBuildSlice 1 1 [(0, 1, x19)] h fun x24 h => aAppend 1 8 x23 x24 h fun x25 h => bindR (self x25 x17 x18 h) fun x26 h => aArith isub x19 (AV.int 3 (Int.ofNat 1)) h fun x27 h => kc15 [x16, x17, x26, x27] h) (some (x18, h))) (hd vs) (hd (tl vs)) (hd (tl (tl vs))) (hd (tl (tl (tl vs))))
noncomputable def c_spec_l3All (F g : Nat) : AV → AV → AV → H → Option R := Nat.rec (motive := fun _ => AV → AV → AV → H → Option R) (fun _ _ _ _ => none) (fun g self a0 a1 a2 h => aLenK 1 a0 h fun x1 h => aCmpI ieq x1 a1 h fun x2 h => withBool x2 fun t3 => bc t3 (bindR (c_spec_l3Tree F g a0 h) fun x4 h => bindR (c_spec_l1Sorted F g x4 h) fun x5 h => aCmpS eqL x4 x5 h fun x6 h => withBool x6 fun t7 => bc t7 (aBuildSlice 1 1 [(0, 1, x4)] h fun x8 h => aAppend 1 16 a2 x8 h fun x9 h => some (x9, h)) (some (a2, h))) (aLenK 1 a0 h fun x10 h => aArith isub x10 (AV.int 3 (Int.ofNat 1)) h fun x11 h => aIdxAddr 1 a0 x11 h fun x12 h => aLoad x12 h fun x13 h => aArith iadd x13 (AV.int 3 (Int.ofNat 1)) h fun x14 h => loopD F (c_spec_l3All_l1 F g self) [a0, a1, a2, x14] h)) g
noncomputable def A_spec_l3All : An := (.two .o (.two (.two .o (.two (.two .o (.two (.two .o (.two (.two .o .o) .o)) (.two .o .o))) .o)) (.two (.two .o (.two (.at_ [0, 1, 2, 8] (.two (.two .o (.two .o .o)) (.two (.two .o .o) .o)) .o) .o)) (.two .o .o))))
noncomputable def b_spec_l3All : Code := bodyOf Go.Proofs.Try.f122
theorem k_spec_l3All (F g : Nat) (a0 a1 a2 : AV) (h : H) : callD Go.Proofs.Try.prog (Env.add (Env.add (Env.add (fun _ _ _ => none : Env) 115 (u1 (c_spec_l3Tree F g))) 108 (u1 (c_spec_l1Sorted F g))) 122 (u3 (c_spec_l3All F g))) 45 F b_spec_l3All [6] A_spec_l3All [a0, a1, a2] h = c_spec_l3All F (g + 1) a0 a1 a2 h := by kernel_rfl
theorem s_spec_l3All (F g : Nat) : ∀ args h r, u3 (c_spec_l3All F g) args h = some r → Tri Go.Proofs.Try.prog 122 args h r := by
  induction g with
  | zero => intro args h r e; obtain ⟨a0, a1, a2, rfl, e⟩ := u3_some e; cases e
  | succ g ih => intro args h r e; obtain ⟨a0, a1, a2, rfl, e1⟩ := u3_some e; exact fn_sound Go.Proofs.Try.func122 rfl rfl rfl Go.Proofs.Try.ntmps122 (Sound.add (Sound.add (Sound.add (Sound.none _) (s_spec_l3Tree F g)) (s_spec_l1Sorted F g)) ih) ((k_spec_l3All F g a0 a1 a2 h).trans e1)

end
end Go.AI.L
namespace Go.AI.L
open Go Go.RowKit Go.AI
set_option linter.unusedVariables false
set_option linter.unusedSimpArgs false
set_option maxRecDepth 100000
noncomputable section
def row1 : List AV := [.str [40, 41] 2]
def row2 : List AV := [.str [40, 40, 41, 41] 4]
def row3 : List AV := [.str [40, 40, 40, 41, 41, 41] 6, .str [40, 40, 41, 40, 41, 41] 6]
def row4 : List AV := [.str [40, 40, 40, 40, 41, 41, 41, 41] 8, .str [40, 40, 40, 41, 40, 41, 41, 41] 8, .str [40, 40, 40, 41, 41, 40, 41, 41] 8, .str [40, 40, 41, 40, 41, 40, 41, 41] 8]
def row5 : List AV := [.str [40, 40, 40, 40, 40, 41, 41, 41, 41, 41] 10, .str [40, 40, 40, 40, 41, 40, 41, 41, 41, 41] 10, .str [40, 40, 40, 40, 41, 41, 40, 41, 41, 41] 10, .str [40, 40, 40, 40, 41, 41, 41, 40, 41, 41] 10, .str [40, 40, 40, 41, 40, 41, 40, 41, 41, 41] 10, .str [40, 40, 40, 41, 40, 41, 41, 40, 41, 41] 10, .str [40, 40, 40, 41, 41, 40, 40, 41, 41, 41] 10, .str [40, 40, 40, 41, 41, 40, 41, 40, 41, 41] 10, .str [40, 40, 41, 40, 41, 40, 41, 40, 41, 41] 10]
def row6 : List AV := [.str [40, 40, 40, 40, 40, 40, 41, 41, 41, 41, 41, 41] 12, .str [40, 40, 40, 40, 40, 41, 40, 41, 41, 41, 41, 41] 12, .str [40, 40, 40, 40, 40, 41, 41, 40, 41, 41, 41, 41] 12, .str [40, 40, 40, 40, 40, 41, 41, 41, 40, 41, 41, 41] 12, .str [40, 40, 40, 40, 40, 41, 41, 41, 41, 40, 41, 41] 12, .str [40, 40, 40, 40, 41, 40, 41, 40, 41, 41, 41, 41] 12, .str [40, 40, 40, 40, 41, 40, 41, 41, 40, 41, 41, 41] 12, .str [40, 40, 40, 40, 41, 40, 41, 41, 41, 40, 41, 41] 12, .str [40, 40, 40, 40, 41, 41, 40, 40, 41, 41, 41, 41] 12, .str [40, 40, 40, 40, 41, 41, 40, 41, 40, 41, 41, 41] 12, .str [40, 40, 40, 40, 41, 41, 40, 41, 41, 40, 41, 41] 12, .str [40, 40, 40, 40, 41, 41, 41, 40, 40, 41, 41, 41] 12, .str [40, 40, 40, 40, 41, 41, 41, 40, 41, 40, 41, 41] 12, .str [40, 40, 40, 41, 40, 41, 40, 41, 40, 41, 41, 41] 12, .str [40, 40, 40, 41, 40, 41, 40, 41, 41, 40, 41, 41] 12, .str [40, 40, 40, 41, 40, 41, 41, 40, 40, 41, 41, 41] 12, .str [40, 40, 40, 41, 40, 41, 41, 40, 41, 40, 41, 41] 12, .str [40, 40, 40, 41, 41, 40, 40, 41, 41, 40, 41, 41] 12, .str [40, 40, 40, 41, 41, 40, 41, 40, 41, 40, 41, 41] 12, .str [40, 40, 41, 40, 41, 40, 41, 40, 41, 40, 41, 41] 12]
def row7 : List AV := [.str [40, 40, 40, 40, 40, 40, 40, 41, 41, 41, 41, 41, 41, 41] 14, .str [40, 40, 40, 40, 40, 40, 41, 40, 41, 41, 41, 41, 41, 41] 14, .str [40, 40, 40, 40, 40, 40, 41, 41, 40, 41, 41, 41, 41, 41] 14, .str [40, 40, 40, 40, 40, 40, 41, 41, 41, 40, 41, 41, 41, 41] 14, .str [40, 40, 40, 40, 40, 40, 41, 41, 41, 41, 40, 41, 41, 41] 14, .str [40, 40, 40, 40, 40, 40, 41, 41, 41, 41, 41, 40, 41, 41] 14, .str [40, 40, 40, 40, 40, 41, 40, 41, 40, 41, 41, 41, 41, 41] 14, .str [40, 40, 40, 40, 40, 41, 40, 41, 41, 40, 41, 41, 41, 41] 14, .str [40, 40, 40, 40, 40, 41, 40, 41, 41, 41, 40, 41, 41, 41] 14, .str [40, 40, 40, 40, 40, 41, 40, 41, 41, 41, 41, 40, 41, 41] 14, .str [40, 40, 40, 40, 40, 41, 41, 40, 40, 41, 41, 41, 41, 41] 14, .str [40, 40, 40, 40, 40, 41, 41, 40, 41, 40, 41, 41, 41, 41] 14, .str [40, 40, 40, 40, 40, 41, 41, 40, 41, 41, 40, 41, 41, 41] 14, .str [40, 40, 40, 40, 40, 41, 41, 40, 41, 41, 41, 40, 41, 41] 14, .str [40, 40, 40, 40, 40, 41, 41, 41, 40, 40, 41, 41, 41, 41] 14, .str [40, 40, 40, 40, 40, 41, 41, 41, 40, 41, 40, 41, 41, 41] 14, .str [40, 40, 40, 40, 40, 41, 41, 41, 40, 41, 41, 40, 41, 41] 14, .str [40, 40, 40, 40, 40, 41, 41, 41, 41, 40, 40, 41, 41, 41] 14, .str [40, 40, 40, 40, 40, 41, 41, 41, 41, 40, 41, 40, 41, 41] 14, .str [40, 40, 40, 40, 41, 40, 41, 40, 41, 40, 41, 41, 41, 41] 14, .str [40, 40, 40, 40, 41, 40, 41, 40, 41, 41, 40, 41, 41, 41] 14, .str [40, 40, 40, 40, 41, 40, 41, 40, 41, 41, 41, 40, 41, 41] 14, .str [40, 40, 40, 40, 41, 40, 41, 41, 40, 40, 41, 41, 41, 41] 14, .str [40, 40, 40, 40, 41, 40, 41, 41, 40, 41, 40, 41, 41, 41] 14, .str [40, 40, 40, 40, 41, 40, 41, 41, 40, 41, 41, 40, 41, 41] 14, .str [40, 40, 40, 40, 41, 40, 41, 41, 41, 40, 40, 41, 41, 41] 14, .str [40, 40, 40, 40, 41, 40, 41, 41, 41, 40, 41, 40, 41, 41] 14, .str [40, 40, 40, 40, 41, 41, 40, 40, 41, 41, 40, 41, 41, 41] 14, .str [40, 40, 40, 40, 41, 41, 40, 40, 41, 41, 41, 40, 41, 41] 14, .str [40, 40, 40, 40, 41, 41, 40, 41, 40, 41, 40, 41, 41, 41] 14, .str [40, 40, 40, 40, 41, 41, 40, 41, 40, 41, 41, 40, 41, 41] 14, .str [40, 40, 40, 40, 41, 41, 40, 41, 41, 40, 40, 41, 41, 41] 14, .str [40, 40, 40, 40, 41, 41, 40, 41, 41, 40, 41, 40, 41, 41] 14, .str [40, 40, 40, 40, 41, 41, 41, 40, 40, 40, 41, 41, 41, 41] 14, .str [40, 40, 40, 40, 41, 41, 41, 40, 40, 41, 40, 41, 41, 41] 14, .str [40, 40, 40, 40, 41, 41, 41, 40, 40, 41, 41, 40, 41, 41] 14, .str [40, 40, 40, 40, 41, 41, 41, 40, 41, 40, 41, 40, 41, 41] 14, .str [40, 40, 40, 41, 40, 41, 40, 41, 40, 41, 40, 41, 41, 41] 14, .str [40, 40, 40, 41, 40, 41, 40, 41, 40, 41, 41, 40, 41, 41] 14, .str [40, 40, 40, 41, 40, 41, 40, 41, 41, 40, 40, 41, 41, 41] 14, .str [40, 40, 40, 41, 40, 41, 40, 41, 41, 40, 41, 40, 41, 41] 14, .str [40, 40, 40, 41, 40, 41, 41, 40, 40, 41, 40, 41, 41, 41] 14, .str [40, 40, 40, 41, 40, 41, 41, 40, 40, 41, 41, 40, 41, 41] 14, .str [40, 40, 40, 41, 40, 41, 41, 40, 41, 40, 41, 40, 41, 41] 14, .str [40, 40, 40, 41, 41, 40, 40, 41, 41, 40, 40, 41, 41, 41] 14, .str [40, 40, 40, 41, 41, 40, 40, 41, 41, 40, 41, 40, 41, 41] 14, .str [40, 40, 40, 41, 41, 40, 41, 40, 41, 40, 41, 40, 41, 41] 14, .str [40, 40, 41, 40, 41, 40, 41, 40, 41, 40, 41, 40, 41, 41] 14]
def row8 : List AV := [.str [40, 40, 40, 40, 40, 40, 40, 40, 41, 41, 41, 41, 41, 41, 41, 41] 16, .str [40, 40, 40, 40, 40, 40, 40, 41, 40, 41, 41, 41, 41, 41, 41, 41] 16, .str [40, 40, 40, 40, 40, 40, 40, 41, 41, 40, 41, 41, 41, 41, 41, 41] 16, .str [40, 40, 40, 40, 40, 40, 40, 41, 41, 41, 40, 41, 41, 41, 41, 41] 16, .str [40, 40, 40, 40, 40, 40, 40, 41, 41, 41, 41, 40, 41, 41, 41, 41] 16, .str [40, 40, 40, 40, 40, 40, 40, 41, 41, 41, 41, 41, 40, 41, 41, 41] 16, .str [40, 40, 40, 40, 40, 40, 40, 41, 41, 41, 41, 41, 41, 40, 41, 41] 16, .str [40, 40, 40, 40, 40, 40, 41, 40, 41, 40, 41, 41, 41, 41, 41, 41] 16, .str [40, 40, 40, 40, 40, 40, 41, 40, 41, 41, 40, 41, 41, 41, 41, 41] 16, .str [40, 40, 40, 40, 40, 40, 41, 40, 41, 41, 41, 40, 41, 41, 41, 41] 16, .str [40, 40, 40, 40, 40, 40, 41, 40, 41, 41, 41, 41, 40, 41, 41, 41] 16, .str [40, 40, 40, 40, 40, 40, 41, 40, 41, 41, 41, 41, 41, 40, 41, 41] 16, .str [40, 40, 40, 40, 40, 40, 41, 41, 40, 40, 41, 41, 41, 41, 41, 41] 16, .str [40, 40, 40, 40, 40, 40, 41, 41, 40, 41, 40, 41, 41, 41, 41, 41] 16, .str [40, 40, 40, 40, 40, 40, 41, 41, 40, 41, 41, 40, 41, 41, 41, 41] 16, .str [40, 40, 40, 40, 40, 40, 41, 41, 40, 41, 41, 41, 40, 41, 41, 41] 16, .str [40, 40, 40, 40, 40, 40, 41, 41, 40, 41, 41, 41, 41, 40, 41, 41] 16, .str [40, 40, 40, 40, 40, 40, 41, 41, 41, 40, 40, 41, 41, 41, 41, 41] 16, .str [40, 40, 40, 40, 40, 40, 41, 41, 41, 40, 41, 40, 41, 41, 41, 41] 16, .str [40, 40, 40, 40, 40, 40, 41, 41, 41, 40, 41, 41, 40, 41, 41, 41] 16, .str [40, 40, 40, 40, 40, 40, 41, 41, 41, 40, 41, 41, 41, 40, 41, 41] 16, .str [40, 40, 40, 40, 40, 40, 41, 41, 41, 41, 40, 40, 41, 41, 41, 41] 16, .str [40, 40, 40, 40, 40, 40, 41, 41, 41, 41, 40, 41, 40, 41, 41, 41] 16, .str [40, 40, 40, 40, 40, 40, 41, 41, 41, 41, 40, 41, 41, 40, 41, 41] 16, .str [40, 40, 40, 40, 40, 40, 41, 41, 41, 41, 41, 40, 40, 41, 41, 41] 16, .str [40, 40, 40, 40, 40, 40, 41, 41, 41, 41, 41, 40, 41, 40, 41, 41] 16, .str [40, 40, 40, 40, 40, 41, 40, 41, 40, 41, 40, 41, 41, 41, 41, 41] 16, .str [40, 40, 40, 40, 40, 41, 40, 41, 40, 41, 41, 40, 41, 41, 41, 41] 16, .str [40, 40, 40, 40, 40, 41, 40, 41, 40, 41, 41, 41, 40, 41, 41, 41] 16, .str [40, 40, 40, 40, 40, 41, 40, 41, 40, 41, 41, 41, 41, 40, 41, 41] 16, .str [40, 40, 40, 40, 40, 41, 40, 41, 41, 40, 40, 41, 41, 41, 41, 41] 16, .str [40, 40, 40, 40, 40, 41, 40, 41, 41, 40, 41, 40, 41, 41, 41, 41] 16, .str [40, 40, 40, 40, 40, 41, 40, 41, 41, 40, 41, 41, 40, 41, 41, 41] 16, .str [40, 40, 40, 40, 40, 41, 40, 41, 41, 40, 41, 41, 41, 40, 41, 41] 16, .str [40, 40, 40, 40, 40, 41, 40, 41, 41, 41, 40, 40, 41, 41, 41, 41] 16, .str [40, 40, 40, 40, 40, 41, 40, 41, 41, 41, 40, 41, 40, 41, 41, 41] 16, .str [40, 40, 40, 40, 40, 41, 40, 41, 41, 41, 40, 41, 41, 40, 41, 41] 16, .str [40, 40, 40, 40, 40, 41, 40, 41, 41, 41, 41, 40, 40, 41, 41, 41] 16, .str [40, 40, 40, 40, 40, 41, 40, 41, 41, 41, 41, 40, 41, 40, 41, 41] 16, .str [40, 40, 40, 40, 40, 41, 41, 40, 40, 41, 41, 40, 41, 41, 41, 41] 16, .str [40, 40, 40, 40, 40, 41, 41, 40, 40, 41, 41, 41, 40, 41, 41, 41] 16, .str [40, 40, 40, 40, 40, 41, 41, 40, 40, 41, 41, 41, 41, 40, 41, 41] 16, .str [40, 40, 40, 40, 40, 41, 41, 40, 41, 40, 41, 40, 41, 41, 41, 41] 16, .str [40, 40, 40, 40, 40, 41, 41, 40, 41, 40, 41, 41, 40, 41, 41, 41] 16, .str [40, 40, 40, 40, 40, 41, 41, 40, 41, 40, 41, 41, 41, 40, 41, 41] 16, .str [40, 40, 40, 40, 40, 41, 41, 40, 41, 41, 40, 40, 41, 41, 41, 41] 16, .str [40, 40, 40, 40, 40, 41, 41, 40, 41, 41, 40, 41, 40, 41, 41, 41] 16, .str [40, 40, 40, 40, 40, 41, 41, 40, 41, 41, 40, 41, 41, 40, 41, 41] 16, .str [40, 40, 40, 40, 40, 41, 41, 40, 41, 41, 41, 40, 40, 41, 41, 41] 16, .str [40, 40, 40, 40, 40, 41, 41, 40, 41, 41, 41, 40, 41, 40, 41, 41] 16, .str [40, 40, 40, 40, 40, 41, 41, 41, 40, 40, 40, 41, 41, 41, 41, 41] 16, .str [40, 40, 40, 40, 40, 41, 41, 41, 40, 40, 41, 40, 41, 41, 41, 41] 16, .str [40, 40, 40, 40, 40, 41, 41, 41, 40, 40, 41, 41, 40, 41, 41, 41] 16, .str [40, 40, 40, 40, 40, 41, 41, 41, 40, 40, 41, 41, 41, 40, 41, 41] 16, .str [40, 40, 40, 40, 40, 41, 41, 41, 40, 41, 40, 41, 40, 41, 41, 41] 16, .str [40, 40, 40, 40, 40, 41, 41, 41, 40, 41, 40, 41, 41, 40, 41, 41] 16, .str [40, 40, 40, 40, 40, 41, 41, 41, 40, 41, 41, 40, 40, 41, 41, 41] 16, .str [40, 40, 40, 40, 40, 41, 41, 41, 40, 41, 41, 40, 41, 40, 41, 41] 16, .str [40, 40, 40, 40, 40, 41, 41, 41, 41, 40, 40, 40, 41, 41, 41, 41] 16, .str [40, 40, 40, 40, 40, 41, 41, 41, 41, 40, 40, 41, 40, 41, 41, 41] 16, .str [40, 40, 40, 40, 40, 41, 41, 41, 41, 40, 40, 41, 41, 40, 41, 41] 16, .str [40, 40, 40, 40, 40, 41, 41, 41, 41, 40, 41, 40, 41, 40, 41, 41] 16, .str [40, 40, 40, 40, 41, 40, 41, 40, 41, 40, 41, 40, 41, 41, 41, 41] 16, .str [40, 40, 40, 40, 41, 40, 41, 40, 41, 40, 41, 41, 40, 41, 41, 41] 16, .str [40, 40, 40, 40, 41, 40, 41, 40, 41, 40, 41, 41, 41, 40, 41, 41] 16, .str [40, 40, 40, 40, 41, 40, 41, 40, 41, 41, 40, 40, 41, 41, 41, 41] 16, .str [40, 40, 40, 40, 41, 40, 41, 40, 41, 41, 40, 41, 40, 41, 41, 41] 16, .str [40, 40, 40, 40, 41, 40, 41, 40, 41, 41, 40, 41, 41, 40, 41, 41] 16, .str [40, 40, 40, 40, 41, 40, 41, 40, 41, 41, 41, 40, 40, 41, 41, 41] 16, .str [40, 40, 40, 40, 41, 40, 41, 40, 41, 41, 41, 40, 41, 40, 41, 41] 16, .str [40, 40, 40, 40, 41, 40, 41, 41, 40, 40, 41, 40, 41, 41, 41, 41] 16, .str [40, 40, 40, 40, 41, 40, 41, 41, 40, 40, 41, 41, 40, 41, 41, 41] 16, .str [40, 40, 40, 40, 41, 40, 41, 41, 40, 40, 41, 41, 41, 40, 41, 41] 16, .str [40, 40, 40, 40, 41, 40, 41, 41, 40, 41, 40, 41, 40, 41, 41, 41] 16, .str [40, 40, 40, 40, 41, 40, 41, 41, 40, 41, 40, 41, 41, 40, 41, 41] 16, .str [40, 40, 40, 40, 41, 40, 41, 41, 40, 41, 41, 40, 40, 41, 41, 41] 16, .str [40, 40, 40, 40, 41, 40, 41, 41, 40, 41, 41, 40, 41, 40, 41, 41] 16, .str [40, 40, 40, 40, 41, 40, 41, 41, 41, 40, 40, 40, 41, 41, 41, 41] 16, .str [40, 40, 40, 40, 41, 40, 41, 41, 41, 40, 40, 41, 40, 41, 41, 41] 16, .str [40, 40, 40, 40, 41, 40, 41, 41, 41, 40, 40, 41, 41, 40, 41, 41] 16, .str [40, 40, 40, 40, 41, 40, 41, 41, 41, 40, 41, 40, 41, 40, 41, 41] 16, .str [40, 40, 40, 40, 41, 41, 40, 40, 41, 41, 40, 40, 41, 41, 41, 41] 16, .str [40, 40, 40, 40, 41, 41, 40, 40, 41, 41, 40, 41, 40, 41, 41, 41] 16, .str [40, 40, 40, 40, 41, 41, 40, 40, 41, 41, 40, 41, 41, 40, 41, 41] 16, .str [40, 40, 40, 40, 41, 41, 40, 40, 41, 41, 41, 40, 40, 41, 41, 41] 16, .str [40, 40, 40, 40, 41, 41, 40, 40, 41, 41, 41, 40, 41, 40, 41, 41] 16, .str [40, 40, 40, 40, 41, 41, 40, 41, 40, 41, 40, 41, 40, 41, 41, 41] 16, .str [40, 40, 40, 40, 41, 41, 40, 41, 40, 41, 40, 41, 41, 40, 41, 41] 16, .str [40, 40, 40, 40, 41, 41, 40, 41, 40, 41, 41, 40, 40, 41, 41, 41] 16, .str [40, 40, 40, 40, 41, 41, 40, 41, 40, 41, 41, 40, 41, 40, 41, 41] 16, .str [40, 40, 40, 40, 41, 41, 40, 41, 41, 40, 40, 40, 41, 41, 41, 41] 16, .str [40, 40, 40, 40, 41, 41, 40, 41, 41, 40, 40, 41, 40, 41, 41, 41] 16, .str [40, 40, 40, 40, 41, 41, 40, 41, 41, 40, 40, 41, 41, 40, 41, 41] 16, .str [40, 40, 40, 40, 41, 41, 40, 41, 41, 40, 41, 40, 41, 40, 41, 41] 16, .str [40, 40, 40, 40, 41, 41, 41, 40, 40, 40, 41, 41, 41, 40, 41, 41] 16, .str [40, 40, 40, 40, 41, 41, 41, 40, 40, 41, 40, 41, 40, 41, 41, 41] 16, .str [40, 40, 40, 40, 41, 41, 41, 40, 40, 41, 40, 41, 41, 40, 41, 41] 16, .str [40, 40, 40, 40, 41, 41, 41, 40, 40, 41, 41, 40, 40, 41, 41, 41] 16, .str [40, 40, 40, 40, 41, 41, 41, 40, 40, 41, 41, 40, 41, 40, 41, 41] 16, .str [40, 40, 40, 40, 41, 41, 41, 40, 41, 40, 41, 40, 41, 40, 41, 41] 16, .str [40, 40, 40, 41, 40, 41, 40, 41, 40, 41, 40, 41, 40, 41, 41, 41] 16, .str [40, 40, 40, 41, 40, 41, 40, 41, 40, 41, 40, 41, 41, 40, 41, 41] 16, .str [40, 40, 40, 41, 40, 41, 40, 41, 40, 41, 41, 40, 40, 41, 41, 41] 16, .str [40, 40, 40, 41, 40, 41, 40, 41, 40, 41, 41, 40, 41, 40, 41, 41] 16, .str [40, 40, 40, 41, 40, 41, 40, 41, 41, 40, 40, 41, 40, 41, 41, 41] 16, .str [40, 40, 40, 41, 40, 41, 40, 41, 41, 40, 40, 41, 41, 40, 41, 41] 16, .str [40, 40, 40, 41, 40, 41, 40, 41, 41, 40, 41, 40, 41, 40, 41, 41] 16, .str [40, 40, 40, 41, 40, 41, 41, 40, 40, 41, 40, 41, 41, 40, 41, 41] 16, .str [40, 40, 40, 41, 40, 41, 41, 40, 40, 41, 41, 40, 40, 41, 41, 41] 16, .str [40, 40, 40, 41, 40, 41, 41, 40, 40, 41, 41, 40, 41, 40, 41, 41] 16, .str [40, 40, 40, 41, 40, 41, 41, 40, 41, 40, 41, 40, 41, 40, 41, 41] 16, .str [40, 40, 40, 41, 41, 40, 40, 41, 41, 40, 40, 41, 41, 40, 41, 41] 16, .str [40, 40, 40, 41, 41, 40, 40, 41, 41, 40, 41, 40, 41, 40, 41, 41] 16, .str [40, 40, 40, 41, 41, 40, 41, 40, 41, 40, 41, 40, 41, 40, 41, 41] 16, .str [40, 40, 41, 40, 41, 40, 41, 40, 41, 40, 41, 40, 41, 40, 41, 41] 16]
def MA : H := ⟨2, .n (.n .e (.cells 0 []) .e) (.cells 0 [.int 3 (.ofNat 0)]) .e, 0⟩
def isE (t : Tr) : Bool := @Tr.rec (fun _ => Bool) true (fun _ _ _ _ _ => false) t
def isNilL (l : List AV) : Bool := @List.rec AV (fun _ => Bool) true (fun _ _ _ => false) l
def isZ (a : AV) : Bool := a.onInt false fun k v => bc (Nat.beq k 3) (@Int.rec (fun _ => Bool) (fun v => Nat.beq v 0) (fun _ => false) v) false
def isZL (l : List AV) : Bool := @List.rec AV (fun _ => Bool) false (fun a t _ => bc (isZ a) (isNilL t) false) l
def onCells (b : Blk) (f : Nat → List AV → Bool) : Bool := @Blk.rec (fun _ => Bool) false f (fun _ _ => false) b
def isMA (h : H) : Bool := @H.rec (fun _ => Bool) (fun n t lo => bc (Nat.beq n 2) (bc (Nat.beq lo 0) (@Tr.rec (fun _ => Bool) false (fun l v r _ _ => bc (isE r) (bc (onCells v fun fl l => bc (Nat.beq fl 0) (isZL l) false) (@Tr.rec (fun _ => Bool) false (fun l2 v2 r2 _ _ => bc (isE l2) (bc (isE r2) (onCells v2 fun fl l => bc (Nat.beq fl 0) (isNilL l) false) false) false) l) false) false) t) false) false) h
def isSl (a : AV) (b n c : Nat) : Bool := a.onLeaf false fun e => @Leaf.rec (fun _ => Bool) false false false false false false false (fun _ => false) (fun b1 o1 n1 c1 => bc (Nat.beq b1 b) (bc (Nat.beq o1 0) (bc (Nat.beq n1 n) (Nat.beq c1 c) false) false) false) (fun _ => false) e
def onOsl (x : AV) (f : Nat → Nat → Nat → Nat → Bool) : Bool := @AV.rec (fun _ => Bool) (fun _ _ => false) (fun _ => false) (fun _ _ => false) (fun _ _ => false) f (fun _ => false) (fun _ _ _ => false) (fun _ _ _ _ _ => false) (fun _ _ _ _ => false) x
def eqS (a b : AV) : Bool := a.onStr false fun t n => b.onStr false fun t' n' => bc (eqL t t') (Nat.beq n n') false
def eqRows : List AV → List AV → Bool
  | [], [] => true
  | a :: l, b :: m => bc (eqS a b) (eqRows l m) false
  | _, _ => false
def chk (x : Option R) (k : Nat) (m : List AV) : Bool := @Option.rec R (fun _ => Bool) false (fun r => onOsl r.1 fun b o n es => bc (Nat.beq o 0) (bc (Nat.beq n k) (bc (Nat.beq es 1) (onCells (r.2.get b) fun fl l => bc (Nat.beq fl 0) (eqRows l m) false) false) false) false) x
def raw (n : Nat) : Option R := c_spec_l3All 20000 20 (.leaf (.sl 0 0 1 1)) (.int 3 (.ofNat n)) (.leaf (.sl 1 0 0 0)) MA
theorem bc_and {p q : Bool} (h : bc p q false = true) : p = true ∧ q = true := by
  cases p with
  | true => exact ⟨rfl, h⟩
  | false => cases h
theorem eqL_to : ∀ {x y : List Nat}, eqL x y = true → x = y
  | [], [], _ => rfl
  | [], _ :: _, h => by cases h
  | _ :: _, [], h => by cases h
  | a :: x, b :: y, h => by
    rw [eqL_cons] at h
    obtain ⟨h1, h2⟩ := bc_and h
    rw [Nat.eq_of_beq_eq_true h1, eqL_to h2]
theorem isE_eq {t : Tr} (h : isE t = true) : t = .e := by cases t <;> first | rfl | cases h
theorem isNilL_eq {l : List AV} (h : isNilL l = true) : l = [] := by cases l <;> first | rfl | cases h
theorem isZ_eq {a : AV} (h : isZ a = true) : a = .int 3 (.ofNat 0) := by
  cases a using AV.casesE <;> first | (cases h; done) | skip
  rename_i k v
  cases v with
  | negSucc v => obtain ⟨_, h2⟩ := bc_and (p := Nat.beq k 3) (q := false) h; cases h2
  | ofNat v =>
    obtain ⟨h1, h2⟩ := bc_and (p := Nat.beq k 3) (q := Nat.beq v 0) h
    rw [Nat.eq_of_beq_eq_true h1, Nat.eq_of_beq_eq_true h2]
theorem isZL_eq {l : List AV} (h : isZL l = true) : l = [.int 3 (.ofNat 0)] := by
  cases l with
  | nil => cases h
  | cons a t =>
    obtain ⟨h1, h2⟩ := bc_and (p := isZ a) (q := isNilL t) h
    rw [isZ_eq h1, isNilL_eq h2]
theorem onCells_eq {b : Blk} {f : Nat → List AV → Bool} (h : onCells b f = true) : ∃ fl l, b = .cells fl l ∧ f fl l = true := by
  cases b <;> first | exact ⟨_, _, rfl, h⟩ | cases h
theorem isMA_eq {h : H} (e : isMA h = true) : h = MA := by
  obtain ⟨n, t, lo⟩ := h
  obtain ⟨h1, e1⟩ := bc_and (p := Nat.beq n 2) (q := bc (Nat.beq lo 0) _ false) e
  obtain ⟨h2, e2⟩ := bc_and e1
  cases t with
  | e => cases e2
  | n l v r =>
    obtain ⟨h3, e3⟩ := bc_and (p := isE r) e2
    obtain ⟨h4, e4⟩ := bc_and e3
    cases l with
    | e => cases e4
    | n l2 v2 r2 =>
      obtain ⟨h5, e5⟩ := bc_and (p := isE l2) e4
      obtain ⟨h6, e6⟩ := bc_and e5
      obtain ⟨fl, l, rfl, e7⟩ := onCells_eq h4
      obtain ⟨fl2, l2', rfl, e8⟩ := onCells_eq e6
      obtain ⟨g1, g2⟩ := bc_and e7
      obtain ⟨g3, g4⟩ := bc_and e8
      rw [Nat.eq_of_beq_eq_true h1, Nat.eq_of_beq_eq_true h2, isE_eq h3, isE_eq h5, isE_eq h6, Nat.eq_of_beq_eq_true g1, Nat.eq_of_beq_eq_true g3, isZL_eq g2, isNilL_eq g4]
      rfl
theorem isSl_eq {a : AV} {b n c : Nat} (h : isSl a b n c = true) : a = .leaf (.sl b 0 n c) := by
  cases a using AV.casesE <;> first | (cases h; done) | skip
  rename_i b1 o1 n1 c1
  obtain ⟨h1, h⟩ := bc_and (p := Nat.beq b1 b) (q := bc (Nat.beq o1 0) (bc (Nat.beq n1 n) (Nat.beq c1 c) false) false) h
  obtain ⟨h2, h⟩ := bc_and h
  obtain ⟨h3, h4⟩ := bc_and h
  rw [Nat.eq_of_beq_eq_true h1, Nat.eq_of_beq_eq_true h2, Nat.eq_of_beq_eq_true h3, Nat.eq_of_beq_eq_true h4]
theorem eqS_eq {a b : AV} (h : eqS a b = true) : a = b ∧ a.plain = true := by
  cases a using AV.casesE <;> first | (cases h; done) | skip
  rename_i t n
  cases b using AV.casesE <;> first | (cases h; done) | skip
  rename_i t' n'
  obtain ⟨h1, h2⟩ := bc_and (p := eqL t t') (q := Nat.beq n n') h
  rw [eqL_to h1, Nat.eq_of_beq_eq_true h2]
  exact ⟨rfl, rfl⟩
theorem eqRows_eq : ∀ {l m : List AV}, eqRows l m = true → l = m ∧ ∀ a ∈ m, a.plain = true
  | [], [], _ => ⟨rfl, fun a h => by cases h⟩
  | [], _ :: _, h => by cases h
  | _ :: _, [], h => by cases h
  | a :: l, b :: m, h => by
    obtain ⟨h1, h2⟩ := bc_and (p := eqS a b) (q := eqRows l m) h
    obtain ⟨rfl, hp⟩ := eqS_eq h1
    obtain ⟨rfl, hq⟩ := eqRows_eq h2
    exact ⟨rfl, fun x hx => by cases hx with | head => exact hp | tail _ hx => exact hq x hx⟩
theorem chk_eq {x : Option R} {k : Nat} {m : List AV} (h : chk x k m = true) : ∃ b h', x = some (.osl b 0 k 1, h') ∧ h'.get b = .cells 0 m ∧ ∀ a ∈ m, a.plain = true := by
  cases x with
  | none => cases h
  | some r =>
    obtain ⟨v, h'⟩ := r
    cases v using AV.casesE <;> first | (cases h; done) | skip
    rename_i b o n es
    obtain ⟨h1, h⟩ := bc_and (p := Nat.beq o 0) (q := bc (Nat.beq n k) (bc (Nat.beq es 1) (onCells (h'.get b) fun fl l => bc (Nat.beq fl 0) (eqRows l m) false) false) false) h
    obtain ⟨h2, h⟩ := bc_and h
    obtain ⟨h3, h⟩ := bc_and h
    obtain ⟨fl, l, h4, h⟩ := onCells_eq h
    obtain ⟨h5, h⟩ := bc_and h
    obtain ⟨rfl, hp⟩ := eqRows_eq h
    rw [Nat.eq_of_beq_eq_true h1, Nat.eq_of_beq_eq_true h2, Nat.eq_of_beq_eq_true h3]
    rw [Nat.eq_of_beq_eq_true h5] at h4
    exact ⟨b, h', rfl, h4, hp⟩
def fin (k : Nat) (m : List AV) : Option R := some (.osl 2 0 k 1, (⟨2, .e, 0⟩ : H).push (.cells 0 m))
theorem fin_ok {n k : Nat} {m : List AV} (h : chk (raw n) k m = true) {r : R} (e : fin k m = some r) : Tri Go.Proofs.Try.prog id_spec_l3All [.leaf (.sl 0 0 1 1), .int 3 (.ofNat n), .leaf (.sl 1 0 0 0)] MA r := by
  obtain ⟨b, h', h1, h2, h3⟩ := chk_eq h
  cases e
  exact Tri.lastRow (h := MA) (s_spec_l3All 20000 20 [_, _, _] MA _ h1) h2 h3
end
end Go.AI.L
