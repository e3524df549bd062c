/- The functions that read texts, and what they tell of every text. -/
import Derived.Test.YtlcmolcajoeagaaDoorAi2
import Derived.Test.YtlcmolcajoeagaaDoorProg
import Derived.KernelRfl

namespace Go.AI
abbrev id_main_main : Nat := 0
abbrev id_gosem_cut : Nat := 1
abbrev id_gosem_cut_init : Nat := 2
abbrev id_laws_FnFar : Nat := 3
abbrev id_laws_FnPrune : Nat := 4
abbrev id_spec_DrawMiddleFar : Nat := 5
abbrev id_impl_MiddleFar : Nat := 6
abbrev id_spec_MiddleFar : Nat := 7
abbrev id_laws_sameInts : Nat := 8
abbrev id_impl_TreeNodes : Nat := 9
abbrev id_impl_LevelsOf : Nat := 10
abbrev id_spec_DrawCutPrune : Nat := 11
abbrev id_impl_CutPrune : Nat := 12
abbrev id_spec_CutPrune : Nat := 13
abbrev id_impl_TreePart : Nat := 14
abbrev id_impl_TreeUp : Nat := 15
abbrev id_impl_CutGraft : Nat := 16
abbrev id_impl_TreeAlike : Nat := 17
abbrev id_spec_l91Node : Nat := 18
abbrev id_impl_nodeIn : Nat := 19
abbrev id_impl_isNoNode : Nat := 20
abbrev id_impl_node_distances : Nat := 21
abbrev id_slices_Clone_fd8e : Nat := 22
abbrev id_impl_node_root : Nat := 23
abbrev id_impl_node_size : Nat := 24
abbrev id_spec_l1Node : Nat := 25
abbrev id_spec_l6mFar : Nat := 26
abbrev id_impl_readTree : Nat := 27
abbrev id_impl_node_nodes : Nat := 28
abbrev id_slices_DeleteFunc_4168 : Nat := 29
abbrev id_impl_CutPrune_d1 : Nat := 30
abbrev id_impl_node_text : Nat := 31
abbrev id_spec_l1Opens : Nat := 32
abbrev id_spec_l1End : Nat := 33
abbrev id_impl_TreeSorted : Nat := 34
abbrev id_spec_l6Open : Nat := 35
abbrev id_spec_l91Tree : Nat := 36
abbrev id_spec_l6Rd_pick : Nat := 37
abbrev id_errors_As : Nat := 38
abbrev id_impl_distances_nearer : Nat := 39
abbrev id_spec_TreeIn : Nat := 40
abbrev id_spec_l6In : Nat := 41
abbrev id_spec_l1Up : Nat := 42
abbrev id_spec_l1Depths : Nat := 43
abbrev id_impl_node_add : Nat := 44
abbrev id_slices_IndexFunc_4168 : Nat := 45
abbrev id_impl_node_sort : Nat := 46
abbrev id_spec_l91Nodes : Nat := 47
abbrev id_spec_l6Rd_of : Nat := 48
abbrev id_internal_reflectlite_ValueOf : Nat := 49
abbrev id_internal_reflectlite_Value_Type : Nat := 50
abbrev id_internal_reflectlite_Value_IsNil : Nat := 51
abbrev id_errors_as : Nat := 52
abbrev id_slices_SortFunc_4168 : Nat := 53
abbrev id_impl_compareTexts : Nat := 54
abbrev id_spec_l3Tree : Nat := 55
abbrev id_internal_reflectlite_TypeOf : Nat := 56
abbrev id_internal_reflectlite_Value_Elem : Nat := 57
abbrev id_internal_reflectlite_Value_Set : Nat := 58
abbrev id_slices_pdqsortCmpFunc_beeb : Nat := 59
abbrev id_math_bits_Len : Nat := 60
abbrev id_strings_Compare : Nat := 61
abbrev id_slices_insertionSortCmpFunc_beeb : Nat := 62
abbrev id_slices_heapSortCmpFunc_beeb : Nat := 63
abbrev id_slices_breakPatternsCmpFunc_beeb : Nat := 64
abbrev id_slices_choosePivotCmpFunc_beeb : Nat := 65
abbrev id_slices_reverseRangeCmpFunc_beeb : Nat := 66
abbrev id_slices_partialInsertionSortCmpFunc_beeb : Nat := 67
abbrev id_slices_partitionEqualCmpFunc_beeb : Nat := 68
abbrev id_slices_partitionCmpFunc_beeb : Nat := 69
abbrev id_math_bits_Len32 : Nat := 70
abbrev id_math_bits_Len64 : Nat := 71
abbrev id_internal_bytealg_CompareString : Nat := 72
abbrev id_slices_siftDownCmpFunc_beeb : Nat := 73
abbrev id_slices_nextPowerOfTwo : Nat := 74
abbrev id_slices_xorshift_Next : Nat := 75
abbrev id_slices_medianAdjacentCmpFunc_beeb : Nat := 76
abbrev id_slices_medianCmpFunc_beeb : Nat := 77
abbrev id_internal_bytealg_abigen_runtime_cmpstring : Nat := 78
abbrev id_slices_order2CmpFunc_beeb : Nat := 79
abbrev id_runtime_boundsError_Error : Nat := 80
abbrev id_runtime_boundsError_RuntimeError : Nat := 81
abbrev id_runtime_errorString_Error : Nat := 82
abbrev id_runtime_errorString_RuntimeError : Nat := 83
abbrev id_runtime_plainError_Error : Nat := 84
abbrev id_runtime_plainError_RuntimeError : Nat := 85
abbrev id_runtime_errorAddressString_Error : Nat := 86
abbrev id_runtime_errorAddressString_RuntimeError : Nat := 87
abbrev id_runtime_TypeAssertionError_Error : Nat := 88
abbrev id_runtime_TypeAssertionError_RuntimeError : Nat := 89
abbrev id_runtime_PanicNilError_Error : Nat := 90
abbrev id_runtime_PanicNilError_RuntimeError : Nat := 91
abbrev id_internal_abi_Type_Align : Nat := 92
abbrev id_internal_abi_Type_Elem : Nat := 93
abbrev id_internal_abi_Type_Kind : Nat := 94
abbrev id_internal_runtime_maps_unhashableTypeError_Error : Nat := 95
abbrev id_internal_runtime_maps_unhashableTypeError_RuntimeError : Nat := 96
abbrev id_impl_noNode_Error : Nat := 97
abbrev id_internal_reflectlite_flag_mustBeAssignable : Nat := 98
abbrev id_internal_reflectlite_Value_Kind : Nat := 99
abbrev id_internal_abi_Kind_String : Nat := 100
abbrev id_internal_abi_Type_Size : Nat := 101
abbrev id_internal_reflectlite_rtype_AssignableTo : Nat := 102
abbrev id_internal_reflectlite_rtype_Comparable : Nat := 103
abbrev id_internal_reflectlite_rtype_Elem : Nat := 104
abbrev id_internal_reflectlite_rtype_Implements : Nat := 105
abbrev id_internal_reflectlite_rtype_Name : Nat := 106
abbrev id_internal_reflectlite_rtype_PkgPath : Nat := 107
abbrev id_internal_reflectlite_rtype_String : Nat := 108
abbrev id_internal_reflectlite_rtype_common : Nat := 109
abbrev id_internal_reflectlite_rtype_uncommon : Nat := 110
abbrev id_internal_reflectlite_ValueError_Error : Nat := 111
abbrev id_internal_abi_UncommonType_ExportedMethods : Nat := 112
abbrev id_var_s_door_errors_errorType_is_laid_by_its_own_call_of_reflectlite_TypeOf_on_a_nil_pointer_and_Elem_of_it_handle_1 : Nat := 113
abbrev id_var_s_door_gosem_cut_vars_holds_initialisers_alone_see_the_manifest_s_row_cutvarsword_look_11_test_files_too : Nat := 114
abbrev id_var_s_door_the_look_of_gosem_cut_vars_went_over_the_folder_that_the_caller_named_as_the_repository_s_root_look_11 : Nat := 115
abbrev id_gosem_cut_vars : Nat := 116
end Go.AI

namespace Go.AI
open Go Go.RowKit Go.AI
set_option linter.unusedVariables false
set_option linter.unusedSimpArgs false
set_option maxRecDepth 100000
noncomputable section
-- "loop.example/treenumbers/spec.l1End"
noncomputable def c_spec_l1End_j1 (F g : Nat) (kc1 : List AV → H → Option R) (vs : List AV) (h : H) : Option R := (fun x8 x9 x10 => aCmpI ieq x9 (AV.int 3 (Int.ofNat 0)) h fun x11 h => withBool x11 fun t12 => bc t12 (aArith iadd x10 (AV.int 3 (Int.ofNat 1)) h fun x13 h => some (x13, h)) (aCmpI ilt x9 (AV.int 3 (Int.ofNat 0)) h fun x14 h => withBool x14 fun t15 => bc t15 (some ((AV.int 3 (Int.negSucc 0)), h)) (aArith iadd x10 (AV.int 3 (Int.ofNat 1)) h fun x16 h => kc1 [x8, x9, x16] h))) (hd vs) (hd (tl vs)) (hd (tl (tl vs)))
noncomputable def c_spec_l1End_l2 (F g : Nat) : List AV → H → (List AV → H → Option R) → Option R := fun vs h kc1 => (fun x2 x3 x4 => aLenK 0 x2 h fun x5 h => aCmpI ilt x4 x5 h fun x6 h => withBool x6 fun t7 => bc t7 (aIdxStr x2 x4 h fun x17 h => aCmpI ieq x17 (AV.int 4 (Int.ofNat 40)) h fun x18 h => withBool x18 fun t19 => bc t19 (aArith iadd x3 (AV.int 3 (Int.ofNat 1)) h fun x20 h => (c_spec_l1End_j1 F g kc1) [x2, x20, x4] h) (aCmpI ieq x17 (AV.int 4 (Int.ofNat 41)) h fun x21 h => withBool x21 fun t22 => bc t22 (aArith isub x3 (AV.int 3 (Int.ofNat 1)) h fun x23 h => (c_spec_l1End_j1 F g kc1) [x2, x23, x4] h) (some ((AV.int 3 (Int.negSucc 0)), h)))) (some ((AV.int 3 (Int.negSucc 0)), h))) (hd vs) (hd (tl vs)) (hd (tl (tl vs)))
noncomputable def c_spec_l1End (F g : Nat) (a0 a1 : AV) (h : H) : Option R := loopD F (c_spec_l1End_l2 F g) [a0, (AV.int 3 (Int.ofNat 0)), a1] h
noncomputable def A_spec_l1End : An := (.two .o (.two .o (.two (.two .o (.two (.at_ [0, 5, 6] (.two (.two .o (.two .o .o)) (.two (.two (.at_ [0, 5, 6] (.two .o (.two (.two .o (.two .o (.two .o (.two .o (.two .o .o))))) .o)) (.two (.two .o (.two (.two .o .o) .o)) (.two .o (.two (.two .o .o) .o)))) .o) .o)) .o) .o)) (.two .o .o))))
noncomputable def b_spec_l1End : Code := bodyOf Go.Proofs.Tryd.f33
theorem k_spec_l1End (F g : Nat) (a0 a1 : AV) (h : H) : callD Go.Proofs.Tryd.prog (fun _ _ _ => none : Env) 31 F b_spec_l1End [4] A_spec_l1End [a0, a1] h = c_spec_l1End F g a0 a1 h := by kernel_rfl
theorem s_spec_l1End (F g : Nat) : ∀ args h r, u2 (c_spec_l1End F g) args h = some r → Tri Go.Proofs.Tryd.prog 33 args h r := by
  intro args h r e; obtain ⟨a0, a1, rfl, e1⟩ := u2_some e; exact fn_sound Go.Proofs.Tryd.func33 rfl rfl rfl Go.Proofs.Tryd.ntmps33 (Sound.none _) ((k_spec_l1End F g a0 a1 h).trans e1)

-- "loop.example/treenumbers/spec.TreeIn"
noncomputable def c_spec_TreeIn_j1 (F g : Nat) (vs : List AV) (h : H) : Option R := (fun x7 x8 => aPick x7 x8 (AV.bool false) h fun x9 h => some (x9, h)) (hd vs) (hd (tl vs))
noncomputable def c_spec_TreeIn_j2 (F g : Nat) (vs : List AV) (h : H) : Option R := (fun x3 x4 x5 => aPick x4 x5 (AV.bool false) h fun x6 h => guardB true x6 (bindR (c_spec_l1End F g x3 (AV.int 3 (Int.ofNat 0)) h) fun x10 h => aLenK 0 x3 h fun x11 h => aCmpI ieq x10 x11 h fun x12 h => (c_spec_TreeIn_j1 F g) [x6, x12] h) ((c_spec_TreeIn_j1 F g) [x6, (AV.one .tup (AV.leaf .nil))] h)) (hd vs) (hd (tl vs)) (hd (tl (tl vs)))
noncomputable def c_spec_TreeIn (F g : Nat) (a0 : AV) (h : H) : Option R := aLenK 0 a0 h fun x1 h => aCmpI (fun a b => ilt b a) x1 (AV.int 3 (Int.ofNat 0)) h fun x2 h => guardB true x2 (aLenK 0 a0 h fun x13 h => aCmpI ile x13 (AV.int 3 (Int.ofNat 18)) h fun x14 h => (c_spec_TreeIn_j2 F g) [a0, x2, x14] h) ((c_spec_TreeIn_j2 F g) [a0, x2, (AV.one .tup (AV.leaf .nil))] h)
noncomputable def A_spec_TreeIn : An := (.two .o (.two (.at_ [0, 6, 9] .o (.at_ [11, 16] .o .o)) .o))
noncomputable def b_spec_TreeIn : Code := bodyOf Go.Proofs.Tryd.f40
theorem k_spec_TreeIn (F g : Nat) (a0 : AV) (h : H) : callD Go.Proofs.Tryd.prog (Env.add (fun _ _ _ => none : Env) 33 (u2 (c_spec_l1End F g))) 18 F b_spec_TreeIn [2] A_spec_TreeIn [a0] h = c_spec_TreeIn F g a0 h := by kernel_rfl
theorem s_spec_TreeIn (F g : Nat) : ∀ args h r, u1 (c_spec_TreeIn F g) args h = some r → Tri Go.Proofs.Tryd.prog 40 args h r := by
  intro args h r e; obtain ⟨a0, rfl, e1⟩ := u1_some e; exact fn_sound Go.Proofs.Tryd.func40 rfl rfl rfl Go.Proofs.Tryd.ntmps40 (Sound.add (Sound.none _) (s_spec_l1End F g)) ((k_spec_TreeIn F g a0 h).trans e1)

-- "(*loop.example/treenumbers/impl.node).add"
noncomputable def c_impl_node_add (F g : Nat) (a0 a1 : AV) (h : H) : Option R := aBuild [(AV.int 3 (Int.ofNat 0)), (AV.leaf .nilp), (AV.leaf .nils)] [(0, 1, a1), (1, 1, a0)] h fun x1 h => aBox x1 h fun x2 h => aNilCheck a0 h fun x3 h => aField 2 x3 h fun x4 h => aLoad x4 h fun x5 h => aBuildSlice 1 1 [(0, 1, x2)] h fun x6 h => aAppend 1 8 x5 x6 h fun x7 h => aNilCheck a0 h fun x8 h => aField 2 x8 h fun x9 h => aStore x9 x7 h fun x10 h => some (x2, h)
noncomputable def A_impl_node_add : An := (.two .o (.two .o (.two .o (.two .o .o))))
noncomputable def b_impl_node_add : Code := bodyOf Go.Proofs.Tryd.f44
theorem k_impl_node_add (F g : Nat) (a0 a1 : AV) (h : H) : callD Go.Proofs.Tryd.prog (fun _ _ _ => none : Env) 21 F b_impl_node_add [4] A_impl_node_add [a0, a1] h = c_impl_node_add F g a0 a1 h := by kernel_rfl
theorem s_impl_node_add (F g : Nat) : ∀ args h r, u2 (c_impl_node_add F g) args h = some r → Tri Go.Proofs.Tryd.prog 44 args h r := by
  intro args h r e; obtain ⟨a0, a1, rfl, e1⟩ := u2_some e; exact fn_sound Go.Proofs.Tryd.func44 rfl rfl rfl Go.Proofs.Tryd.ntmps44 (Sound.none _) ((k_impl_node_add F g a0 a1 h).trans e1)

-- "loop.example/treenumbers/impl.readTree"
noncomputable def c_impl_readTree_j1 (F g : Nat) (vs : List AV) (h : H) : Option R := (fun x12 x13 x14 => aPick x13 (AV.bool true) x14 h fun x15 h => withBool x15 fun t16 => bc t16 (some (AV.one .tup (AV.cons (AV.leaf .nilp) (AV.cons (AV.bool false) (AV.leaf .nil))), h)) (some (AV.one .tup (AV.cons x12 (AV.cons (AV.bool true) (AV.leaf .nil))), h))) (hd vs) (hd (tl vs)) (hd (tl (tl vs)))
noncomputable def c_impl_readTree_j2 (F g : Nat) (vs : List AV) (h : H) : Option R := (fun x7 x8 x9 x10 => aPick x9 (AV.bool true) x10 h fun x11 h => guardB false x11 (aEq true 1 x8 (AV.leaf .nilp) h fun x17 h => (c_impl_readTree_j1 F g) [x7, x11, x17] h) ((c_impl_readTree_j1 F g) [x7, x11, (AV.one .tup (AV.leaf .nil))] h)) (hd vs) (hd (tl vs)) (hd (tl (tl vs))) (hd (tl (tl (tl vs))))
noncomputable def c_impl_readTree_j3 (F g : Nat) (vs : List AV) (h : H) : Option R := (fun x1 x2 x3 x4 => aLenK 0 x1 h fun x5 h => aCmpI ilt x4 x5 h fun x6 h => guardB false x6 (aEq false 1 x2 (AV.leaf .nilp) h fun x18 h => (c_impl_readTree_j2 F g) [x2, x3, x6, x18] h) ((c_impl_readTree_j2 F g) [x2, x3, x6, (AV.one .tup (AV.leaf .nil))] h)) (hd vs) (hd (tl vs)) (hd (tl (tl vs))) (hd (tl (tl (tl vs))))
noncomputable def c_impl_readTree_j4 (F g : Nat) (kc19 : List AV → H → Option R) (vs : List AV) (h : H) : Option R := (fun x28 x29 x30 x31 x32 => aArith iadd x32 (AV.int 3 (Int.ofNat 1)) h fun x33 h => kc19 [x28, x29, x30, x31, x33] h) (hd vs) (hd (tl vs)) (hd (tl (tl vs))) (hd (tl (tl (tl vs)))) (hd (tl (tl (tl (tl vs)))))
noncomputable def c_impl_readTree_j5 (F g : Nat) (kc19 : List AV → H → Option R) (vs : List AV) (h : H) : Option R := (fun x72 x73 x74 x75 x76 x77 x78 => aPick x77 x78 (AV.bool false) h fun x79 h => withBool x79 fun t80 => bc t80 (bindR (c_impl_node_add F g x74 x75 h) fun x81 h => aArith iadd x75 (AV.int 3 (Int.ofNat 1)) h fun x82 h => (c_impl_readTree_j4 F g kc19) [x72, x73, x81, x82, x76] h) ((c_impl_readTree_j3 F g) [x72, x73, x74, x76] h)) (hd vs) (hd (tl vs)) (hd (tl (tl vs))) (hd (tl (tl (tl vs)))) (hd (tl (tl (tl (tl vs))))) (hd (tl (tl (tl (tl (tl vs)))))) (hd (tl (tl (tl (tl (tl (tl vs)))))))
noncomputable def c_impl_readTree_j6 (F g : Nat) (kc19 : List AV → H → Option R) (vs : List AV) (h : H) : Option R := (fun x64 x65 x66 x67 x68 x69 x70 => aPick x69 x70 (AV.bool false) h fun x71 h => guardB true x71 (aCmpI ilt x67 (AV.int 3 (Int.ofNat 9)) h fun x83 h => (c_impl_readTree_j5 F g kc19) [x64, x65, x66, x67, x68, x71, x83] h) ((c_impl_readTree_j5 F g kc19) [x64, x65, x66, x67, x68, x71, (AV.one .tup (AV.leaf .nil))] h)) (hd vs) (hd (tl vs)) (hd (tl (tl vs))) (hd (tl (tl (tl vs)))) (hd (tl (tl (tl (tl vs))))) (hd (tl (tl (tl (tl (tl vs)))))) (hd (tl (tl (tl (tl (tl (tl vs)))))))
noncomputable def c_impl_readTree_j7 (F g : Nat) (kc19 : List AV → H → Option R) (vs : List AV) (h : H) : Option R := (fun x50 x51 x52 x53 x54 x55 x56 => aPick x55 x56 (AV.bool false) h fun x57 h => withBool x57 fun t58 => bc t58 (aBuild [(AV.int 3 (Int.ofNat 0)), (AV.leaf .nilp), (AV.leaf .nils)] [] h fun x59 h => aBox x59 h fun x60 h => aArith iadd x53 (AV.int 3 (Int.ofNat 1)) h fun x61 h => (c_impl_readTree_j4 F g kc19) [x50, x60, x60, x61, x54] h) (aIdxStr x50 x54 h fun x62 h => aCmpI ieq x62 (AV.int 4 (Int.ofNat 40)) h fun x63 h => guardB true x63 (aEq true 1 x52 (AV.leaf .nilp) h fun x84 h => (c_impl_readTree_j6 F g kc19) [x50, x51, x52, x53, x54, x63, x84] h) ((c_impl_readTree_j6 F g kc19) [x50, x51, x52, x53, x54, x63, (AV.one .tup (AV.leaf .nil))] h))) (hd vs) (hd (tl vs)) (hd (tl (tl vs))) (hd (tl (tl (tl vs)))) (hd (tl (tl (tl (tl vs))))) (hd (tl (tl (tl (tl (tl vs)))))) (hd (tl (tl (tl (tl (tl (tl vs)))))))
noncomputable def c_impl_readTree_j8 (F g : Nat) (kc19 : List AV → H → Option R) (vs : List AV) (h : H) : Option R := (fun x36 x37 x38 x39 x40 x41 x42 => aPick x41 x42 (AV.bool false) h fun x43 h => withBool x43 fun t44 => bc t44 (aNilCheck x38 h fun x45 h => aField 1 x45 h fun x46 h => aLoad x46 h fun x47 h => (c_impl_readTree_j4 F g kc19) [x36, x37, x47, x39, x40] h) (aIdxStr x36 x40 h fun x48 h => aCmpI ieq x48 (AV.int 4 (Int.ofNat 40)) h fun x49 h => guardB true x49 (aEq false 1 x37 (AV.leaf .nilp) h fun x85 h => (c_impl_readTree_j7 F g kc19) [x36, x37, x38, x39, x40, x49, x85] h) ((c_impl_readTree_j7 F g kc19) [x36, x37, x38, x39, x40, x49, (AV.one .tup (AV.leaf .nil))] h))) (hd vs) (hd (tl vs)) (hd (tl (tl vs))) (hd (tl (tl (tl vs)))) (hd (tl (tl (tl (tl vs))))) (hd (tl (tl (tl (tl (tl vs)))))) (hd (tl (tl (tl (tl (tl (tl vs)))))))
noncomputable def c_impl_readTree_l9 (F g : Nat) : List AV → H → (List AV → H → Option R) → Option R := fun vs h kc19 => (fun x20 x21 x22 x23 x24 => aLenK 0 x20 h fun x25 h => aCmpI ilt x24 x25 h fun x26 h => withBool x26 fun t27 => bc t27 (aIdxStr x20 x24 h fun x34 h => aCmpI ieq x34 (AV.int 4 (Int.ofNat 41)) h fun x35 h => guardB true x35 (aEq true 1 x22 (AV.leaf .nilp) h fun x86 h => (c_impl_readTree_j8 F g kc19) [x20, x21, x22, x23, x24, x35, x86] h) ((c_impl_readTree_j8 F g kc19) [x20, x21, x22, x23, x24, x35, (AV.one .tup (AV.leaf .nil))] h)) ((c_impl_readTree_j3 F g) [x20, x21, x22, x24] h)) (hd vs) (hd (tl vs)) (hd (tl (tl vs))) (hd (tl (tl (tl vs)))) (hd (tl (tl (tl (tl vs)))))
noncomputable def c_impl_readTree (F g : Nat) (a0 : AV) (h : H) : Option R := loopD F (c_impl_readTree_l9 F g) [a0, (AV.leaf .nilp), (AV.leaf .nilp), (AV.int 3 (Int.ofNat 0)), (AV.int 3 (Int.ofNat 0))] h
noncomputable def A_impl_readTree : An := (.two .o (.two (.two .o (.two .o (.two .o (.at_ [0, 4, 5, 7] (.two (.at_ [0, 4, 5, 6, 7] (.two (.two .o (.two .o .o)) (.two (.at_ [0, 4, 5, 6, 7] (.two (.two (.at_ [0, 4, 5, 6, 7, 17, 19] .o .o) (.two .o (.two (.at_ [0, 4, 5, 6, 7, 30, 32] .o .o) (.two (.two .o (.two .o .o)) (.two (.at_ [0, 4, 5, 6, 7, 44, 46] .o (.at_ [0, 4, 5, 6, 7, 48, 50] .o .o)) (.two (.two .o .o) .o)))))) .o) .o) .o)) .o) .o) (.two (.two (.at_ [4, 5, 63, 65] .o (.at_ [4, 67, 69] .o .o)) (.two (.two .o .o) .o)) (.two .o .o)))))) .o))
noncomputable def b_impl_readTree : Code := bodyOf Go.Proofs.Tryd.f27
theorem k_impl_readTree (F g : Nat) (a0 : AV) (h : H) : callD Go.Proofs.Tryd.prog (Env.add (fun _ _ _ => none : Env) 44 (u2 (c_impl_node_add F g))) 72 F b_impl_readTree [2, 3] A_impl_readTree [a0] h = c_impl_readTree F g a0 h := by kernel_rfl
theorem s_impl_readTree (F g : Nat) : ∀ args h r, u1 (c_impl_readTree F g) args h = some r → Tri Go.Proofs.Tryd.prog 27 args h r := by
  intro args h r e; obtain ⟨a0, rfl, e1⟩ := u1_some e; exact fn_sound Go.Proofs.Tryd.func27 rfl rfl rfl Go.Proofs.Tryd.ntmps27 (Sound.add (Sound.none _) (s_impl_node_add F g)) ((k_impl_readTree F g a0 h).trans e1)

-- "loop.example/treenumbers/spec.l6Open"
noncomputable def c_spec_l6Open_j1 (F g : Nat) (vs : List AV) (h : H) : Option R := (fun x1 => aBuild [(AV.leaf .nils), (AV.int 3 (Int.ofNat 0))] [(0, 1, x1)] h fun x2 h => aBox x2 h fun x3 h => some (x3, h)) (hd vs)
noncomputable def c_spec_l6Open (F g : Nat) (a0 : AV) (h : H) : Option R := aLenK 1 a0 h fun x4 h => aCmpI (fun a b => ilt b a) x4 (AV.int 3 (Int.ofNat 2000)) h fun x5 h => withBool x5 fun t6 => bc t6 (aSliceV 1 a0 none (some (AV.int 3 (Int.ofNat 2000))) none h fun x7 h => (c_spec_l6Open_j1 F g) [x7] h) ((c_spec_l6Open_j1 F g) [a0] h)
noncomputable def A_spec_l6Open : An := (.two .o (.at_ [0] (.two .o (.two .o .o)) (.two .o .o)))
noncomputable def b_spec_l6Open : Code := bodyOf Go.Proofs.Tryd.f35
theorem k_spec_l6Open (F g : Nat) (a0 : AV) (h : H) : callD Go.Proofs.Tryd.prog (fun _ _ _ => none : Env) 11 F b_spec_l6Open [2] A_spec_l6Open [a0] h = c_spec_l6Open F g a0 h := by kernel_rfl
theorem s_spec_l6Open (F g : Nat) : ∀ args h r, u1 (c_spec_l6Open F g) args h = some r → Tri Go.Proofs.Tryd.prog 35 args h r := by
  intro args h r e; obtain ⟨a0, rfl, e1⟩ := u1_some e; exact fn_sound Go.Proofs.Tryd.func35 rfl rfl rfl Go.Proofs.Tryd.ntmps35 (Sound.none _) ((k_spec_l6Open F g a0 h).trans e1)

-- "(*loop.example/treenumbers/spec.l6Rd).pick"
noncomputable def c_spec_l6Rd_pick_j1 (F g : Nat) (vs : List AV) (h : H) : Option R := (fun x67 x68 x69 x70 x71 => aArith iadd x70 x71 h fun x72 _ => aArith imul x69 (AV.int 3 (Int.ofNat 29)) h fun x73 _ => aArith iadd x72 x73 h fun x74 _ => aNilCheck x67 h fun x75 _ => aField 0 x75 h fun x76 _ => aLoad x76 h fun x77 _ => aLenK 1 x77 h fun x78 _ => aQuo x69 x78 h fun x79 _ => aArith imul x79 (AV.int 3 (Int.ofNat 53)) h fun x80 _ => aArith iadd x74 x80 h fun x81 _ => aQuo x81 (AV.int 3 (Int.ofNat 64)) h fun x82 h => aBits .xor x81 x82 h fun x83 h => aRem x83 x68 h fun x84 h => some (x84, h)) (hd vs) (hd (tl vs)) (hd (tl (tl vs))) (hd (tl (tl (tl vs)))) (hd (tl (tl (tl (tl vs)))))
noncomputable def c_spec_l6Rd_pick_j2 (F g : Nat) (vs : List AV) (h : H) : Option R := (fun x50 x51 x52 x53 x54 => aLoad x54 h fun x55 _ => aArith imul x52 (AV.int 3 (Int.ofNat 7)) h fun x56 _ => aArith iadd x56 (AV.int 3 (Int.ofNat 3)) h fun x57 _ => aNilCheck x50 h fun x58 _ => aField 0 x58 h fun x59 _ => aLoad x59 h fun x60 _ => aLenK 1 x60 h fun x61 _ => aRem x57 x61 h fun x62 _ => aIdxAddr 1 x55 x62 h fun x63 _ => aLoad x63 h fun x64 _ => aConvI 3 x64 h fun x65 _ => aArith imul x65 (AV.int 3 (Int.ofNat 1117)) h fun x66 _ => (c_spec_l6Rd_pick_j1 F g) [x50, x51, x52, x53, x66] h) (hd vs) (hd (tl vs)) (hd (tl (tl vs))) (hd (tl (tl (tl vs)))) (hd (tl (tl (tl (tl vs)))))
noncomputable def c_spec_l6Rd_pick_j3 (F g : Nat) (vs : List AV) (h : H) : Option R := (fun x35 x36 x37 x38 => aNilCheck x35 h fun x39 _ => aField 0 x39 h fun x40 _ => aLoad x40 h fun x41 _ => aLenK 1 x41 h fun x42 _ => aRem x37 x42 h fun x43 _ => aIdxAddr 1 x38 x43 h fun x44 _ => aLoad x44 h fun x45 _ => aConvI 3 x45 h fun x46 _ => aArith imul x46 (AV.int 3 (Int.ofNat 131)) h fun x47 _ => aNilCheck x35 h fun x48 _ => aField 0 x48 h fun x49 _ => (c_spec_l6Rd_pick_j2 F g) [x35, x36, x37, x47, x49] h) (hd vs) (hd (tl vs)) (hd (tl (tl vs))) (hd (tl (tl (tl vs))))
noncomputable def c_spec_l6Rd_pick_j4 (F g : Nat) (vs : List AV) (h : H) : Option R := (fun x9 x10 x11 x12 => aPick x11 (AV.bool true) x12 h fun x13 h => withBool x13 fun t14 => bc t14 (some ((AV.int 3 (Int.ofNat 0)), h)) (aNilCheck x9 h fun x15 h => aField 1 x15 h fun x16 h => aLoad x16 h fun x17 h => aArith isub x17 (AV.int 3 (Int.ofNat 1)) h fun x18 h => aNilCheck x9 h fun x19 h => aField 0 x19 h fun x20 h => aLoad x20 h fun x21 h => aLenK 1 x21 h fun x22 h => aCmpI ilt x18 x22 h fun x23 h => withBool x23 fun t24 => bc t24 (aNilCheck x9 h fun x25 h => aField 0 x25 h fun x26 h => aLoad x26 h fun x27 h => aIdxAddr 1 x27 x18 h fun x28 h => aLoad x28 h fun x29 h => aConvI 3 x29 h fun x30 h => aRem x30 x10 h fun x31 h => some (x31, h)) (aNilCheck x9 h fun x32 _ => aField 0 x32 h fun x33 _ => aLoad x33 h fun x34 _ => (c_spec_l6Rd_pick_j3 F g) [x9, x10, x18, x34] h))) (hd vs) (hd (tl vs)) (hd (tl (tl vs))) (hd (tl (tl (tl vs))))
noncomputable def c_spec_l6Rd_pick (F g : Nat) (a0 a1 : AV) (h : H) : Option R := aNilCheck a0 h fun x1 h => aField 1 x1 h fun x2 h => aLoad x2 h fun x3 h => aArith iadd x3 (AV.int 3 (Int.ofNat 1)) h fun x4 h => aNilCheck a0 h fun x5 h => aField 1 x5 h fun x6 h => aStore x6 x4 h fun x7 h => aCmpI ilt a1 (AV.int 3 (Int.ofNat 1)) h fun x8 h => guardB false x8 (aNilCheck a0 h fun x85 h => aField 0 x85 h fun x86 h => aLoad x86 h fun x87 h => aLenK 1 x87 h fun x88 h => aCmpI ieq x88 (AV.int 3 (Int.ofNat 0)) h fun x89 h => (c_spec_l6Rd_pick_j4 F g) [a0, a1, x8, x89] h) ((c_spec_l6Rd_pick_j4 F g) [a0, a1, x8, (AV.one .tup (AV.leaf .nil))] h)
noncomputable def A_spec_l6Rd_pick : An := (.two .o (.two .o (.two (.two (.at_ [0, 1, 17, 23] .o .o) (.two (.two .o .o) .o)) (.two .o (.two (.two .o (.two (.two .o .o) .o)) (.two (.skip (.skip (.skip (.skip (.cut [0, 1, 5, 50] (.skip (.skip (.skip (.skip (.skip (.skip (.skip (.skip (.skip (.skip (.skip (.skip (.skip (.cut [0, 1, 5, 61, 64] (.skip (.skip (.skip (.skip (.skip (.skip (.skip (.skip (.skip (.skip (.skip (.skip (.skip (.cut [0, 1, 5, 61, 78] .o))))))))))))))))))))))))))))))))) (.two .o (.two .o .o))))))))
noncomputable def b_spec_l6Rd_pick : Code := bodyOf Go.Proofs.Tryd.f37
theorem k_spec_l6Rd_pick (F g : Nat) (a0 a1 : AV) (h : H) : callD Go.Proofs.Tryd.prog (fun _ _ _ => none : Env) 99 F b_spec_l6Rd_pick [4] A_spec_l6Rd_pick [a0, a1] h = c_spec_l6Rd_pick F g a0 a1 h := by kernel_rfl
theorem s_spec_l6Rd_pick (F g : Nat) : ∀ args h r, u2 (c_spec_l6Rd_pick F g) args h = some r → Tri Go.Proofs.Tryd.prog 37 args h r := by
  intro args h r e; obtain ⟨a0, a1, rfl, e1⟩ := u2_some e; exact fn_sound Go.Proofs.Tryd.func37 rfl rfl rfl Go.Proofs.Tryd.ntmps37 (Sound.none _) ((k_spec_l6Rd_pick F g a0 a1 h).trans e1)

-- "loop.example/treenumbers/spec.l3Tree"
noncomputable def c_spec_l3Tree_l1 (F g : Nat) (kc1 : List AV → H → Option R) : List AV → H → (List AV → H → Option R) → Option R := fun vs h kc9 => (fun x10 x11 x12 x13 => aIdxAddr 1 x10 x13 h fun x14 h => aLoad x14 h fun x15 h => aCmpI (fun a b => ilt b a) x12 x15 h fun x16 h => withBool x16 fun t17 => bc t17 (aSAdd x11 (AV.str [41] 1) h fun x18 h => aArith isub x12 (AV.int 3 (Int.ofNat 1)) h fun x19 h => kc9 [x10, x18, x19, x13] h) (aSAdd x11 (AV.str [40] 1) h fun x20 h => aArith iadd x12 (AV.int 3 (Int.ofNat 1)) h fun x21 h => aArith iadd x13 (AV.int 3 (Int.ofNat 1)) h fun x22 h => kc1 [x10, x20, x21, x22] h)) (hd vs) (hd (tl vs)) (hd (tl (tl vs))) (hd (tl (tl (tl vs))))
noncomputable def c_spec_l3Tree_l2 (F g : Nat) : List AV → H → (List AV → H → Option R) → Option R := fun vs h kc23 => (fun x24 x25 => aCmpI (fun a b => ilt b a) x25 (AV.int 3 (Int.ofNat 0)) h fun x26 h => withBool x26 fun t27 => bc t27 (aSAdd x24 (AV.str [41] 1) h fun x28 h => aArith isub x25 (AV.int 3 (Int.ofNat 1)) h fun x29 h => kc23 [x28, x29] h) (some (x24, h))) (hd vs) (hd (tl vs))
noncomputable def c_spec_l3Tree_l3 (F g : Nat) : List AV → H → (List AV → H → Option R) → Option R := fun vs h kc1 => (fun x2 x3 x4 x5 => aLenK 1 x2 h fun x6 h => aCmpI ilt x5 x6 h fun x7 h => withBool x7 fun t8 => bc t8 (loopD F (c_spec_l3Tree_l1 F g kc1) [x2, x3, x4, x5] h) (loopD F (c_spec_l3Tree_l2 F g) [x3, x4] h)) (hd vs) (hd (tl vs)) (hd (tl (tl vs))) (hd (tl (tl (tl vs))))
noncomputable def c_spec_l3Tree (F g : Nat) (a0 : AV) (h : H) : Option R := loopD F (c_spec_l3Tree_l3 F g) [a0, (AV.str [] 0), (AV.int 3 (Int.ofNat 0)), (AV.int 3 (Int.ofNat 0))] h
noncomputable def A_spec_l3Tree : An := (.two .o (.two .o (.two .o (.two (.two .o (.two (.at_ [0, 3, 4, 5] (.two (.two .o (.two .o .o)) (.two (.two (.two (.two (.at_ [0, 3, 4, 5] (.two (.two .o (.two .o .o)) (.two (.two .o .o) .o)) .o) .o) (.two .o .o)) .o) .o)) .o) .o)) (.two (.two (.at_ [3, 4] (.two (.two .o (.two .o .o)) (.two (.two .o .o) .o)) .o) .o) (.two .o .o))))))
noncomputable def b_spec_l3Tree : Code := bodyOf Go.Proofs.Tryd.f55
theorem k_spec_l3Tree (F g : Nat) (a0 : AV) (h : H) : callD Go.Proofs.Tryd.prog (fun _ _ _ => none : Env) 33 F b_spec_l3Tree [2] A_spec_l3Tree [a0] h = c_spec_l3Tree F g a0 h := by kernel_rfl
theorem s_spec_l3Tree (F g : Nat) : ∀ args h r, u1 (c_spec_l3Tree F g) args h = some r → Tri Go.Proofs.Tryd.prog 55 args h r := by
  intro args h r e; obtain ⟨a0, rfl, e1⟩ := u1_some e; exact fn_sound Go.Proofs.Tryd.func55 rfl rfl rfl Go.Proofs.Tryd.ntmps55 (Sound.none _) ((k_spec_l3Tree F g a0 h).trans e1)

-- "loop.example/treenumbers/spec.l91Nodes"
noncomputable def c_spec_l91Nodes_j1 (F g : Nat) (kc3 : List AV → H → Option R) (vs : List AV) (h : H) : Option R := (fun x17 x18 x19 x20 x21 x22 => aBuildSlice 1 1 [(0, 1, x22)] h fun x23 h => aAppend 1 8 x19 x23 h fun x24 h => aArith iadd x21 (AV.int 3 (Int.ofNat 1)) h fun x25 h => kc3 [x17, x18, x24, x20, x25] h) (hd vs) (hd (tl vs)) (hd (tl (tl vs))) (hd (tl (tl (tl vs)))) (hd (tl (tl (tl (tl vs))))) (hd (tl (tl (tl (tl (tl vs))))))
noncomputable def c_spec_l91Nodes_l2 (F g : Nat) : List AV → H → (List AV → H → Option R) → Option R := fun vs h kc3 => (fun x4 x5 x6 x7 x8 => aCmpI ilt x8 x5 h fun x9 h => withBool x9 fun t10 => bc t10 (aArith isub x8 (AV.int 3 (Int.ofNat 1)) h fun x11 h => aIdxAddr 1 x6 x11 h fun x12 h => aLoad x12 h fun x13 h => aArith iadd x13 (AV.int 3 (Int.ofNat 1)) h fun x14 h => bindR (c_spec_l6Rd_pick F g x4 x14 h) fun x15 h => aArith iadd (AV.int 3 (Int.ofNat 1)) x15 h fun x16 h => aCmpI ieq x7 (AV.int 3 (Int.ofNat 1)) h fun x26 h => withBool x26 fun t27 => bc t27 ((fun W28 => bc (okW W28 h) (bc (okW W28 h) (aArith isub x8 (AV.int 3 (Int.ofNat 1)) h fun x29 _ => bc (okW W28 h) (aIdxAddr 1 x6 x29 h fun x30 _ => bc (okW W28 h) (aLoadW W28 x30 h fun x31 h => aArith iadd (AV.int 3 (Int.ofNat 1)) x31 h fun x32 _ => bc (okW W28 h) (bc (okW W28 h) (bc (okW W28 h) (bc (okW W28 h) (aArith isub x8 (AV.int 3 (Int.ofNat 1)) h fun x33 _ => bc (okW W28 h) (aIdxAddr 1 x6 x33 h fun x34 _ => bc (okW W28 h) (aLoadW W28 x34 h fun x35 h => aArith iadd x35 (AV.int 3 (Int.ofNat 1)) h fun x36 _ => bc (okW W28 h) (aMM false x36 (AV.int 3 (Int.ofNat 2)) h fun x37 _ => bc (okW W28 h) (bindR (c_spec_l6Rd_pick F g x4 x37 h) fun x38 h => bc (okW W28 h) (aArith isub x32 x38 h fun x39 _ => bc (okW W28 h) (bc (okW W28 h) ((c_spec_l91Nodes_j1 F g kc3) [x4, x5, x6, x7, x8, x39] h) none) none) none) none) none) none) none) none) none) none) none) none) none) none) none) (watch h [x6, x6])) ((c_spec_l91Nodes_j1 F g kc3) [x4, x5, x6, x7, x8, x16] h)) (bindR (c_spec_l3Tree F g x6 h) fun x40 h => some (x40, h))) (hd vs) (hd (tl vs)) (hd (tl (tl vs))) (hd (tl (tl (tl vs)))) (hd (tl (tl (tl (tl vs)))))
noncomputable def c_spec_l91Nodes (F g : Nat) (a0 a1 : AV) (h : H) : Option R := aBuildSlice 1 1 [(0, 1, (AV.int 3 (Int.ofNat 0)))] h fun x1 h => bindR (c_spec_l6Rd_pick F g a0 (AV.int 3 (Int.ofNat 3)) h) fun x2 h => loopD F (c_spec_l91Nodes_l2 F g) [a0, a1, x1, x2, (AV.int 3 (Int.ofNat 1))] h
noncomputable def A_spec_l91Nodes : An := (.two .o (.two .o (.two .o (.two (.two .o (.two (.at_ [0, 1, 5, 6, 7] (.two (.two .o (.two .o .o)) (.two (.two (.two .o (.at_ [0, 1, 5, 6, 7, 8] (.two .o (.two .o .o)) .o)) .o) .o)) .o) .o)) (.two .o .o)))))
noncomputable def b_spec_l91Nodes : Code := bodyOf Go.Proofs.Tryd.f47
theorem k_spec_l91Nodes (F g : Nat) (a0 a1 : AV) (h : H) : callD Go.Proofs.Tryd.prog (Env.add (Env.add (fun _ _ _ => none : Env) 37 (u2 (c_spec_l6Rd_pick F g))) 55 (u1 (c_spec_l3Tree F g))) 50 F b_spec_l91Nodes [4] A_spec_l91Nodes [a0, a1] h = c_spec_l91Nodes F g a0 a1 h := by kernel_rfl
theorem s_spec_l91Nodes (F g : Nat) : ∀ args h r, u2 (c_spec_l91Nodes F g) args h = some r → Tri Go.Proofs.Tryd.prog 47 args h r := by
  intro args h r e; obtain ⟨a0, a1, rfl, e1⟩ := u2_some e; exact fn_sound Go.Proofs.Tryd.func47 rfl rfl rfl Go.Proofs.Tryd.ntmps47 (Sound.add (Sound.add (Sound.none _) (s_spec_l6Rd_pick F g)) (s_spec_l3Tree F g)) ((k_spec_l91Nodes F g a0 a1 h).trans e1)

-- "(*loop.example/treenumbers/spec.l6Rd).of"
noncomputable def c_spec_l6Rd_of (F g : Nat) (a0 a1 : AV) (h : H) : Option R := aLenK 1 a1 h fun x1 h => bindR (c_spec_l6Rd_pick F g a0 x1 h) fun x2 h => aIdxAddr 1 a1 x2 h fun x3 h => aLoad x3 h fun x4 h => some (x4, h)
noncomputable def A_spec_l6Rd_of : An := (.two .o (.two .o .o))
noncomputable def b_spec_l6Rd_of : Code := bodyOf Go.Proofs.Tryd.f48
theorem k_spec_l6Rd_of (F g : Nat) (a0 a1 : AV) (h : H) : callD Go.Proofs.Tryd.prog (Env.add (fun _ _ _ => none : Env) 37 (u2 (c_spec_l6Rd_pick F g))) 12 F b_spec_l6Rd_of [4] A_spec_l6Rd_of [a0, a1] h = c_spec_l6Rd_of F g a0 a1 h := by kernel_rfl
theorem s_spec_l6Rd_of (F g : Nat) : ∀ args h r, u2 (c_spec_l6Rd_of F g) args h = some r → Tri Go.Proofs.Tryd.prog 48 args h r := by
  intro args h r e; obtain ⟨a0, a1, rfl, e1⟩ := u2_some e; exact fn_sound Go.Proofs.Tryd.func48 rfl rfl rfl Go.Proofs.Tryd.ntmps48 (Sound.add (Sound.none _) (s_spec_l6Rd_pick F g)) ((k_spec_l6Rd_of F g a0 a1 h).trans e1)

-- "loop.example/treenumbers/spec.l91Tree"
noncomputable def c_spec_l91Tree (F g : Nat) (a0 a1 : AV) (h : H) : Option R := bindR (c_spec_l6Rd_pick F g a0 a1 h) fun x1 h => aArith iadd (AV.int 3 (Int.ofNat 1)) x1 h fun x2 h => bindR (c_spec_l91Nodes F g a0 x2 h) fun x3 h => bindR (c_spec_l6Rd_pick F g a0 (AV.int 3 (Int.ofNat 40)) h) fun x4 h => aCmpI ieq x4 (AV.int 3 (Int.ofNat 0)) h fun x5 h => withBool x5 fun t6 => bc t6 (aBuildSlice 4 1 [(0, 1, (AV.str [40, 41] 2)), (1, 1, (AV.str [40] 1)), (2, 1, (AV.str [41] 1)), (3, 1, (AV.str [120] 1))] h fun x7 h => bindR (c_spec_l6Rd_of F g a0 x7 h) fun x8 h => aSAdd x3 x8 h fun x9 h => some (x9, h)) (some (x3, h))
noncomputable def A_spec_l91Tree : An := (.two .o (.two .o (.two (.two .o (.two (.two .o .o) .o)) (.two .o .o))))
noncomputable def b_spec_l91Tree : Code := bodyOf Go.Proofs.Tryd.f36
theorem k_spec_l91Tree (F g : Nat) (a0 a1 : AV) (h : H) : callD Go.Proofs.Tryd.prog (Env.add (Env.add (Env.add (fun _ _ _ => none : Env) 37 (u2 (c_spec_l6Rd_pick F g))) 47 (u2 (c_spec_l91Nodes F g))) 48 (u2 (c_spec_l6Rd_of F g))) 21 F b_spec_l91Tree [4] A_spec_l91Tree [a0, a1] h = c_spec_l91Tree F g a0 a1 h := by kernel_rfl
theorem s_spec_l91Tree (F g : Nat) : ∀ args h r, u2 (c_spec_l91Tree F g) args h = some r → Tri Go.Proofs.Tryd.prog 36 args h r := by
  intro args h r e; obtain ⟨a0, a1, rfl, e1⟩ := u2_some e; exact fn_sound Go.Proofs.Tryd.func36 rfl rfl rfl Go.Proofs.Tryd.ntmps36 (Sound.add (Sound.add (Sound.add (Sound.none _) (s_spec_l6Rd_pick F g)) (s_spec_l91Nodes F g)) (s_spec_l6Rd_of F g)) ((k_spec_l91Tree F g a0 a1 h).trans e1)

-- "loop.example/treenumbers/spec.l91Node"
noncomputable def C_spec_l91Node (F g : Nat) (q_spec_l6Open : AV → H → Option R) (q_spec_l91Tree : AV → AV → H → Option R) (q_spec_l6Rd_pick : AV → AV → H → Option R) (a0 : AV) (h : H) : Option R := bindR (q_spec_l6Open a0 h) fun x1 h => bindR (q_spec_l91Tree x1 (AV.int 3 (Int.ofNat 8)) h) fun x2 h => aLenK 0 x2 h fun x3 h => aQuo x3 (AV.int 3 (Int.ofNat 2)) h fun x4 h => bindR (q_spec_l6Rd_pick x1 (AV.int 3 (Int.ofNat 24)) h) fun x5 h => aQuo x5 (AV.int 3 (Int.ofNat 23)) h fun x6 h => aArith iadd x4 x6 h fun x7 h => bindR (q_spec_l6Rd_pick x1 x7 h) fun x8 h => bindR (q_spec_l6Rd_pick x1 (AV.int 3 (Int.ofNat 24)) h) fun x9 h => aQuo x9 (AV.int 3 (Int.ofNat 23)) h fun x10 h => aArith isub x8 x10 h fun x11 h => some (AV.one .tup (AV.cons x2 (AV.cons x11 (AV.leaf .nil))), h)
noncomputable def c_spec_l91Node (F g : Nat) (a0 : AV) (h : H) : Option R := C_spec_l91Node F g (c_spec_l6Open F g) (c_spec_l91Tree F g) (c_spec_l6Rd_pick F g) a0 h
noncomputable def A_spec_l91Node : An := (.two .o (.two .o (.two .o (.two .o .o))))
noncomputable def b_spec_l91Node : Code := bodyOf Go.Proofs.Tryd.f18
theorem K_spec_l91Node (F g : Nat) (q_spec_l6Open : AV → H → Option R) (q_spec_l91Tree : AV → AV → H → Option R) (q_spec_l6Rd_pick : AV → AV → H → Option R) (a0 : AV) (h : H) : callD Go.Proofs.Tryd.prog (Env.add (Env.add (Env.add (fun _ _ _ => none : Env) 35 (u1 q_spec_l6Open)) 36 (u2 q_spec_l91Tree)) 37 (u2 q_spec_l6Rd_pick)) 24 F b_spec_l91Node [2, 3] A_spec_l91Node [a0] h = C_spec_l91Node F g q_spec_l6Open q_spec_l91Tree q_spec_l6Rd_pick a0 h := by kernel_rfl
theorem k_spec_l91Node (F g : Nat) (a0 : AV) (h : H) : callD Go.Proofs.Tryd.prog (Env.add (Env.add (Env.add (fun _ _ _ => none : Env) 35 (u1 (c_spec_l6Open F g))) 36 (u2 (c_spec_l91Tree F g))) 37 (u2 (c_spec_l6Rd_pick F g))) 24 F b_spec_l91Node [2, 3] A_spec_l91Node [a0] h = c_spec_l91Node F g a0 h := K_spec_l91Node F g (c_spec_l6Open F g) (c_spec_l91Tree F g) (c_spec_l6Rd_pick F g) a0 h
theorem s_spec_l91Node (F g : Nat) : ∀ args h r, u1 (c_spec_l91Node F g) args h = some r → Tri Go.Proofs.Tryd.prog 18 args h r := by
  intro args h r e; obtain ⟨a0, rfl, e1⟩ := u1_some e; exact fn_sound Go.Proofs.Tryd.func18 rfl rfl rfl Go.Proofs.Tryd.ntmps18 (Sound.add (Sound.add (Sound.add (Sound.none _) (s_spec_l6Open F g)) (s_spec_l91Tree F g)) (s_spec_l6Rd_pick F g)) ((k_spec_l91Node F g a0 h).trans e1)

end
end Go.AI

namespace Go.AI
open Go Go.RowKit
noncomputable section
set_option linter.unusedVariables false
set_option linter.unusedSimpArgs false
set_option maxRecDepth 100000

/-- A node without its kids' cells. -/
def node3 (m : Int) (up K : AV) : Blk := .cells 0 [.int 3 m, up, K]

theorem add_nil {F g : Nat} {h : H} {b : Nat} {m z : Int} {up : AV} (hb : h.get b = node3 z up (.leaf .nils)) (hbn : b < h.n) :
    ∃ h4, c_impl_node_add F g (.ptr b 0) (.int 3 m) h = some (.ptr h.n 0, h4) ∧ h4.n = h.n + 3 ∧ h4.get h.n = node3 m (.ptr b 0) (.leaf .nils) ∧
      h4.get b = node3 z up (.osl (h.n + 2) 0 1 1) ∧ h4.get (h.n + 2) = .cells 0 [.ptr h.n 0] ∧ ∀ c, c < h.n → c ≠ b → h4.get c = h.get c := by
  have e1 : c_impl_node_add F g (.ptr b 0) (.int 3 m) h = (aLoad (.ptr b 2) (h.push (node3 m (.ptr b 0) (.leaf .nils))) fun x5 h1 => aBuildSlice 1 1 [(0, 1, .ptr h.n 0)] h1 fun x6 h2 =>
      aAppend 1 8 x5 x6 h2 fun x7 h3 => aStore (.ptr b 2) x7 h3 fun x10 h4 => some (.ptr h.n 0, h4)) := rfl
  rw [e1, load_at (by rw [get_push_lt hbn]; exact hb) rfl]
  generalize hh1 : h.push (node3 m (.ptr b 0) (.leaf .nils)) = h1
  have n1 : h1.n = h.n + 1 := by rw [← hh1]; rfl
  have e2 : ∀ k : AV → H → Option R, aBuildSlice 1 1 [(0, 1, .ptr h.n 0)] h1 k = k (.leaf (.sl h1.n 0 1 1)) (h1.push (.cells 0 [.ptr h.n 0])) := fun k => rfl
  rw [e2]
  generalize hh2 : h1.push (.cells 0 [.ptr h.n 0]) = h2
  have n2 : h2.n = h.n + 2 := by rw [← hh2]; show h1.n + 1 = _; omega
  have g2 : h2.get h1.n = .cells 0 [.ptr h.n 0] := by rw [← hh2]; exact get_push_eq rfl
  rw [app1_nil g2]
  generalize hh3 : h2.push (.cells 0 [.ptr h.n 0]) = h3
  have old : ∀ c, c < h.n → h3.get c = h.get c := fun c hc => by
    rw [← hh3, get_push_lt (by omega), ← hh2, get_push_lt (by omega), ← hh1, get_push_lt hc]
  rw [store_at (l := [.int 3 z, up, .leaf .nils]) (fl := 0) (by rw [old b hbn]; exact hb) (by omega) (by simp) rfl, n2]
  refine ⟨_, rfl, ?_, ?_, ?_, ?_, ?_⟩
  · show h3.n = _; rw [← hh3]; show h2.n + 1 = _; omega
  · rw [get_set_ne (by omega), ← hh3, get_push_lt (by omega), ← hh2, get_push_lt (by omega), ← hh1, get_push_eq rfl]
  · rw [get_set_eq]; rfl
  · rw [get_set_ne (by omega), ← hh3, get_push_eq (by omega)]
  · intro c hc hcb; rw [get_set_ne hcb, old c hc]

theorem add_osl {F g : Nat} {h : H} {b kb j : Nat} {m z : Int} {up : AV} {l : List AV} (hb : h.get b = node3 z up (.osl kb 0 j 1)) (hbn : b < h.n) (hk : h.get kb = .cells 0 l) (hkn : kb < h.n) (hkb : kb ≠ b) (hl : l.length = j) (hj : j < 1000) :
    ∃ h4, c_impl_node_add F g (.ptr b 0) (.int 3 m) h = some (.ptr h.n 0, h4) ∧ h4.n = h.n + 3 ∧ h4.get h.n = node3 m (.ptr b 0) (.leaf .nils) ∧
      h4.get b = node3 z up (.osl (h.n + 2) 0 (j + 1) 1) ∧ h4.get (h.n + 2) = .cells 0 (l ++ [.ptr h.n 0]) ∧ ∀ c, c < h.n → c ≠ b → c ≠ kb → h4.get c = h.get c := by
  have e1 : c_impl_node_add F g (.ptr b 0) (.int 3 m) h = (aLoad (.ptr b 2) (h.push (node3 m (.ptr b 0) (.leaf .nils))) fun x5 h1 => aBuildSlice 1 1 [(0, 1, .ptr h.n 0)] h1 fun x6 h2 =>
      aAppend 1 8 x5 x6 h2 fun x7 h3 => aStore (.ptr b 2) x7 h3 fun x10 h4 => some (.ptr h.n 0, h4)) := rfl
  rw [e1, load_at (by rw [get_push_lt hbn]; exact hb) rfl]
  generalize hh1 : h.push (node3 m (.ptr b 0) (.leaf .nils)) = h1
  have n1 : h1.n = h.n + 1 := by rw [← hh1]; rfl
  have e2 : ∀ k : AV → H → Option R, aBuildSlice 1 1 [(0, 1, .ptr h.n 0)] h1 k = k (.leaf (.sl h1.n 0 1 1)) (h1.push (.cells 0 [.ptr h.n 0])) := fun k => rfl
  rw [e2]
  generalize hh2 : h1.push (.cells 0 [.ptr h.n 0]) = h2
  have n2 : h2.n = h.n + 2 := by rw [← hh2]; show h1.n + 1 = _; omega
  have g2 : h2.get h1.n = .cells 0 [.ptr h.n 0] := by rw [← hh2]; exact get_push_eq rfl
  have g2k : h2.get kb = .cells 0 l := by rw [← hh2, get_push_lt (by omega), ← hh1, get_push_lt hkn]; exact hk
  rw [app1_osl g2 g2k hl hj (by omega) rfl]
  generalize hh3 : (h2.set kb .dead).push (.cells 0 (l ++ [.ptr h.n 0])) = h3
  have old : ∀ c, c < h.n → c ≠ kb → h3.get c = h.get c := fun c hc hck => by
    rw [← hh3, get_push_lt (by show c < h2.n; omega), get_set_ne hck, ← hh2, get_push_lt (by omega), ← hh1, get_push_lt hc]
  rw [store_at (l := [.int 3 z, up, .osl kb 0 j 1]) (fl := 0) (by rw [old b hbn (Ne.symm hkb)]; exact hb) (by omega) (by simp) rfl, n2]
  refine ⟨_, rfl, ?_, ?_, ?_, ?_, ?_⟩
  · show h3.n = _; rw [← hh3]; show h2.n + 1 = _; omega
  · rw [get_set_ne (by omega), ← hh3, get_push_lt (by show h.n < h2.n; omega), get_set_ne (by omega), ← hh2, get_push_lt (by omega), ← hh1, get_push_eq rfl]
  · rw [get_set_eq]; rfl
  · rw [get_set_ne (by omega), ← hh3, get_push_eq (by show _ = h2.n; omega)]
  · intro c hc hcb hck; rw [get_set_ne hcb, old c hc hck]

/-- The open nodes, from one up to the root: d of them; ks: their kids' blocks; M: no node has more kids. -/
def Chain (h : H) (M : Nat) : Nat → AV → Nat → List Nat → Prop
  | _, x, 0, ks => x = .leaf .nilp ∧ ks = []
  | B, x, d + 1, ks => ∃ b z up K ks', x = .ptr b 0 ∧ b < B ∧ b < h.n ∧ h.get b = node3 z up K ∧ Chain h M b up d ks' ∧
      ((K = .leaf .nils ∧ ks = ks') ∨ ∃ kb j l c o, K = .osl kb 0 j 1 ∧ h.get kb = .cells 0 (.ptr c o :: l) ∧ l.length + 1 = j ∧ j ≤ M ∧ kb < h.n ∧ kb ∉ ks' ∧ ks = kb :: ks')

theorem Chain.frame {h h' : H} {M M' : Nat} (hM : M ≤ M') (hn : h.n ≤ h'.n) : ∀ (d B : Nat) (x : AV) (ks : List Nat), Chain h M B x d ks → (∀ b z up K, b < B → b < h.n → h.get b = node3 z up K → h'.get b = h.get b) → (∀ k ∈ ks, k < h.n → h'.get k = h.get k) → Chain h' M' B x d ks
  | 0, B, x, ks, hc, _, _ => hc
  | d + 1, B, x, ks, ⟨b, z, up, K, ks', e1, e2, e3, e4, e5, e6⟩, hb, hk => by
    refine ⟨b, z, up, K, ks', e1, e2, by omega, by rw [hb b z up K e2 e3 e4]; exact e4, ?_, ?_⟩
    · refine Chain.frame hM hn d b up ks' e5 (fun b' z' up' K' h1 h2 h3 => hb b' z' up' K' (by omega) h2 h3) fun k hk' hkn => hk k ?_ hkn
      rcases e6 with ⟨_, rfl⟩ | ⟨kb, j, l, c, o, _, _, _, _, _, _, rfl⟩
      · exact hk'
      · exact List.mem_cons_of_mem _ hk'
    · rcases e6 with ⟨h1, h2⟩ | ⟨kb, j, l, c, o, h1, h2, h3, h4, h5, h6, h7⟩
      · exact .inl ⟨h1, h2⟩
      · exact .inr ⟨kb, j, l, c, o, h1, by rw [hk kb (by rw [h7]; exact List.mem_cons_self ..) h5]; exact h2, h3, by omega, by omega, h6, h7⟩

theorem Chain.kids {h : H} {M : Nat} : ∀ (d B : Nat) (x : AV) (ks : List Nat), Chain h M B x d ks → ∀ k ∈ ks, k < h.n ∧ ∃ c o l, h.get k = .cells 0 (.ptr c o :: l)
  | 0, B, x, ks, ⟨_, h2⟩, k, hk => by subst h2; cases hk
  | d + 1, B, x, ks, ⟨b, z, up, K, ks', e1, e2, e3, e4, e5, e6⟩, k, hk => by
    rcases e6 with ⟨_, rfl⟩ | ⟨kb, j, l, c, o, h1, h2, h3, h4, h5, h6, h7⟩
    · exact Chain.kids d b up _ e5 k hk
    · rw [h7] at hk
      rcases List.mem_cons.1 hk with rfl | hk
      · exact ⟨h5, c, o, l, h2⟩
      · exact Chain.kids d b up _ e5 k hk

/-- No node stands in a kids' block. -/
theorem node_ne {h : H} {b kb : Nat} {z : Int} {up K : AV} (h1 : h.get b = node3 z up K) (h2 : ∃ c o l, h.get kb = .cells 0 (.ptr c o :: l)) : kb ≠ b := fun e => by
  obtain ⟨c, o, l, h2⟩ := h2
  subst e; rw [h1] at h2; cases h2

/-- A child is added to the innermost open node. -/
theorem Chain.add {F g : Nat} {h : H} {M B d : Nat} {z : Int} {x : AV} {ks : List Nat} (hc : Chain h M B x (d + 1) ks) (hM : M < 900) : ∃ h4 ks4, c_impl_node_add F g x (.int 3 z) h = some (.ptr h.n 0, h4) ∧ Chain h4 (M + 1) h4.n (.ptr h.n 0) (d + 2) ks4 := by
  have hkids := Chain.kids _ _ _ _ hc
  obtain ⟨b, z0, up, K, ks', rfl, e2, e3, e4, e5, e6⟩ := hc
  have hkids' := Chain.kids _ _ _ _ e5
  rcases e6 with ⟨rfl, rfl⟩ | ⟨kb, j, l, c, o, rfl, h2, h3, h4, h5, h6, h7⟩
  · obtain ⟨h4, r1, r2, r3, r4, r5, r6⟩ := add_nil (F := F) (g := g) (m := z) e4 e3
    refine ⟨h4, (h.n + 2) :: ks, r1, h.n, z, .ptr b 0, .leaf .nils, (h.n + 2) :: ks, rfl, by omega, by omega, r3, ⟨b, z0, up, _, ks, rfl, e3, by omega, r4, ?_, .inr ⟨h.n + 2, 1, [], h.n, 0, rfl, r5, rfl, by omega, by omega, ?_, rfl⟩⟩, .inl ⟨rfl, rfl⟩⟩
    · exact Chain.frame (by omega) (by omega) d b up ks e5 (fun b' z' up' K' h1 h2 h3 => r6 b' h2 (by omega)) fun k hk hkn => r6 k hkn (node_ne e4 (hkids' k hk).2)
    · intro hin; have := (hkids' _ hin).1; omega
  · obtain ⟨h4', r1, r2, r3, r4, r5, r6⟩ := add_osl (F := F) (g := g) (m := z) e4 e3 h2 h5 (node_ne e4 ⟨c, o, l, h2⟩) h3 (by omega)
    refine ⟨h4', (h.n + 2) :: ks', r1, h.n, z, .ptr b 0, .leaf .nils, (h.n + 2) :: ks', rfl, by omega, by omega, r3, ⟨b, z0, up, _, ks', rfl, e3, by omega, r4, ?_, .inr ⟨h.n + 2, j + 1, l ++ [.ptr h.n 0], c, o, rfl, by rw [r5]; rfl, by simp [h3], by omega, by omega, ?_, rfl⟩⟩, .inl ⟨rfl, rfl⟩⟩
    · exact Chain.frame (by omega) (by omega) d b up ks' e5 (fun b' z' up' K' h1 h2' h3 => r6 b' h2' (by omega) (Ne.symm (node_ne h3 ⟨c, o, l, h2⟩))) fun k hk hkn => r6 k hkn (node_ne e4 (hkids' k hk).2) (fun e => h6 (e ▸ hk))
    · intro hin; have := (hkids' _ hin).1; omega

end
end Go.AI

namespace Go.AI
open Go Go.RowKit
noncomputable section
set_option linter.unusedVariables false
set_option linter.unusedSimpArgs false
set_option maxRecDepth 100000

def noTree : AV := .one .tup (.cons (.leaf .nilp) (.cons (.bool false) (.leaf .nil)))

/-- Behind the loop: where something is left, there is no root, or a node is open, it is no tree. -/
theorem j3_bad {F g : Nat} {h : H} {l : List Nat} {n i : Nat} {root x : AV} (hr : root = .leaf .nilp ∨ ∃ r, root = .ptr r 0) (hx : x = .leaf .nilp ∨ ∃ b, x = .ptr b 0)
    (hbad : i < n ∨ root = .leaf .nilp ∨ x ≠ .leaf .nilp) : c_impl_readTree_j3 F g [.str l n, root, x, .int 3 (.ofNat i)] h = some (noTree, h) := by
  simp only [c_impl_readTree_j3, c_impl_readTree_j2, c_impl_readTree_j1, hd_cons, tl_cons, aLenK_str, aCmpI_int, kEq_self, bc_true, ilt_nat]
  by_cases hi : i < n
  · rw [ble_true hi]; rcases hr with rfl | ⟨r, rfl⟩ <;> rcases hx with rfl | ⟨b, rfl⟩ <;> rfl
  · rw [ble_false (by omega)]
    rcases hr with rfl | ⟨r, rfl⟩
    · rcases hx with rfl | ⟨b, rfl⟩ <;> rfl
    · rcases hx with rfl | ⟨b, rfl⟩
      · simp [hi] at hbad
      · rfl

theorem body_end {F g : Nat} {h : H} {l : List Nat} {n i m : Nat} {root x : AV} {kc : List AV → H → Option R} (hi : n ≤ i) :
    c_impl_readTree_l9 F g [.str l n, root, x, .int 3 (.ofNat m), .int 3 (.ofNat i)] h kc = c_impl_readTree_j3 F g [.str l n, root, x, .int 3 (.ofNat i)] h := by
  simp only [c_impl_readTree_l9, hd_cons, tl_cons, aLenK_str, aCmpI_int, kEq_self, bc_true, ilt_nat, ble_false (show n < Nat.succ i by omega), withBool_bool, bc_false]

/-- A closing bracket. -/
theorem body_close {F g : Nat} {h : H} {l : List Nat} {n i m b : Nat} {root up K : AV} {z : Int} {kc : List AV → H → Option R} (hi : i < n) (hc : nthN l i = some 41) (hb : h.get b = node3 z up K) (hin : i + 1 ≤ 9223372036854775807) :
    c_impl_readTree_l9 F g [.str l n, root, .ptr b 0, .int 3 (.ofNat m), .int 3 (.ofNat i)] h kc = kc [.str l n, root, up, .int 3 (.ofNat m), .int 3 (.ofNat (i + 1))] h := by
  have e : ∀ k : AV → H → Option R, aLoad (.ptr b (Nat.add 0 1)) h k = k up h := fun k => load_at hb rfl
  have e2 : ieq (Int.ofNat 41) (Int.ofNat 41) = true := rfl
  simp only [c_impl_readTree_l9, c_impl_readTree_j8, c_impl_readTree_j4, hd_cons, tl_cons, aLenK_str, aCmpI_int, kEq_self, bc_true, ilt_nat, ble_true (show Nat.succ i ≤ n by omega), withBool_bool, aIdxStr_at, hc, onSome_some', e2, guardB_bool, aEq_pp, aPick_bool, aNilCheck_ptr, aField_ptr, e, aArith_int, fwrap_add i 1 hin]

/-- The first opening bracket. -/
theorem body_root {F g : Nat} {h : H} {l : List Nat} {n i m : Nat} {kc : List AV → H → Option R} (hi : i < n) (hc : nthN l i = some 40) (hin : i + 1 ≤ 9223372036854775807) (hm : m + 1 ≤ 9223372036854775807) :
    c_impl_readTree_l9 F g [.str l n, .leaf .nilp, .leaf .nilp, .int 3 (.ofNat m), .int 3 (.ofNat i)] h kc = kc [.str l n, .ptr h.n 0, .ptr h.n 0, .int 3 (.ofNat (m + 1)), .int 3 (.ofNat (i + 1))] (h.push (node3 (.ofNat 0) (.leaf .nilp) (.leaf .nils))) := by
  have e1 : ieq (Int.ofNat 40) (Int.ofNat 41) = false := rfl
  have e2 : ieq (Int.ofNat 40) (Int.ofNat 40) = true := rfl
  have e3 : ∀ k : AV → H → Option R, (aBuild [.int 3 (.ofNat 0), .leaf .nilp, .leaf .nils] [] h fun x59 h => aBox x59 h k) = k (.ptr h.n 0) (h.push (node3 (.ofNat 0) (.leaf .nilp) (.leaf .nils))) := fun k => rfl
  simp only [c_impl_readTree_l9, c_impl_readTree_j8, c_impl_readTree_j7, c_impl_readTree_j4, hd_cons, tl_cons, aLenK_str, aCmpI_int, kEq_self, bc_true, bc_false, ilt_nat, ble_true (show Nat.succ i ≤ n by omega), withBool_bool, aIdxStr_at, hc, onSome_some', e1, e2, guardB_bool, (show bnot true = false from rfl), aEq_en, aPick_bool, e3, aArith_int, fwrap_add i 1 hin, fwrap_add m 1 hm]

theorem body_add {F g : Nat} {h h' : H} {l : List Nat} {n i m b r c : Nat} {kc : List AV → H → Option R} (hi : i < n) (hc : nthN l i = some 40) (hm : m < 9) (hin : i + 1 ≤ 9223372036854775807)
    (ha : c_impl_node_add F g (.ptr b 0) (.int 3 (.ofNat m)) h = some (.ptr c 0, h')) :
    c_impl_readTree_l9 F g [.str l n, .ptr r 0, .ptr b 0, .int 3 (.ofNat m), .int 3 (.ofNat i)] h kc = kc [.str l n, .ptr r 0, .ptr c 0, .int 3 (.ofNat (m + 1)), .int 3 (.ofNat (i + 1))] h' := by
  have e1 : ieq (Int.ofNat 40) (Int.ofNat 41) = false := rfl
  have e2 : ieq (Int.ofNat 40) (Int.ofNat 40) = true := rfl
  simp only [c_impl_readTree_l9, c_impl_readTree_j8, c_impl_readTree_j7, c_impl_readTree_j6, c_impl_readTree_j5, c_impl_readTree_j4, hd_cons, tl_cons, aLenK_str, aCmpI_int, kEq_self, bc_true, bc_false, ilt_nat, ble_true (show Nat.succ i ≤ n by omega), withBool_bool, aIdxStr_at, hc, onSome_some', e1, e2, guardB_bool, (show bnot true = false from rfl), aEq_pp, aEq_ep, aPick_bool,
    ble_true (show Nat.succ m ≤ 9 by omega), ha, bindR_some', aArith_int, fwrap_add i 1 hin, fwrap_add m 1 (show m + 1 ≤ 9223372036854775807 by omega)]

/-- A byte that has no place. -/
theorem body_bad {F g : Nat} {h : H} {l : List Nat} {n i m c : Nat} {root x : AV} {kc : List AV → H → Option R} (hi : i < n) (hc : nthN l i = some c)
    (hbad : (root = .leaf .nilp ∧ x = .leaf .nilp ∧ c ≠ 40) ∨ (∃ r, root = .ptr r 0 ∧ x = .leaf .nilp) ∨ (∃ r b, root = .ptr r 0 ∧ x = .ptr b 0 ∧ c ≠ 41 ∧ (c ≠ 40 ∨ 9 ≤ m))) :
    c_impl_readTree_l9 F g [.str l n, root, x, .int 3 (.ofNat m), .int 3 (.ofNat i)] h kc = c_impl_readTree_j3 F g [.str l n, root, x, .int 3 (.ofNat i)] h := by
  simp only [c_impl_readTree_l9, c_impl_readTree_j8, c_impl_readTree_j7, c_impl_readTree_j6, c_impl_readTree_j5, c_impl_readTree_j4, hd_cons, tl_cons, aLenK_str, aCmpI_int, kEq_self, bc_true, bc_false, ilt_nat, ble_true (show Nat.succ i ≤ n by omega), withBool_bool, aIdxStr_at, hc, onSome_some', ieq_nat]
  rcases hbad with ⟨rfl, rfl, h40⟩ | ⟨r, rfl, rfl⟩ | ⟨r, b, rfl, rfl, h41, h40⟩
  · have e40 : Nat.beq c 40 = false := by rw [beq_decide, decide_eq_false_iff_not]; exact h40
    simp only [e40]
    cases Nat.beq c 41 <;> rfl
  · cases Nat.beq c 41 <;> cases Nat.beq c 40 <;> rfl
  · have e41 : Nat.beq c 41 = false := by rw [beq_decide, decide_eq_false_iff_not]; exact h41
    simp only [e41]
    by_cases hc40 : c = 40
    · subst hc40
      have hm : 9 ≤ m := h40.elim (fun h => absurd rfl h) id
      have e9 : Nat.ble (Nat.succ m) 9 = false := ble_false (by omega)
      have e40 : Nat.beq 40 40 = true := rfl
      simp only [e40, guardB_bool, guardB_tup, aPick_bool, aEq_ep, aEq_pp, bc_true, bc_false, bnot, withBool_bool, e9]
    · have e40 : Nat.beq c 40 = false := by rw [beq_decide, decide_eq_false_iff_not]; exact hc40
      simp only [e40]; rfl

theorem drop_nth : ∀ (l : List Nat) (i c : Nat) (r : List Nat), l.drop i = c :: r → nthN l i = some c ∧ l.drop (i + 1) = r ∧ i < l.length
  | [], i, c, r, h => by simp at h
  | a :: l, 0, c, r, h => by simp at h; obtain ⟨rfl, rfl⟩ := h; exact ⟨rfl, rfl, by simp⟩
  | a :: l, i + 1, c, r, h => by
    obtain ⟨h1, h2, h3⟩ := drop_nth l i c r (by simpa using h)
    exact ⟨h1, by simpa using h2, by simp; omega⟩

/-- Where the rest makes no tree, the loop ends with none. -/
theorem loop_bad {F g : Nat} (l : List Nat) (n : Nat) (hn : l.length = n) (hmax : n < 9223372036854775807) : ∀ (rest : List Nat) (N i d m r B : Nat) (x : AV) (ks : List Nat) (h : H), l.drop i = rest → i + rest.length = n → rest.length < N → Chain h m B x d ks → 
    m ≤ 9 → scan rest d m = false → ∃ h', loopD N (c_impl_readTree_l9 F g) [.str l n, .ptr r 0, x, .int 3 (.ofNat m), .int 3 (.ofNat i)] h = some (noTree, h')
  | rest, 0, i, d, m, r, B, x, ks, h, _, _, hN, _, _, _ => absurd hN (by omega)
  | [], N + 1, i, d, m, r, B, x, ks, h, hd, hl, hN, hc, hm, hs => by
    rw [loopD_succ, body_end (by simp at hl; omega)]
    cases d with
    | zero => cases hs
    | succ d =>
      obtain ⟨b, z, up, K, ks', rfl, _⟩ := hc
      exact ⟨h, j3_bad (.inr ⟨r, rfl⟩) (.inr ⟨b, rfl⟩) (.inr (.inr (by simp)))⟩
  | c :: rest, N + 1, i, d, m, r, B, x, ks, h, hd, hl, hN, hc, hm, hs => by
    obtain ⟨h1, h2, h3⟩ := drop_nth l i c rest hd
    rw [hn] at h3
    simp only [List.length_cons] at hl hN
    rw [loopD_succ]
    cases d with
    | zero =>
      obtain ⟨rfl, _⟩ := hc
      rw [body_bad h3 h1 (.inr (.inl ⟨r, rfl, rfl⟩))]
      exact ⟨h, j3_bad (.inr ⟨r, rfl⟩) (.inl rfl) (.inl h3)⟩
    | succ d =>
      have hc0 := hc
      obtain ⟨b, z, up, K, ks', rfl, hb1, hb2, hb3, hb4, _⟩ := hc
      simp only [scan] at hs
      by_cases h41 : c = 41
      · subst h41
        have hs : scan rest d m = false := hs
        rw [body_close h3 h1 hb3 (by omega)]
        exact loop_bad l n hn hmax rest N (i + 1) d m r b up ks' h h2 (by omega) (by omega) hb4 hm hs
      · have e41 : Nat.beq c 41 = false := by rw [beq_decide, decide_eq_false_iff_not]; exact h41
        rw [e41, bc_false] at hs
        by_cases h40 : c = 40
        · subst h40
          by_cases h9 : m < 9
          · have hs : bc (Nat.ble (m + 1) 9) (scan rest (d + 2) (m + 1)) false = false := hs
            rw [ble_true (by omega), bc_true] at hs
            obtain ⟨h4, ks4, ha, hc4⟩ := Chain.add (F := F) (g := g) (z := .ofNat m) hc0 (by omega)
            rw [body_add h3 h1 h9 (by omega) ha]
            exact loop_bad l n hn hmax rest N (i + 1) (d + 2) (m + 1) r h4.n _ ks4 h4 h2 (by omega) (by omega) hc4 (by omega) hs
          · rw [body_bad h3 h1 (.inr (.inr ⟨r, b, rfl, rfl, h41, .inr (by omega)⟩))]
            exact ⟨h, j3_bad (.inr ⟨r, rfl⟩) (.inr ⟨b, rfl⟩) (.inl h3)⟩
        · rw [body_bad h3 h1 (.inr (.inr ⟨r, b, rfl, rfl, h41, .inl h40⟩))]
          exact ⟨h, j3_bad (.inr ⟨r, rfl⟩) (.inr ⟨b, rfl⟩) (.inl h3)⟩

/-- A text that is no tree is read as none. -/
theorem read_bad {F g : Nat} (l : List Nat) (n : Nat) (hn : l.length = n) (hmax : n < F) (hF : F < 9223372036854775807) (ht : isTree l = false) (h : H) : ∃ h', c_impl_readTree F g (.str l n) h = some (noTree, h') := by
  obtain ⟨N, rfl⟩ : ∃ N, F = N + 1 := ⟨F - 1, by omega⟩
  show ∃ h', loopD (N + 1) (c_impl_readTree_l9 (N + 1) g) [.str l n, .leaf .nilp, .leaf .nilp, .int 3 (.ofNat 0), .int 3 (.ofNat 0)] h = some (noTree, h')
  rw [loopD_succ]
  cases l with
  | nil =>
    subst hn
    rw [body_end (by simp)]
    exact ⟨h, j3_bad (.inl rfl) (.inl rfl) (.inr (.inl rfl))⟩
  | cons c r =>
    have h0 : 0 < n := by rw [← hn]; simp
    by_cases h40 : c = 40
    · subst h40
      have ht : scan r 1 1 = false := ht
      rw [body_root h0 rfl (by omega) (by omega)]
      refine loop_bad (40 :: r) n hn (by omega) r N 1 1 1 h.n (h.n + 1) (.ptr h.n 0) [] _ rfl (by simp at hn; omega) (by simp at hn; omega) ⟨h.n, .ofNat 0, .leaf .nilp, .leaf .nils, [], rfl, by omega, ?_, get_push_eq rfl, ⟨rfl, rfl⟩, .inl ⟨rfl, rfl⟩⟩ (by omega) ht
      show h.n < h.n + 1; omega
    · rw [body_bad h0 rfl (.inl ⟨rfl, rfl, h40⟩)]
      exact ⟨h, j3_bad (.inl rfl) (.inl rfl) (.inl h0)⟩
end
end Go.AI

namespace Go.AI
open Go Go.RowKit
noncomputable section
set_option linter.unusedVariables false
set_option linter.unusedSimpArgs false
set_option maxRecDepth 100000

/-- Where the brackets close, d being open. -/
def endAt : List Nat → Nat → Nat → Option Nat
  | [], d, i => none
  | c :: r, 0, i => if c = 40 then endAt r 1 (i + 1) else none
  | c :: r, d + 1, i => if c = 40 then endAt r (d + 2) (i + 1) else if c = 41 then (match d with | 0 => some (i + 1) | d + 1 => endAt r (d + 1) (i + 1)) else none

def endI : Option Nat → Int
  | some e => .ofNat e
  | none => .negSucc 0

theorem fwrap_sub (a : Nat) (h : a ≤ 9223372036854775807) : fwrap 3 (isub (.ofNat (a + 1)) (.ofNat 1)) = .ofNat a := by
  rw [isub_eq, fwrap_eq, kd3]
  show IntKind.i64.wrap (((a + 1 : Nat) : Int) - (1 : Int)) = (a : Int)
  rw [wrap_i64 _ (by omega) (by omega)]; omega
theorem fwrap_sub0 : fwrap 3 (isub (.ofNat 0) (.ofNat 1)) = .negSucc 0 := rfl

section
variable {F g : Nat} {h : H} {l : List Nat} {n i d c : Nat} {kc : List AV → H → Option R}
theorem e_end (hi : n ≤ i) : c_spec_l1End_l2 F g [.str l n, .int 3 (.ofNat d), .int 3 (.ofNat i)] h kc = some (.int 3 (.negSucc 0), h) := by
  simp only [c_spec_l1End_l2, hd_cons, tl_cons, aLenK_str, aCmpI_int, kEq_self, bc_true, bc_false, ilt_nat, ble_false (show n < Nat.succ i by omega), withBool_bool]

theorem e_open (hi : i < n) (hc : nthN l i = some 40) (hd : d + 1 ≤ 9223372036854775807) (hin : i + 1 ≤ 9223372036854775807) : c_spec_l1End_l2 F g [.str l n, .int 3 (.ofNat d), .int 3 (.ofNat i)] h kc = kc [.str l n, .int 3 (.ofNat (d + 1)), .int 3 (.ofNat (i + 1))] h := by
  have e2 : ieq (Int.ofNat 40) (Int.ofNat 40) = true := rfl
  have e3 : ieq (Int.ofNat (d + 1)) (Int.ofNat 0) = false := rfl
  have e4 : ilt (Int.ofNat (d + 1)) (Int.ofNat 0) = false := rfl
  simp only [c_spec_l1End_l2, c_spec_l1End_j1, hd_cons, tl_cons, aLenK_str, aCmpI_int, kEq_self, bc_true, bc_false, ilt_nat, ble_true (show Nat.succ i ≤ n by omega), withBool_bool, aIdxStr_at, hc, onSome_some', e2, aArith_int, fwrap_add d 1 hd, fwrap_add i 1 hin, e3]
  rfl

theorem e_other (hi : i < n) (hc : nthN l i = some c) (h40 : c ≠ 40) (h41 : c ≠ 41) : c_spec_l1End_l2 F g [.str l n, .int 3 (.ofNat d), .int 3 (.ofNat i)] h kc = some (.int 3 (.negSucc 0), h) := by
  have e40 : Nat.beq c 40 = false := by rw [beq_decide, decide_eq_false_iff_not]; exact h40
  have e41 : Nat.beq c 41 = false := by rw [beq_decide, decide_eq_false_iff_not]; exact h41
  simp only [c_spec_l1End_l2, c_spec_l1End_j1, hd_cons, tl_cons, aLenK_str, aCmpI_int, kEq_self, bc_true, bc_false, ilt_nat, ble_true (show Nat.succ i ≤ n by omega), withBool_bool, aIdxStr_at, hc, onSome_some', ieq_nat, e40, e41]

theorem e_close0 (hi : i < n) (hc : nthN l i = some 41) : c_spec_l1End_l2 F g [.str l n, .int 3 (.ofNat 0), .int 3 (.ofNat i)] h kc = some (.int 3 (.negSucc 0), h) := by
  have e2 : ieq (Int.ofNat 41) (Int.ofNat 40) = false := rfl
  have e3 : ieq (Int.ofNat 41) (Int.ofNat 41) = true := rfl
  have e4 : ieq (Int.negSucc 0) (Int.ofNat 0) = false := rfl
  have e5 : ilt (Int.negSucc 0) (Int.ofNat 0) = true := rfl
  simp only [c_spec_l1End_l2, c_spec_l1End_j1, hd_cons, tl_cons, aLenK_str, aCmpI_int, kEq_self, bc_true, bc_false, ilt_nat, ble_true (show Nat.succ i ≤ n by omega), withBool_bool, aIdxStr_at, hc, onSome_some', e2, e3, aArith_int, fwrap_sub0, e4, e5]

theorem e_close1 (hi : i < n) (hc : nthN l i = some 41) (hin : i + 1 ≤ 9223372036854775807) : c_spec_l1End_l2 F g [.str l n, .int 3 (.ofNat 1), .int 3 (.ofNat i)] h kc = some (.int 3 (.ofNat (i + 1)), h) := by
  have e2 : ieq (Int.ofNat 41) (Int.ofNat 40) = false := rfl
  have e3 : ieq (Int.ofNat 41) (Int.ofNat 41) = true := rfl
  have e4 : ieq (Int.ofNat 0) (Int.ofNat 0) = true := rfl
  simp only [c_spec_l1End_l2, c_spec_l1End_j1, hd_cons, tl_cons, aLenK_str, aCmpI_int, kEq_self, bc_true, bc_false, ilt_nat, ble_true (show Nat.succ i ≤ n by omega), withBool_bool, aIdxStr_at, hc, onSome_some', e2, e3, aArith_int, fwrap_sub 0 (by omega), e4, fwrap_add i 1 hin]

theorem e_close2 (hi : i < n) (hc : nthN l i = some 41) (hin : i + 1 ≤ 9223372036854775807) (hd : d + 1 ≤ 9223372036854775807) : c_spec_l1End_l2 F g [.str l n, .int 3 (.ofNat (d + 2)), .int 3 (.ofNat i)] h kc = kc [.str l n, .int 3 (.ofNat (d + 1)), .int 3 (.ofNat (i + 1))] h := by
  have e2 : ieq (Int.ofNat 41) (Int.ofNat 40) = false := rfl
  have e3 : ieq (Int.ofNat 41) (Int.ofNat 41) = true := rfl
  have e4 : ieq (Int.ofNat (d + 1)) (Int.ofNat 0) = false := rfl
  simp only [c_spec_l1End_l2, c_spec_l1End_j1, hd_cons, tl_cons, aLenK_str, aCmpI_int, kEq_self, bc_true, bc_false, ilt_nat, ble_true (show Nat.succ i ≤ n by omega), withBool_bool, aIdxStr_at, hc, onSome_some', e2, e3, aArith_int, fwrap_sub (d + 1) hd, e4, fwrap_add i 1 hin]
  rfl
end

theorem loop_end {F g : Nat} (l : List Nat) (n : Nat) (hn : l.length = n) (hmax : n < 4611686018427387904) (h : H) : ∀ (rest : List Nat) (N i d : Nat), l.drop i = rest → i + rest.length = n → rest.length < N → d ≤ i →
    loopD N (c_spec_l1End_l2 F g) [.str l n, .int 3 (.ofNat d), .int 3 (.ofNat i)] h = some (.int 3 (endI (endAt rest d i)), h)
  | rest, 0, i, d, _, _, hN, _ => absurd hN (by omega)
  | [], N + 1, i, d, hd, hl, hN, hdi => by
    rw [loopD_succ, e_end (by simp at hl; omega)]; rfl
  | c :: rest, N + 1, i, d, hd, hl, hN, hdi => by
    obtain ⟨h1, h2, h3⟩ := drop_nth l i c rest hd
    rw [hn] at h3
    simp only [List.length_cons] at hl hN
    rw [loopD_succ]
    by_cases h40 : c = 40
    · subst h40
      rw [e_open h3 h1 (by omega) (by omega), loop_end l n hn hmax h rest N (i + 1) (d + 1) h2 (by omega) (by omega) (by omega)]
      cases d <;> rfl
    · by_cases h41 : c = 41
      · subst h41
        cases d with
        | zero => rw [e_close0 h3 h1]; rfl
        | succ d =>
          cases d with
          | zero => rw [e_close1 h3 h1 (by omega)]; rfl
          | succ d =>
            rw [e_close2 h3 h1 (by omega) (by omega), loop_end l n hn hmax h rest N (i + 1) (d + 1) h2 (by omega) (by omega) (by omega)]; rfl
      · rw [e_other h3 h1 h40 h41]
        cases d <;> simp [endAt, h40, h41] <;> rfl

theorem endAt_len : ∀ (r : List Nat) (d i e : Nat), endAt r d i = some e → d ≤ r.length ∧ i < e ∧ e ≤ i + r.length
  | [], d, i, e, h => by cases h
  | c :: r, 0, i, e, h => by
    simp only [endAt] at h
    split at h
    · have := endAt_len r 1 (i + 1) e h; simp only [List.length_cons]; omega
    · cases h
  | c :: r, d + 1, i, e, h => by
    simp only [endAt] at h
    split at h
    · have := endAt_len r (d + 2) (i + 1) e h; simp only [List.length_cons]; omega
    · split at h
      · cases d with
        | zero => cases h; simp only [List.length_cons]; omega
        | succ d => have := endAt_len r (d + 1) (i + 1) e h; simp only [List.length_cons]; omega
      · cases h

theorem endAt_scan : ∀ (r : List Nat) (d m i : Nat), endAt r (d + 1) i = some (i + r.length) → r.length + 2 * m ≤ 18 + (d + 1) → scan r (d + 1) m = true
  | [], d, m, i, h, hl => by cases h
  | c :: r, d, m, i, h, hl => by
    simp only [List.length_cons] at h hl
    simp only [endAt] at h
    simp only [scan]
    split at h
    · rename_i h40
      subst h40
      have hlen := endAt_len r (d + 2) (i + 1) _ h
      have h9 : m + 1 ≤ 9 := by omega
      have e : Nat.beq 40 41 = false := rfl
      have e' : Nat.beq 40 40 = true := rfl
      rw [e, e', ble_true h9]
      exact endAt_scan r (d + 1) (m + 1) (i + 1) (by rw [h]; congr 1; omega) (by omega)
    · split at h
      · rename_i h40 h41
        subst h41
        have e : Nat.beq 41 41 = true := rfl
        rw [e, bc_true]
        cases d with
        | zero =>
          have : r = [] := by
            cases r with
            | nil => rfl
            | cons a r => simp at h
          subst this; rfl
        | succ d =>
          have h : endAt r (d + 1) (i + 1) = some (i + (r.length + 1)) := h
          exact endAt_scan r d m (i + 1) (by rw [h]; congr 1; omega) (by omega)
      · cases h

theorem endAt_tree (l : List Nat) (hl : l.length ≤ 18) (h : endAt l 0 0 = some l.length) : isTree l = true := by
  cases l with
  | nil => cases h
  | cons c r =>
    simp only [endAt] at h
    split at h
    · rename_i h40
      subst h40
      simp only [List.length_cons] at h hl
      exact endAt_scan r 0 1 1 (by rw [h]; congr 1; omega) (by omega)
    · cases h

/-- The specification's TreeIn at what is no tree. -/
theorem spec_bad {F g : Nat} (l : List Nat) (n : Nat) (hn : l.length = n) (hF : 20 < F) (ht : isTree l = false) (h : H) : c_spec_TreeIn F g (.str l n) h = some (.bool false, h) := by
  have e0 : ∀ k : AV → H → Option R, bindR (c_spec_l1End F g (.str l n) (.int 3 (.ofNat 0)) h) k = bindR (loopD F (c_spec_l1End_l2 F g) [.str l n, .int 3 (.ofNat 0), .int 3 (.ofNat 0)] h) k := fun k => rfl
  by_cases h0 : n = 0
  · subst h0; simp only [c_spec_TreeIn, c_spec_TreeIn_j1, c_spec_TreeIn_j2, hd_cons, tl_cons, aLenK_str, aCmpI_int, kEq_self, bc_true, bc_false, ilt_nat, ile_nat, withBool_bool, guardB_bool, guardB_tup, aPick_bool]; rfl
  · by_cases h18 : n ≤ 18
    · have hloop := loop_end (F := F) (g := g) l n hn (by omega) h l F 0 0 rfl (by omega) (by omega) (by omega)
      have hne : ieq (endI (endAt l 0 0)) (Int.ofNat n) = false := by
        cases he : endAt l 0 0 with
        | none => rfl
        | some e =>
          show Nat.beq e n = false
          rw [beq_decide, decide_eq_false_iff_not]
          intro hen
          have := endAt_tree l (by omega) (by rw [he, hen, hn])
          rw [this] at ht; cases ht
      simp only [c_spec_TreeIn, c_spec_TreeIn_j1, c_spec_TreeIn_j2, hd_cons, tl_cons, aLenK_str, aCmpI_int, kEq_self, bc_true, bc_false, ilt_nat, ile_nat, withBool_bool, guardB_bool, guardB_tup, aPick_bool, ble_true (show Nat.succ 0 ≤ n by omega), ble_true h18, e0, hloop, bindR_some', hne]
    · simp only [c_spec_TreeIn, c_spec_TreeIn_j1, c_spec_TreeIn_j2, hd_cons, tl_cons, aLenK_str, aCmpI_int, kEq_self, bc_true, bc_false, ilt_nat, ile_nat, withBool_bool, guardB_bool, guardB_tup, aPick_bool, ble_true (show Nat.succ 0 ≤ n by omega), ble_false (show 18 < n by omega)]
      rfl
end
end Go.AI

namespace Go.AI
open Go Go.RowKit
noncomputable section
set_option linter.unusedVariables false
set_option linter.unusedSimpArgs false
set_option maxRecDepth 100000

theorem scan_endAt : ∀ (r : List Nat) (d m i : Nat), m ≤ 9 → scan r (d + 1) m = true → endAt r (d + 1) i = some (i + r.length) ∧ r.length + 2 * m ≤ 18 + (d + 1)
  | [], d, m, i, _, h => by cases h
  | c :: r, d, m, i, hm, h => by
    simp only [scan] at h
    by_cases h41 : c = 41
    · subst h41
      have h : scan r d m = true := h
      cases d with
      | zero =>
        cases r with
        | nil => exact ⟨rfl, by simp; omega⟩
        | cons a r => cases h
      | succ d =>
        obtain ⟨h1, h2⟩ := scan_endAt r d m (i + 1) hm h
        refine ⟨?_, by simp only [List.length_cons]; omega⟩
        show endAt r (d + 1) (i + 1) = _
        rw [h1]; simp only [List.length_cons]; congr 1; omega
    · have e41 : Nat.beq c 41 = false := by rw [beq_decide, decide_eq_false_iff_not]; exact h41
      rw [e41, bc_false] at h
      by_cases h40 : c = 40
      · subst h40
        have h : bc (Nat.ble (m + 1) 9) (scan r (d + 2) (m + 1)) false = true := h
        by_cases h9 : m + 1 ≤ 9
        · rw [ble_true h9, bc_true] at h
          obtain ⟨h1, h2⟩ := scan_endAt r (d + 1) (m + 1) (i + 1) h9 h
          refine ⟨?_, by simp only [List.length_cons]; omega⟩
          show endAt r (d + 2) (i + 1) = _
          rw [h1]; simp only [List.length_cons]; congr 1; omega
        · rw [ble_false (by omega)] at h; cases h
      · have e40 : Nat.beq c 40 = false := by rw [beq_decide, decide_eq_false_iff_not]; exact h40
        rw [e40] at h; cases h

theorem tree_endAt (l : List Nat) (h : isTree l = true) : endAt l 0 0 = some l.length ∧ 0 < l.length ∧ l.length ≤ 18 := by
  cases l with
  | nil => cases h
  | cons c r =>
    simp only [isTree] at h
    cases hc : Nat.beq c 40 with
    | false => rw [hc] at h; cases h
    | true =>
      rw [hc, bc_true] at h
      have := Nat.eq_of_beq_eq_true hc; subst this
      obtain ⟨h1, h2⟩ := scan_endAt r 0 1 1 (by omega) h
      refine ⟨?_, by simp, by simp only [List.length_cons]; omega⟩
      show endAt r 1 1 = _
      rw [h1]; simp only [List.length_cons]; congr 1; omega

/-- The specification's TreeIn at a tree. -/
theorem spec_good {F g : Nat} (l : List Nat) (n : Nat) (hn : l.length = n) (hF : 20 < F) (ht : isTree l = true) (h : H) : c_spec_TreeIn F g (.str l n) h = some (.bool true, h) := by
  obtain ⟨h1, h2, h3⟩ := tree_endAt l ht
  rw [hn] at h1 h2 h3
  have e0 : ∀ k : AV → H → Option R, bindR (c_spec_l1End F g (.str l n) (.int 3 (.ofNat 0)) h) k = bindR (loopD F (c_spec_l1End_l2 F g) [.str l n, .int 3 (.ofNat 0), .int 3 (.ofNat 0)] h) k := fun k => rfl
  have hloop := loop_end (F := F) (g := g) l n hn (by omega) h l F 0 0 rfl (by omega) (by omega) (by omega)
  have heq : ieq (endI (endAt l 0 0)) (Int.ofNat n) = true := by rw [h1]; show Nat.beq n n = true; exact Nat.beq_refl n
  simp only [c_spec_TreeIn, c_spec_TreeIn_j1, c_spec_TreeIn_j2, hd_cons, tl_cons, aLenK_str, aCmpI_int, kEq_self, bc_true, bc_false, ilt_nat, ile_nat, withBool_bool, guardB_bool, guardB_tup, aPick_bool, ble_true (show Nat.succ 0 ≤ n by omega), ble_true h3, e0, hloop, bindR_some', heq]
end
end Go.AI

/- Arithmetic on small numbers that are not negative. -/
namespace Go.AI
open Go Go.RowKit
noncomputable section
set_option linter.unusedVariables false
set_option linter.unusedSimpArgs false
variable {α : Type} {h : H} {k : AV → H → Option α} {a b : Nat}

/-- A number that is not negative. -/
abbrev nI (a : Nat) : AV := .int 3 (.ofNat a)
theorem fwrapN (hm : a ≤ 9223372036854775807) : fwrap 3 (.ofNat a) = .ofNat a := by
  rw [fwrap_eq, kd3]
  show IntKind.i64.wrap ((a : Nat) : Int) = ((a : Nat) : Int)
  rw [wrap_i64 _ (by omega) (by omega)]
theorem addN (hm : a + b ≤ 9223372036854775807) : aArith iadd (nI a) (nI b) h k = k (nI (a + b)) h := by
  rw [aArith_int, kEq_self, bc_true, fwrap_add a b hm]
theorem subN (hb : b ≤ a) (hm : a ≤ 9223372036854775807) : aArith isub (nI a) (nI b) h k = k (nI (a - b)) h := by
  rw [aArith_int, kEq_self, bc_true]
  have e : isub (.ofNat a) (.ofNat b) = .ofNat (a - b) := by
    rw [isub_eq]; show (a : Int) - (b : Int) = ((a - b : Nat) : Int); omega
  rw [e, fwrapN (by omega)]
theorem mulN (hm : a * b ≤ 9223372036854775807) : aArith imul (nI a) (nI b) h k = k (nI (a * b)) h := by
  rw [aArith_int, kEq_self, bc_true]
  have e : imul (.ofNat a) (.ofNat b) = .ofNat (a * b) := rfl
  rw [e, fwrapN hm]
theorem ieq0 (hb : 0 < b) : ieq (.ofNat b) 0 = false := by
  rw [ieq_eq, decide_eq_false_iff_not]
  show ¬ ((b : Nat) : Int) = 0
  omega
theorem remN (hb : 0 < b) : aRem (nI a) (nI b) h k = k (nI (a % b)) h := by
  show bc (kEq 3 3) (bc (ieq (.ofNat b) 0) none (k (.int 3 (imod (.ofNat a) (.ofNat b))) h)) none = _
  rw [kEq_self, ieq0 hb]
  rfl
theorem quoN (hb : 0 < b) (hm : a ≤ 9223372036854775807) : aQuo (nI a) (nI b) h k = k (nI (a / b)) h := by
  show bc (kEq 3 3) (bc (ieq (.ofNat b) 0) none (k (.int 3 (fwrap 3 (idiv (.ofNat a) (.ofNat b)))) h)) none = _
  rw [kEq_self, ieq0 hb]
  have e : idiv (.ofNat a) (.ofNat b) = .ofNat (a / b) := rfl
  rw [e, fwrapN (Nat.le_trans (Nat.div_le_self _ _) hm)]
  rfl
theorem convN {j : Nat} (hm : a ≤ 9223372036854775807) : aConvI 3 (.int j (.ofNat a)) h k = k (nI a) h := by
  show k (.int 3 (fwrap 3 (.ofNat a))) h = _
  rw [fwrapN hm]
theorem lssN : aCmpI ilt (nI a) (nI b) h k = k (.bool (Nat.ble (Nat.succ a) b)) h := rfl
theorem gtrN : aCmpI (fun a b => ilt b a) (nI a) (nI b) h k = k (.bool (Nat.ble (Nat.succ b) a)) h := rfl
theorem eqlN : aCmpI ieq (nI a) (nI b) h k = k (.bool (Nat.beq a b)) h := rfl
theorem xorN (ha : a < 4611686018427387904) (hb : b < 4611686018427387904) : aBits .xor (nI a) (nI b) h k = k (nI (a ^^^ b)) h := by
  show bc (kEq 3 3) (k (.int 3 (bitsI .xor (kd 3) (.ofNat a) (.ofNat b))) h) none = _
  rw [kEq_self, bc_true, kd3]
  have hx : a ^^^ b < 4611686018427387904 := Nat.xor_lt_two_pow (n := 62) ha hb
  have e1 : ∀ m : Nat, m < 4611686018427387904 → (BitVec.ofInt 64 (Int.ofNat m)).toNat = m := fun m hm => by
    show (BitVec.ofInt 64 ((m : Nat) : Int)).toNat = m
    rw [BitVec.ofInt_natCast, BitVec.toNat_ofNat]; omega
  have e : bitsI .xor .i64 (.ofNat a) (.ofNat b) = .ofNat (a ^^^ b) := by
    show IntKind.i64.wrap (((BitVec.ofInt 64 (Int.ofNat a)) ^^^ (BitVec.ofInt 64 (Int.ofNat b))).toNat : Int) = _
    rw [BitVec.toNat_xor, e1 a ha, e1 b hb]
    rw [wrap_i64 _ (by omega) (by omega)]; rfl
  rw [e]
theorem leNil (h : H) (k : AV → H → Option R) : aLenK 1 (.leaf .nils) h k = k (nI 0) h := rfl
theorem leOsl (b o n es : Nat) (h : H) (k : AV → H → Option R) : aLenK 1 (.osl b o n es) h k = k (nI n) h := rfl
theorem idxOsl {b o n es i : Nat} (hi : i < n) : aIdxAddr es (.osl b o n es) (nI i) h k = k (.ptr b (o + i * es)) h := by
  show inB (.ofNat i) n (fun j => k (.ptr b (Nat.add o (Nat.mul j es))) h) = _
  show bc (Nat.ble (Nat.succ i) n) _ none = _
  rw [ble_true (show Nat.succ i ≤ n from hi)]; rfl
end
end Go.AI

/- The drawing functions: whatever the code, they draw some numbers, some text. -/
namespace Go.AI
open Go Go.RowKit
noncomputable section
set_option linter.unusedVariables false
set_option linter.unusedSimpArgs false
set_option maxRecDepth 100000

/-- What is drawn from: b is nil or the slice of the m bytes at the head of block 0. -/
structure Src (b : AV) (m : Nat) (L : List AV) (h : H) : Prop where
  what : (b = .leaf .nils ∧ m = 0) ∨ b = .osl 1 0 m 1
  cell : 0 < m → ∃ fl, h.get 1 = .cells fl L
  byte : ∀ i, i < m → ∃ c, L[i]? = some (.int 4 (.ofNat c)) ∧ c < 256

theorem Src.one {b : AV} {m : Nat} {L : List AV} {h : H} (s : Src b m L h) : b.one1 = true := by rcases s.what with ⟨rfl, _⟩ | rfl <;> rfl
theorem Src.len {b : AV} {m : Nat} {L : List AV} {h : H} (s : Src b m L h) (h' : H) (k : AV → H → Option R) : aLenK 1 b h' k = k (nI m) h' := by
  rcases s.what with ⟨rfl, rfl⟩ | rfl <;> rfl
theorem Src.idx {b : AV} {m : Nat} {L : List AV} {h : H} (s : Src b m L h) {i : Nat} (hi : i < m) (h' : H) (k : AV → H → Option R) : aIdxAddr 1 b (nI i) h' k = k (.ptr 1 i) h' := by
  rcases s.what with ⟨rfl, rfl⟩ | rfl
  · omega
  · rw [idxOsl hi, Nat.zero_add, Nat.mul_one]
theorem Src.load {b : AV} {m : Nat} {L : List AV} {h : H} (s : Src b m L h) {i : Nat} (hi : i < m) : ∃ c, c < 256 ∧ ∀ k : AV → H → Option R, aLoad (.ptr 1 i) h k = k (.int 4 (.ofNat c)) h := by
  obtain ⟨c, h1, h2⟩ := s.byte i hi
  obtain ⟨fl, hc⟩ := s.cell (by omega)
  exact ⟨c, h2, fun k => load_at hc (by rw [nthO_eq]; exact h1)⟩
theorem Src.of {b : AV} {m : Nat} {L : List AV} {h h' : H} (s : Src b m L h) (e : h'.get 1 = h.get 1) : Src b m L h' := ⟨s.what, fun hm => by rw [e]; exact s.cell hm, s.byte⟩

section
variable {F g : Nat} {b : AV} {m : Nat} {L : List AV} {h : H} {Q p n : Nat}
theorem pick_j1 (hs : Src b m L h) (hQ : h.get Q = .cells 0 [b, nI (p + 1)]) (hm : m ≤ 2000) (hm0 : 0 < m) (hp : p < 1000000) (hn0 : 0 < n) {y1 y2 : Nat} (h1 : y1 < 100000000) (h2 : y2 < 100000000) :
    ∃ v, v < n ∧ c_spec_l6Rd_pick_j1 F g [.ptr Q 0, nI n, nI p, nI y1, nI y2] h = some (nI v, h) := by
  have l2 : ∀ k : AV → H → Option R, aLoad (.ptr Q (Nat.add 0 0)) h k = k b h := fun k => load_at hQ rfl
  have hpm' : p / m ≤ p := Nat.div_le_self _ _
  obtain ⟨x, hx⟩ : ∃ x, y1 + y2 + p * 29 + p / m * 53 = x := ⟨_, rfl⟩
  refine ⟨(x ^^^ (x / 64)) % n, Nat.mod_lt _ hn0, ?_⟩
  delta c_spec_l6Rd_pick_j1
  dsimp only [hd_cons, tl_cons]
  rw [addN (by omega), mulN (by omega), addN (by omega), aNilCheck_ptr, aField_ptr, l2, hs.len, quoN hm0 (by omega), mulN (by omega), addN (by omega), hx, quoN (by omega) (by omega), xorN (by omega) (by omega), remN hn0]

theorem pick_j2 (hs : Src b m L h) (hQ : h.get Q = .cells 0 [b, nI (p + 1)]) (hm : m ≤ 2000) (hm0 : 0 < m) (hp : p < 1000000) (hn0 : 0 < n) {y1 : Nat} (h1 : y1 < 100000000) :
    ∃ v, v < n ∧ c_spec_l6Rd_pick_j2 F g [.ptr Q 0, nI n, nI p, nI y1, .ptr Q (Nat.add 0 0)] h = some (nI v, h) := by
  have l2 : ∀ k : AV → H → Option R, aLoad (.ptr Q (Nat.add 0 0)) h k = k b h := fun k => load_at hQ rfl
  have hq2 : (p * 7 + 3) % m < m := Nat.mod_lt _ hm0
  obtain ⟨c2, hc2, hl2⟩ := hs.load hq2
  obtain ⟨v, hv, e⟩ := pick_j1 (F := F) (g := g) hs hQ hm hm0 hp hn0 h1 (show c2 * 1117 < 100000000 by omega)
  refine ⟨v, hv, ?_⟩
  rw [← e]
  delta c_spec_l6Rd_pick_j2
  dsimp only [hd_cons, tl_cons]
  rw [l2, mulN (by omega), addN (by omega), aNilCheck_ptr, aField_ptr, l2, hs.len, remN hm0, hs.idx hq2, hl2, convN (by omega), mulN (by omega)]

theorem pick_j3 (hs : Src b m L h) (hQ : h.get Q = .cells 0 [b, nI (p + 1)]) (hm : m ≤ 2000) (hm0 : 0 < m) (hp : p < 1000000) (hn0 : 0 < n) :
    ∃ v, v < n ∧ c_spec_l6Rd_pick_j3 F g [.ptr Q 0, nI n, nI p, b] h = some (nI v, h) := by
  have l2 : ∀ k : AV → H → Option R, aLoad (.ptr Q (Nat.add 0 0)) h k = k b h := fun k => load_at hQ rfl
  have hq1 : p % m < m := Nat.mod_lt _ hm0
  obtain ⟨c1, hc1, hl1⟩ := hs.load hq1
  obtain ⟨v, hv, e⟩ := pick_j2 (F := F) (g := g) hs hQ hm hm0 hp hn0 (show c1 * 131 < 100000000 by omega)
  refine ⟨v, hv, ?_⟩
  rw [← e]
  delta c_spec_l6Rd_pick_j3
  dsimp only [hd_cons, tl_cons]
  rw [aNilCheck_ptr, aField_ptr, l2, hs.len, remN hm0, hs.idx hq1, hl1, convN (by omega), mulN (by omega), aNilCheck_ptr, aField_ptr]

theorem pick_j4 (hs : Src b m L h) (hQ : h.get Q = .cells 0 [b, nI (p + 1)]) (hm : m ≤ 2000) (hm0 : 0 < m) (hp : p < 1000000) (hn0 : 0 < n) :
    ∃ v, v < n ∧ c_spec_l6Rd_pick_j4 F g [.ptr Q 0, nI n, .bool false, .bool false] h = some (nI v, h) := by
  have l2 : ∀ k : AV → H → Option R, aLoad (.ptr Q (Nat.add 0 0)) h k = k b h := fun k => load_at hQ rfl
  have l3 : ∀ k : AV → H → Option R, aLoad (.ptr Q (Nat.add 0 1)) h k = k (nI (p + 1)) h := fun k => load_at hQ rfl
  have u1 : ∀ k : AV → H → Option R, aArith isub (nI (p + 1)) (nI 1) h k = k (nI p) h := fun k => by rw [subN (by omega) (by omega)]; rfl
  by_cases hpm : p < m
  · obtain ⟨c, hc, hl⟩ := hs.load hpm
    refine ⟨c % n, Nat.mod_lt _ hn0, ?_⟩
    delta c_spec_l6Rd_pick_j4
    dsimp only [hd_cons, tl_cons]
    rw [aPick_bool, bc_false, withBool_bool, bc_false, aNilCheck_ptr, aField_ptr, l3, u1, aNilCheck_ptr, aField_ptr, l2, hs.len, lssN, withBool_bool, ble_true (show Nat.succ p ≤ m from hpm), bc_true,
      aNilCheck_ptr, aField_ptr, l2, hs.idx hpm, hl, convN (by omega), remN hn0]
  · obtain ⟨v, hv, e⟩ := pick_j3 (F := F) (g := g) hs hQ hm hm0 hp hn0
    refine ⟨v, hv, ?_⟩
    rw [← e]
    delta c_spec_l6Rd_pick_j4
    dsimp only [hd_cons, tl_cons]
    rw [aPick_bool, bc_false, withBool_bool, bc_false, aNilCheck_ptr, aField_ptr, l3, u1, aNilCheck_ptr, aField_ptr, l2, hs.len, lssN, withBool_bool, ble_false (show m < Nat.succ p by omega), bc_false,
      aNilCheck_ptr, aField_ptr, l2]

theorem pick_ok (hs : Src b m L h) (hQ : h.get Q = .cells 0 [b, nI p]) (hQ0 : Q ≠ 1) (hm : m ≤ 2000) (hp : p < 1000000) (hn : n ≤ 1000000) :
    ∃ v, v < max n 1 ∧ c_spec_l6Rd_pick F g (.ptr Q 0) (nI n) h = some (nI v, h.set Q (.cells 0 [b, nI (p + 1)])) := by
  have l1 : ∀ k : AV → H → Option R, aLoad (.ptr Q (Nat.add 0 1)) h k = k (nI p) h := fun k => load_at hQ rfl
  have s1 : ∀ k : AV → H → Option R, aStore (.ptr Q (Nat.add 0 1)) (nI (p + 1)) h k = k (.leaf .undef) (h.set Q (.cells 0 [b, nI (p + 1)])) := fun k => store_at (l := [b, nI p]) hQ (by omega) (by simp) rfl
  obtain ⟨h1, hh⟩ : ∃ h1, h.set Q (.cells 0 [b, nI (p + 1)]) = h1 := ⟨_, rfl⟩
  rw [hh] at s1 ⊢
  have hQ1 : h1.get Q = .cells 0 [b, nI (p + 1)] := by rw [← hh]; exact get_set_eq
  have hs1 : Src b m L h1 := hs.of (by rw [← hh]; exact get_set_ne (Ne.symm hQ0))
  have l2 : ∀ k : AV → H → Option R, aLoad (.ptr Q (Nat.add 0 0)) h1 k = k b h1 := fun k => load_at hQ1 rfl
  have e0 : c_spec_l6Rd_pick F g (.ptr Q 0) (nI n) h = guardB false (.bool (Nat.ble (Nat.succ n) 1)) (c_spec_l6Rd_pick_j4 F g [.ptr Q 0, nI n, .bool (Nat.ble (Nat.succ n) 1), .bool (Nat.beq m 0)] h1) (c_spec_l6Rd_pick_j4 F g [.ptr Q 0, nI n, .bool (Nat.ble (Nat.succ n) 1), .one .tup (.leaf .nil)] h1) := by
    delta c_spec_l6Rd_pick
    rw [aNilCheck_ptr, aField_ptr, l1, addN (by omega), aNilCheck_ptr, aField_ptr, s1, lssN, aNilCheck_ptr, aField_ptr, l2, hs1.len, eqlN]
  rw [e0]
  by_cases hn0 : n < 1
  · obtain rfl : n = 0 := by omega
    exact ⟨0, by omega, rfl⟩
  · rw [ble_false (by omega)]
    by_cases hm0 : m = 0
    · subst hm0; exact ⟨0, by omega, rfl⟩
    · have hmb : Nat.beq m 0 = false := by rw [beq_decide, decide_eq_false_iff_not]; exact hm0
      rw [hmb]
      obtain ⟨v, hv, e⟩ := pick_j4 (F := F) (g := g) (n := n) hs1 hQ1 hm (by omega) hp (by omega)
      exact ⟨v, by omega, e⟩
end

/-! ### A row of small numbers -/
structure Row (x : AV) (D : Nat) (ds : List Nat) (h : H) : Prop where
  what : x = .leaf (.sl D 0 1 1) ∧ ds.length = 1 ∨ x = .osl D 0 ds.length 1
  cells : h.get D = .cells 0 (ds.map nI)
  lt : D < h.n

theorem Row.of {x : AV} {D : Nat} {ds : List Nat} {h h' : H} (r : Row x D ds h) (e : h'.get D = h.get D) (hn : h.n ≤ h'.n) : Row x D ds h' := ⟨r.what, by rw [e]; exact r.cells, Nat.lt_of_lt_of_le r.lt hn⟩
theorem Row.len {x : AV} {D : Nat} {ds : List Nat} {h : H} (r : Row x D ds h) (h' : H) (k : AV → H → Option R) : aLenK 1 x h' k = k (nI ds.length) h' := by
  rcases r.what with ⟨rfl, e⟩ | rfl
  · rw [e]; rfl
  · rfl
theorem Row.idx {x : AV} {D : Nat} {ds : List Nat} {h : H} (r : Row x D ds h) {i : Nat} (hi : i < ds.length) (h' : H) (k : AV → H → Option R) : aIdxAddr 1 x (nI i) h' k = k (.ptr D i) h' := by
  rcases r.what with ⟨rfl, e⟩ | rfl
  · obtain rfl : i = 0 := by omega
    rfl
  · rw [idxOsl hi, Nat.zero_add, Nat.mul_one]
theorem Row.load {x : AV} {D : Nat} {ds : List Nat} {h : H} (r : Row x D ds h) {i e : Nat} (hi : ds[i]? = some e) (k : AV → H → Option R) : aLoad (.ptr D i) h k = k (nI e) h :=
  load_at r.cells (by rw [nthO_eq, List.getElem?_map, hi]; rfl)
theorem Row.watch {x : AV} {D : Nat} {ds : List Nat} {h : H} (r : Row x D ds h) : watch h [x, x] = [(D, ds.map nI), (D, ds.map nI)] := by
  have e : ∀ q, watch1 h D q = (D, ds.map nI) :: q := fun q => by unfold watch1; rw [r.cells]
  rcases r.what with ⟨rfl, _⟩ | rfl
  · show watch1 h D (watch1 h D []) = _; rw [e, e]
  · show watch1 h D (watch1 h D []) = _; rw [e, e]
theorem Row.okW {x : AV} {D : Nat} {ds : List Nat} {h : H} (r : Row x D ds h) : okW [(D, ds.map nI), (D, ds.map nI)] h = true := by
  show bc (@Blk.rec (fun _ => Bool) false (fun _ l => eqW (ds.map nI) l) (fun _ _ => false) (h.get D)) (bc (@Blk.rec (fun _ => Bool) false (fun _ l => eqW (ds.map nI) l) (fun _ _ => false) (h.get D)) true false) false = true
  rw [r.cells]
  show bc (eqW (ds.map nI) (ds.map nI)) (bc (eqW (ds.map nI) (ds.map nI)) true false) false = true
  rw [eqW_self]; rfl
theorem Row.loadW {D : Nat} {ds : List Nat} {h : H} {i e : Nat} (hi : ds[i]? = some e) (k : AV → H → Option R) : aLoadW [(D, ds.map nI), (D, ds.map nI)] (.ptr D i) h k = k (nI e) h := by
  show bc (Nat.beq D D) (onSome (nthO (ds.map nI) i) fun a => bc (wat a) (k a h) none) _ = _
  rw [Nat.beq_refl, bc_true, nthO_eq, List.getElem?_map, hi]; rfl

theorem app1_sl {h : H} {q fl D : Nat} {a c : AV} {k : AV → H → Option R} (hq : h.get q = .cells fl [a]) (hk : h.get D = .cells 0 [c]) :
    aAppend 1 8 (.leaf (.sl D 0 1 1)) (.leaf (.sl q 0 1 1)) h k = k (.osl h.n 0 2 1) (h.push (.cells 0 [c, a])) := by
  show withCells h q (fun _ l => bc (Nat.beq (lenL (takeL (Nat.mul 1 1) (dropL 0 l))) (Nat.mul 1 1)) (aApp1 1 8 1 (takeL (Nat.mul 1 1) (dropL 0 l)) (.leaf (.sl D 0 1 1)) h k) none) = _
  rw [withCells_get hq]
  show withCells h D (fun fl l => bc (Nat.beq (lenL (takeL (Nat.mul 1 1) (dropL 0 l))) (Nat.mul 1 1)) (bc (Nat.ble (Nat.mul (Nat.add 1 1) 8) 140737488355328) (bc (Nat.ble (Nat.add 1 1) strMax) (k (.osl h.n 0 (Nat.add 1 1) 1) (h.push (.cells 0 (appA (takeL (Nat.mul 1 1) (dropL 0 l)) [a])))) none) none) none) = _
  rw [withCells_get hk]
  have e4 : Nat.add 1 1 ≤ strMax := by have := strMax_eq; show 2 ≤ strMax; omega
  rw [ble_true e4]; rfl

theorem minN_ge {a b c : Nat} (h1 : c ≤ a) (h2 : c ≤ b) : c ≤ minN a b := by
  unfold minN; cases Nat.ble a b
  · exact h2
  · exact h1
/-- One number more. -/
theorem Row.push {x : AV} {D : Nat} {ds : List Nat} {h : H} (r : Row x D ds h) (hl : ds.length < 1000) (v : Nat) (k : AV → H → Option R) :
    ∃ h', (aBuildSlice 1 1 [(0, 1, nI v)] h fun y h => aAppend 1 8 x y h k) = k (.osl (h.n + 1) 0 (ds.length + 1) 1) h' ∧ Row (.osl (h.n + 1) 0 (ds.length + 1) 1) (h.n + 1) (ds ++ [v]) h' ∧ h.n ≤ h'.n ∧ (∀ c, c < h.n → c ≠ D → h'.get c = h.get c) ∧ (2 ≤ D → 2 ≤ h.lo → 2 ≤ h'.lo) := by
  have e2 : ∀ k : AV → H → Option R, aBuildSlice 1 1 [(0, 1, nI v)] h k = k (.leaf (.sl h.n 0 1 1)) (h.push (.cells 0 [nI v])) := fun k => rfl
  rw [e2]
  have g2 : (h.push (.cells 0 [nI v])).get h.n = .cells 0 [nI v] := get_push_eq rfl
  have gD : (h.push (.cells 0 [nI v])).get D = .cells 0 (ds.map nI) := by rw [get_push_lt r.lt]; exact r.cells
  have hlt := r.lt
  rcases r.what with ⟨rfl, e⟩ | rfl
  · obtain ⟨d, rfl⟩ : ∃ d, ds = [d] := by match ds, e with | [d], _ => exact ⟨d, rfl⟩
    rw [app1_sl g2 gD]
    refine ⟨_, rfl, ⟨.inr rfl, ?_, ?_⟩, ?_, fun c hc _ => ?_, ?_⟩
    · exact get_push_eq rfl
    · show h.n + 1 < h.n + 1 + 1; omega
    · show h.n ≤ h.n + 1 + 1; omega
    · rw [get_push_lt (by show c < h.n + 1; omega), get_push_lt hc]
    · exact fun _ h => h
  · rw [app1_osl g2 gD (by simp) hl (by omega) rfl]
    refine ⟨_, rfl, ⟨.inr (by simp), ?_, ?_⟩, ?_, fun c hc hcD => ?_, ?_⟩
    · rw [show h.n + 1 = ((h.push (.cells 0 [nI v])).set D .dead).n from rfl, get_push_eq rfl]; simp
    · show h.n + 1 < h.n + 1 + 1; omega
    · show h.n ≤ h.n + 1 + 1; omega
    · rw [get_push_lt (by show c < h.n + 1; omega), get_set_ne hcD, get_push_lt hc]
    · exact fun h1 h2 => minN_ge h1 h2

/-! ### Balanced texts -/
def cn (c : Nat) : List Nat → Nat
  | [] => 0
  | a :: l => (if a = c then 1 else 0) + cn c l
theorem cn_app (c : Nat) : ∀ (x y : List Nat), cn c (x ++ y) = cn c x + cn c y
  | [], y => by simp [cn]
  | a :: x, y => by simp only [List.cons_append, cn, cn_app c x y]; omega
theorem scan_app : ∀ (p q : List Nat) (d m : Nat), scan (p ++ q) d m = true → q ≠ [] → cn 41 p < cn 40 p + d
  | [], [], d, m, _, h => absurd rfl h
  | [], c :: q, 0, m, h, _ => by cases h
  | [], c :: q, d + 1, m, _, _ => by simp [cn]
  | c :: p, q, 0, m, h, _ => by cases h
  | c :: p, q, d + 1, m, h, hq => by
    simp only [List.cons_append, scan] at h
    by_cases h41 : c = 41
    · subst h41
      have h : scan (p ++ q) d m = true := h
      have := scan_app p q d m h hq
      simp only [cn]
      simp; omega
    · have e41 : Nat.beq c 41 = false := by rw [beq_decide, decide_eq_false_iff_not]; exact h41
      rw [e41, bc_false] at h
      by_cases h40 : c = 40
      · subst h40
        have h : bc (Nat.ble (m + 1) 9) (scan (p ++ q) (d + 2) (m + 1)) false = true := h
        cases h9 : Nat.ble (m + 1) 9 with
        | false => rw [h9] at h; cases h
        | true =>
          rw [h9, bc_true] at h
          have := scan_app p q (d + 2) (m + 1) h hq
          simp only [cn]
          simp; omega
      · have e40 : Nat.beq c 40 = false := by rw [beq_decide, decide_eq_false_iff_not]; exact h40
        rw [e40] at h; cases h
/-- Behind a balanced text nothing may follow. -/
theorem no_tree_app {l l' : List Nat} (h0 : l ≠ []) (hb : cn 40 l = cn 41 l) (hl : l' ≠ []) : isTree (l ++ l') = false := by
  cases l with
  | nil => exact absurd rfl h0
  | cons c p =>
    cases hc : isTree (c :: p ++ l') with
    | false => rfl
    | true =>
      exfalso
      simp only [List.cons_append, isTree] at hc
      by_cases h40 : c = 40
      · subst h40
        have hc : scan (p ++ l') 1 1 = true := hc
        have := scan_app p l' 1 1 hc hl
        simp [cn] at hb
        omega
      · have e40 : Nat.beq c 40 = false := by rw [beq_decide, decide_eq_false_iff_not]; exact h40
        rw [e40] at hc; cases hc

/-! ### The text of levels -/
theorem sadd1 (l : List Nat) (c : Nat) (hl : l.length < 100000) (h : H) (k : AV → H → Option R) : aSAdd (.str l l.length) (.str [c] 1) h k = k (.str (l ++ [c]) (l ++ [c]).length) h := by
  show bc (Nat.ble (Nat.add l.length 1) strMax) (k (.str (appL l [c]) (Nat.add l.length 1)) h) none = _
  have := strMax_eq
  rw [ble_true (show Nat.add l.length 1 ≤ strMax by show l.length + 1 ≤ strMax; omega), bc_true, appL_eq]
  rw [List.length_append]; rfl
theorem nat_ble {a b : Nat} : Nat.ble (Nat.succ a) b = decide (a < b) := by rw [ble_decide]; rfl

section
variable {F g : Nat} {h : H} {x : AV} {D : Nat} {ds : List Nat}
theorem tree_in (r : Row x D ds h) {i e : Nat} (hi : ds[i]? = some e) (kc : List AV → H → Option R) : ∀ (N op : Nat) (l : List Nat), op < N → l.length + op < 50000 → i < 20000 → cn 40 l = cn 41 l + op →
    ∃ l' op', op' ≤ op + 1 ∧ cn 40 l' = cn 41 l' + op' ∧ l'.length + op' = l.length + op + 2 ∧ loopD N (c_spec_l3Tree_l1 F g kc) [x, .str l l.length, nI op, nI i] h = kc [x, .str l' l'.length, nI op', nI (i + 1)] h
  | 0, op, l, h0, _, _, _ => by omega
  | N + 1, op, l, hN, hl, h20, hcn => by
    have hlt : i < ds.length := (List.getElem?_eq_some_iff.1 hi).1
    have e0 : ∀ op l, l.length + op < 50000 → loopD (N + 1) (c_spec_l3Tree_l1 F g kc) [x, .str l l.length, nI op, nI i] h =
        bc (Nat.ble (Nat.succ e) op) (aSAdd (.str l l.length) (.str [41] 1) h fun x18 h => aArith isub (nI op) (nI 1) h fun x19 h => loopD N (c_spec_l3Tree_l1 F g kc) [x, x18, x19, nI i] h)
          (aSAdd (.str l l.length) (.str [40] 1) h fun x20 h => aArith iadd (nI op) (nI 1) h fun x21 h => aArith iadd (nI i) (nI 1) h fun x22 h => kc [x, x20, x21, x22] h) := fun op l _ => by
      rw [loopD_succ]
      delta c_spec_l3Tree_l1
      dsimp only [hd_cons, tl_cons]
      rw [r.idx hlt, r.load hi, gtrN, withBool_bool]
    rw [e0 op l hl]
    by_cases ho : e < op
    · rw [ble_true (show Nat.succ e ≤ op from ho), bc_true, sadd1 _ _ (by omega), subN (by omega) (by omega)]
      obtain ⟨l', op', h1, h4, h2, h3⟩ := tree_in r hi kc N (op - 1) (l ++ [41]) (by omega) (by simp; omega) h20 (by simp only [cn_app, cn]; simp; omega)
      exact ⟨l', op', by omega, h4, by simp at h2; omega, h3⟩
    · rw [ble_false (show op < Nat.succ e by omega), bc_false, sadd1 _ _ (by omega), addN (by omega), addN (by omega)]
      exact ⟨l ++ [40], op + 1, by omega, by simp only [cn_app, cn]; simp; omega, by simp; omega, rfl⟩

theorem tree_end (h : H) : ∀ (N op : Nat) (l : List Nat), op < N → l.length + op < 50000 → cn 40 l = cn 41 l + op → ∃ l', l'.length = l.length + op ∧ cn 40 l' = cn 41 l' ∧ loopD N (c_spec_l3Tree_l2 F g) [.str l l.length, nI op] h = some (.str l' l'.length, h)
  | 0, op, l, h0, _, _ => by omega
  | N + 1, op, l, hN, hl, hcn => by
    rw [loopD_succ]
    delta c_spec_l3Tree_l2
    dsimp only [hd_cons, tl_cons]
    rw [gtrN, withBool_bool]
    by_cases ho : 0 < op
    · rw [ble_true (show Nat.succ 0 ≤ op from ho), bc_true, sadd1 _ _ (by omega), subN (by omega) (by omega)]
      obtain ⟨l', h1, h4, h2⟩ := tree_end h N (op - 1) (l ++ [41]) (by omega) (by simp; omega) (by simp only [cn_app, cn]; simp; omega)
      exact ⟨l', by simp at h1; omega, h4, h2⟩
    · rw [ble_false (show op < Nat.succ 0 by omega), bc_false]
      exact ⟨l, by omega, by omega, rfl⟩

theorem tree_out (r : Row x D ds h) (hF : 10000 < F) (hds : ds.length < 5000) : ∀ (N i op : Nat) (l : List Nat), i ≤ ds.length → ds.length - i < N → l.length + op = 2 * i → op ≤ i → cn 40 l = cn 41 l + op →
    ∃ l', l'.length = 2 * ds.length ∧ cn 40 l' = cn 41 l' ∧ loopD N (c_spec_l3Tree_l3 F g) [x, .str l l.length, nI op, nI i] h = some (.str l' l'.length, h)
  | 0, i, op, l, _, h0, _, _, _ => by omega
  | N + 1, i, op, l, hi, hN, hl, ho, hcn => by
    rw [loopD_succ]
    delta c_spec_l3Tree_l3
    dsimp only [hd_cons, tl_cons]
    rw [r.len, lssN, withBool_bool]
    by_cases hid : i < ds.length
    · rw [ble_true (show Nat.succ i ≤ _ from hid), bc_true]
      obtain ⟨l', op', h1, h4, h2, h3⟩ := tree_in (F := F) (g := g) r (List.getElem?_eq_getElem hid) (loopD N (c_spec_l3Tree_l3 F g)) F op l (by omega) (by omega) (by omega) hcn
      have h3' : loopD F (c_spec_l3Tree_l1 F g (loopD N (c_spec_l3Tree_l3 F g))) [x, .str l l.length, nI op, nI i] h = _ := h3
      obtain ⟨l2, g1, g3, g2⟩ := tree_out r hF hds N (i + 1) op' l' (by omega) (by omega) (by omega) (by omega) h4
      refine ⟨l2, g1, g3, ?_⟩
      rw [← g2]; exact h3'
    · rw [ble_false (show _ < Nat.succ i by omega), bc_false]
      obtain ⟨l', h1, h4, h2⟩ := tree_end (F := F) (g := g) h F op l (by omega) (by omega) hcn
      exact ⟨l', by omega, h4, h2⟩

theorem l3Tree_ok (r : Row x D ds h) (hF : 10000 < F) (hds : ds.length < 5000) : ∃ l, l.length = 2 * ds.length ∧ cn 40 l = cn 41 l ∧ c_spec_l3Tree F g x h = some (.str l l.length, h) :=
  tree_out (F := F) (g := g) r hF hds F 0 0 [] (by omega) (by omega) rfl (Nat.le_refl _) rfl
end

/-! ### The reader -/
structure Rdr (b : AV) (m : Nat) (L : List AV) (Q p : Nat) (h : H) : Prop where
  src : Src b m L h
  blk : h.get Q = .cells 0 [b, nI p]
  q0 : 2 ≤ Q
  lt : Q < h.n
  lo : 2 ≤ h.lo
  m2 : m ≤ 2000

section
variable {F g : Nat} {b : AV} {m : Nat} {L : List AV} {Q p n : Nat} {h : H}
theorem Rdr.pick (r : Rdr b m L Q p h) (hp : p < 1000000) (hn : n ≤ 1000000) : ∃ v h', v < max n 1 ∧ c_spec_l6Rd_pick F g (.ptr Q 0) (nI n) h = some (nI v, h') ∧ Rdr b m L Q (p + 1) h' ∧ h'.n = h.n ∧ ∀ c, c ≠ Q → h'.get c = h.get c := by
  have hq := r.q0
  obtain ⟨v, hv, e⟩ := pick_ok (F := F) (g := g) r.src r.blk (by omega) r.m2 hp hn
  exact ⟨v, _, hv, e, ⟨r.src.of (get_set_ne (by omega)), get_set_eq, r.q0, r.lt, minN_ge r.q0 r.lo, r.m2⟩, rfl, fun c hc => get_set_ne hc⟩

theorem Rdr.later {h' : H} (r : Rdr b m L Q p h) (e0 : h'.get 1 = h.get 1) (eQ : h'.get Q = h.get Q) (hn : h.n ≤ h'.n) (hl : 2 ≤ h'.lo) : Rdr b m L Q p h' :=
  ⟨r.src.of e0, by rw [eQ]; exact r.blk, r.q0, Nat.lt_of_lt_of_le r.lt hn, hl, r.m2⟩

theorem nodes_push (r : Rdr b m L Q p h) {x : AV} {D : Nat} {ds : List Nat} (w : Row x D ds h) (hDQ : D ≠ Q) (hD : 2 ≤ D) (hds : ds.length < 100) {kd : AV} {v : Nat} (kc : List AV → H → Option R) (N : AV) :
    ∃ x' D' h', c_spec_l91Nodes_j1 F g kc [.ptr Q 0, N, x, kd, nI ds.length, nI v] h = kc [.ptr Q 0, N, x', kd, nI (ds.length + 1)] h' ∧ Row x' D' (ds ++ [v]) h' ∧ Rdr b m L Q p h' ∧ D' ≠ Q ∧ 2 ≤ D' := by
  obtain ⟨h', e, w', g1, g2, g3⟩ := w.push (by omega) v fun y h => aArith iadd (nI ds.length) (nI 1) h fun z h => kc [.ptr Q 0, N, y, kd, z] h
  have hq := r.lt
  have hq0 := r.q0
  refine ⟨_, _, h', ?_, w', r.later (g2 1 (by omega) (by omega)) (g2 Q hq (Ne.symm hDQ)) g1 (g3 hD r.lo), by omega, by omega⟩
  delta c_spec_l91Nodes_j1
  dsimp only [hd_cons, tl_cons]
  rw [show nI ds.length = nI ds.length from rfl]
  refine e.trans ?_
  rw [addN (by omega)]

theorem bc_t {α : Type} {c : Bool} {x y : α} (h : c = true) : bc c x y = x := by subst h; rfl

theorem nodes_step (r : Rdr b m L Q p h) (hp : p < 900000) {x : AV} {D : Nat} {ds : List Nat} (w : Row x D ds h) (hDQ : D ≠ Q) (hD : 2 ≤ D) (h1 : 1 ≤ ds.length) (hds : ds.length < 100) (hb : ∀ (j e : Nat), ds[j]? = some e → e ≤ j) {kd : Nat} (hn : ds.length < n) (kc : List AV → H → Option R) :
    ∃ v x' D' p' h', v ≤ ds.length ∧ p' ≤ p + 2 ∧ c_spec_l91Nodes_l2 F g [.ptr Q 0, nI n, x, nI kd, nI ds.length] h kc = kc [.ptr Q 0, nI n, x', nI kd, nI (ds.length + 1)] h' ∧ Row x' D' (ds ++ [v]) h' ∧ Rdr b m L Q p' h' ∧ D' ≠ Q ∧ 2 ≤ D' := by
  obtain ⟨e, he⟩ : ∃ e, ds[ds.length - 1]? = some e := ⟨_, List.getElem?_eq_getElem (by omega)⟩
  have hel := hb _ _ he
  have hi : ds.length - 1 < ds.length := by omega
  obtain ⟨v, h2, hv, e2, r2, n2, f2⟩ := r.pick (F := F) (g := g) (n := e + 1) (by omega) (by omega)
  have w2 : Row x D ds h2 := w.of (f2 D hDQ) (by omega)
  by_cases hk : kd = 1
  · subst hk
    obtain ⟨v2, h3, hv2, e3, r3, n3, f3⟩ := r2.pick (F := F) (g := g) (n := min (e + 1) 2) (by omega) (by omega)
    have w3 : Row x D ds h3 := w2.of (f3 D hDQ) (by omega)
    obtain ⟨x', D', h', q1, q2, q3, q4, q5⟩ := nodes_push (F := F) (g := g) r3 w3 hDQ hD hds (kd := nI 1) (v := 1 + e - v2) kc (nI n)
    refine ⟨1 + e - v2, x', D', p + 2, h', by omega, by omega, ?_, q2, q3, q4, q5⟩
    rw [← q1]
    delta c_spec_l91Nodes_l2
    dsimp only [hd_cons, tl_cons]
    rw [lssN, withBool_bool, ble_true (show Nat.succ ds.length ≤ n from hn), bc_true, subN h1 (by omega), w.idx hi, w.load he, addN (by omega), e2, bindR_some', addN (by omega), eqlN, withBool_bool]
    have mm : ∀ k : AV → H → Option R, aMM false (nI (e + 1)) (.int 3 (.ofNat 2)) h2 k = k (nI (min (e + 1) 2)) h2 := fun k => by
      show k (.int 3 (bc (Nat.ble (Nat.succ 2) (e + 1)) (.ofNat 2) (.ofNat (e + 1)))) h2 = _
      by_cases h3 : 3 ≤ e + 1
      · rw [ble_true (show Nat.succ 2 ≤ e + 1 from h3), bc_true, show min (e + 1) 2 = 2 by omega]
      · rw [ble_false (show e + 1 < Nat.succ 2 by omega), bc_false, show min (e + 1) 2 = e + 1 by omega]
    rw [show Nat.beq 1 1 = true from rfl, bc_true, w2.watch]
    rw [w2.okW, bc_true, bc_true, subN h1 (by omega), bc_true, w2.idx hi, bc_true, Row.loadW he, addN (by omega), w2.okW, bc_true, bc_true, bc_true, bc_true, subN h1 (by omega), bc_true, w2.idx hi, bc_true, Row.loadW he, addN (by omega), w2.okW, bc_true, mm, bc_true, e3, bindR_some',
      w3.okW, bc_true, subN (by omega) (by omega), bc_true, bc_true]
  · obtain ⟨x', D', h', q1, q2, q3, q4, q5⟩ := nodes_push (F := F) (g := g) r2 w2 hDQ hD hds (kd := nI kd) (v := 1 + v) kc (nI n)
    refine ⟨1 + v, x', D', p + 1, h', by omega, by omega, ?_, q2, q3, q4, q5⟩
    rw [← q1]
    delta c_spec_l91Nodes_l2
    dsimp only [hd_cons, tl_cons]
    rw [lssN, withBool_bool, ble_true (show Nat.succ ds.length ≤ n from hn), bc_true, subN h1 (by omega), w.idx hi, w.load he, addN (by omega), e2, bindR_some', addN (by omega), eqlN, withBool_bool]
    rw [show Nat.beq kd 1 = false by rw [beq_decide, decide_eq_false_iff_not]; exact hk, bc_false]

theorem nodes_loop (hF : 10000 < F) (hn : n ≤ 50) {kd : Nat} : ∀ (N : Nat) (ds : List Nat) (x : AV) (D p : Nat) (h : H), Rdr b m L Q p h → p + 2 * (n - ds.length) < 900000 → Row x D ds h → D ≠ Q → 2 ≤ D → 1 ≤ ds.length → ds.length ≤ max n 1 → n - ds.length < N →
    (∀ (j e : Nat), ds[j]? = some e → e ≤ j) →
    ∃ l p' h', (2 ≤ l.length ∧ l.length ≤ 2 * max n 1 ∧ cn 40 l = cn 41 l) ∧ p' ≤ p + 2 * (n - ds.length) ∧ loopD N (c_spec_l91Nodes_l2 F g) [.ptr Q 0, nI n, x, nI kd, nI ds.length] h = some (.str l l.length, h') ∧ Rdr b m L Q p' h'
  | 0, _, _, _, _, _, _, _, _, _, _, _, _, h0, _ => by omega
  | N + 1, ds, x, D, p, h, r, hp, w, hDQ, hD, h1, hds, hN, hb => by
    rw [loopD_succ]
    by_cases hi : ds.length < n
    · obtain ⟨v, x', D', p', h', q1, q2, q3, q4, q5, q6, q7⟩ := nodes_step (F := F) (g := g) r (by omega) w hDQ hD h1 (by omega) hb (kd := kd) hi (loopD N (c_spec_l91Nodes_l2 F g))
      have hlen : (ds ++ [v]).length = ds.length + 1 := by simp
      obtain ⟨l, p2, h2, g1, g2, g3, g4⟩ := nodes_loop hF hn N (ds ++ [v]) x' D' p' h' q5 (by omega) q4 q6 q7 (by omega) (by omega) (by omega) fun j e hj => by
        by_cases hj' : j < ds.length
        · rw [List.getElem?_append_left hj'] at hj; exact hb j e hj
        · rw [List.getElem?_append_right (by omega)] at hj
          obtain rfl : j = ds.length := by
            have := (List.getElem?_eq_some_iff.1 hj).1
            simp at this; omega
          simp at hj; omega
      refine ⟨l, p2, h2, g1, by omega, ?_, g4⟩
      rw [q3, ← hlen]; exact g3
    · obtain ⟨l, h2, h4, h3⟩ := l3Tree_ok (F := F) (g := g) w hF (by omega)
      refine ⟨l, p, h, ⟨by omega, by omega, h4⟩, by omega, ?_, r⟩
      delta c_spec_l91Nodes_l2
      dsimp only [hd_cons, tl_cons]
      rw [lssN, withBool_bool, ble_false (show n < Nat.succ ds.length by omega), bc_false, h3, bindR_some']

theorem nodes_ok (r : Rdr b m L Q p h) (hF : 10000 < F) (hn : n ≤ 50) (hp : p < 100000) : ∃ l p' h', (2 ≤ l.length ∧ l.length ≤ 2 * max n 1 ∧ cn 40 l = cn 41 l) ∧ p' ≤ p + 200 ∧ c_spec_l91Nodes F g (.ptr Q 0) (nI n) h = some (.str l l.length, h') ∧ Rdr b m L Q p' h' := by
  have hq := r.lt
  have hq0 := r.q0
  have r1 : Rdr b m L Q p (h.push (.cells 0 [nI 0])) := r.later (get_push_lt (by omega)) (get_push_lt hq) (Nat.le_succ _) r.lo
  obtain ⟨v, h2, hv, e2, r2, n2, f2⟩ := r1.pick (F := F) (g := g) (n := 3) (by omega) (by omega)
  have hn2 : h2.n = h.n + 1 := n2
  have w : Row (.leaf (.sl h.n 0 1 1)) h.n [0] h2 := ⟨.inl ⟨rfl, rfl⟩, by rw [f2 _ (by omega)]; exact get_push_eq rfl, by omega⟩
  obtain ⟨l, p', h', g1, g2, g3, g4⟩ := nodes_loop (F := F) (g := g) (n := n) hF hn (kd := v) F [0] _ h.n (p + 1) h2 r2 (by omega) w (by omega) (by omega) (by simp) (by simp; omega) (by simp; omega) fun j e hj => by
    cases j with
    | zero => simp at hj; omega
    | succ j => simp at hj
  refine ⟨l, p', h', g1, by omega, ?_, g4⟩
  delta c_spec_l91Nodes
  rw [show ∀ k : AV → H → Option R, aBuildSlice 1 1 [(0, 1, nI 0)] h k = k (.leaf (.sl h.n 0 1 1)) (h.push (.cells 0 [nI 0])) from fun k => rfl, e2, bindR_some']
  exact g3

theorem sadd (l l' : List Nat) (hl : l.length + l'.length < 100000) (h : H) (k : AV → H → Option R) : aSAdd (.str l l.length) (.str l' l'.length) h k = k (.str (l ++ l') (l ++ l').length) h := by
  show bc (Nat.ble (Nat.add l.length l'.length) strMax) (k (.str (appL l l') (Nat.add l.length l'.length)) h) none = _
  have := strMax_eq
  rw [ble_true (show Nat.add l.length l'.length ≤ strMax by show l.length + l'.length ≤ strMax; omega), bc_true, appL_eq, List.length_append]; rfl

/-- A row of texts that has just been made: one of it is drawn. -/
theorem of_ok (r : Rdr b m L Q p h) (hp : p < 900000) {D c : Nat} {xs : List AV} (hD : h.get D = .cells 0 xs) (hDQ : D ≠ Q) (hc : xs.length = c) (hc0 : 0 < c) (hc1 : c < 100) (hxs : ∀ a ∈ xs, ∃ l, a = .str l l.length ∧ l.length < 100 ∧ l ≠ []) :
    ∃ l h', (l.length < 100 ∧ l ≠ []) ∧ c_spec_l6Rd_of F g (.ptr Q 0) (.leaf (.sl D 0 c c)) h = some (.str l l.length, h') ∧ Rdr b m L Q (p + 1) h' := by
  obtain ⟨v, h2, hv, e2, r2, n2, f2⟩ := r.pick (F := F) (g := g) (n := c) (by omega) (by omega)
  have hvc : v < c := by omega
  obtain ⟨l, hl, hll⟩ := hxs _ (List.getElem_mem (show v < xs.length by omega))
  refine ⟨l, h2, hll, ?_, r2⟩
  delta c_spec_l6Rd_of
  rw [show ∀ k : AV → H → Option R, aLenK 1 (.leaf (.sl D 0 c c)) h k = k (nI c) h from fun k => rfl, e2, bindR_some']
  rw [show ∀ k : AV → H → Option R, aIdxAddr 1 (.leaf (.sl D 0 c c)) (nI v) h2 k = k (.ptr D (0 + v * 1)) h2 from fun k => by
    show bc (Nat.ble (Nat.succ v) c) (k (.ptr D (Nat.add 0 (Nat.mul v 1))) h2) none = _
    rw [ble_true (show Nat.succ v ≤ c from hvc)]; rfl]
  rw [load_at (fl := 0) (l := xs) (a := .str l l.length) (by rw [f2 D hDQ]; exact hD) (by rw [nthO_eq, Nat.zero_add, Nat.mul_one, List.getElem?_eq_getElem (by omega), hl])]

theorem tree_ok' (r : Rdr b m L Q p h) (hF : 10000 < F) (hn : n ≤ 40) (hp : p < 90000) : ∃ l p' h', (l.length ≤ 300 ∧ (isTree l = true → l.length ≤ 2 * max n 1)) ∧ p' ≤ p + 300 ∧ c_spec_l91Tree F g (.ptr Q 0) (nI n) h = some (.str l l.length, h') ∧ Rdr b m L Q p' h' := by
  obtain ⟨v, h1, hv, e1, r1, n1, f1⟩ := r.pick (F := F) (g := g) (n := n) (by omega) (by omega)
  obtain ⟨l, p2, h2, g1, g2, g3, r2⟩ := nodes_ok (F := F) (g := g) (n := 1 + v) r1 hF (by omega) (by omega)
  obtain ⟨v3, h3, hv3, e3, r3, n3, f3⟩ := r2.pick (F := F) (g := g) (n := 40) (by omega) (by omega)
  have hq := r3.lt
  have hq0 := r3.q0
  by_cases h0 : v3 = 0
  · obtain ⟨h4, hh4⟩ : ∃ h4, h3.push (.cells 0 [.str [40, 41] 2, .str [40] 1, .str [41] 1, .str [120] 1]) = h4 := ⟨_, rfl⟩
    have g4 : h4.get h3.n = .cells 0 [.str [40, 41] 2, .str [40] 1, .str [41] 1, .str [120] 1] := by rw [← hh4]; exact get_push_eq rfl
    have r4 : Rdr b m L Q (p2 + 1) h4 := r3.later (by rw [← hh4]; exact get_push_lt (by omega)) (by rw [← hh4]; exact get_push_lt hq) (by rw [← hh4]; exact Nat.le_succ _) (by rw [← hh4]; exact r3.lo)
    obtain ⟨l', h5, k1, k2, k3⟩ := of_ok (F := F) (g := g) r4 (by omega) g4 (by omega) (c := 4) rfl (by omega) (by omega) fun a ha => by
      simp only [List.mem_cons, List.mem_nil_iff, or_false] at ha
      rcases ha with rfl | rfl | rfl | rfl
      · exact ⟨[40, 41], rfl, by simp, by simp⟩
      · exact ⟨[40], rfl, by simp, by simp⟩
      · exact ⟨[41], rfl, by simp, by simp⟩
      · exact ⟨[120], rfl, by simp, by simp⟩
    refine ⟨l ++ l', p2 + 1 + 1, h5, ⟨by simp; omega, fun hT => ?_⟩, by omega, ?_, k3⟩
    · rw [no_tree_app (by intro h; rw [h] at g1; simp at g1) g1.2.2 k1.2] at hT; cases hT
    delta c_spec_l91Tree
    rw [e1, bindR_some', addN (by omega), g3, bindR_some', e3, bindR_some', eqlN, withBool_bool, show Nat.beq v3 0 = true by subst h0; rfl, bc_true]
    rw [show ∀ k : AV → H → Option R, aBuildSlice 4 1 [(0, 1, (AV.str [40, 41] 2)), (1, 1, (AV.str [40] 1)), (2, 1, (AV.str [41] 1)), (3, 1, (AV.str [120] 1))] h3 k = k (.leaf (.sl h3.n 0 4 4)) (h3.push (.cells 0 [.str [40, 41] 2, .str [40] 1, .str [41] 1, .str [120] 1])) from fun k => rfl, hh4, k2, bindR_some', sadd _ _ (by omega)]
  · refine ⟨l, p2 + 1, h3, ⟨by omega, fun _ => by omega⟩, by omega, ?_, r3⟩
    delta c_spec_l91Tree
    rw [e1, bindR_some', addN (by omega), g3, bindR_some', e3, bindR_some', eqlN, withBool_bool, show Nat.beq v3 0 = false by rw [beq_decide, decide_eq_false_iff_not]; exact h0, bc_false]
end

theorem open_ok {F g : Nat} {a : AV} {c : Nat} {L : List AV} {h : H} (ha : (a = .leaf .nils ∧ c = 0) ∨ a = .osl 1 0 c 1) (h0 : 0 < c → ∃ fl, h.get 1 = .cells fl L) (hb : ∀ i, i < c → ∃ v, L[i]? = some (.int 4 (.ofNat v)) ∧ v < 256) (hn : 2 ≤ h.n) (hlo : 2 ≤ h.lo) :
    ∃ b m h', c_spec_l6Open F g a h = some (.ptr h.n 0, h') ∧ Rdr b m L h.n 0 h' ∧ h'.n = h.n + 1 := by
  have j : ∀ q, c_spec_l6Open_j1 F g [.osl 1 0 q 1] h = some (.ptr h.n 0, h.push (.cells 0 [.osl 1 0 q 1, nI 0])) := fun q => rfl
  have mk : ∀ b m, (b = .leaf .nils ∧ m = 0) ∨ b = .osl 1 0 m 1 → m ≤ c → m ≤ 2000 → Rdr b m L h.n 0 (h.push (.cells 0 [b, nI 0])) := fun b m hw hmc hm2 =>
    ⟨⟨hw, fun hm => by rw [get_push_lt (by omega)]; exact h0 (by omega), fun i hi => hb i (by omega)⟩, get_push_eq rfl, hn, Nat.lt_succ_self _, hlo, hm2⟩
  rcases ha with ⟨rfl, rfl⟩ | rfl
  · exact ⟨.leaf .nils, 0, _, rfl, mk _ _ (.inl ⟨rfl, rfl⟩) (by omega) (by omega), rfl⟩
  · by_cases hc : 2000 < c
    · refine ⟨.osl 1 0 2000 1, 2000, _, ?_, mk _ _ (.inr rfl) (by omega) (by omega), rfl⟩
      delta c_spec_l6Open
      rw [leOsl, gtrN, withBool_bool, ble_true (show Nat.succ 2000 ≤ c from hc), bc_true]
      rw [show ∀ k : AV → H → Option R, aSliceV 1 (.osl 1 0 c 1) none (some (.int 3 (.ofNat 2000))) none h k = k (.osl 1 0 2000 1) h from fun k => by
        show bc (Nat.ble 0 2000) (bc (Nat.ble 2000 c) (bc (Nat.beq 1 1) (k (.osl 1 (Nat.add 0 (Nat.mul 0 1)) (Nat.sub 2000 0) 1) h) none) none) none = _
        rw [ble_true (show 2000 ≤ c by omega)]; rfl]
      exact j _
    · refine ⟨.osl 1 0 c 1, c, _, ?_, mk _ _ (.inr rfl) (by omega) (by omega), rfl⟩
      delta c_spec_l6Open
      rw [leOsl, gtrN, withBool_bool, ble_false (show c < Nat.succ 2000 by omega), bc_false]
      exact j _

end
end Go.AI

/- A text and a node. -/
namespace Go.AI
open Go Go.RowKit
noncomputable section
set_option linter.unusedVariables false
set_option linter.unusedSimpArgs false
set_option maxRecDepth 100000
theorem node_ok {F g : Nat} {a : AV} {c : Nat} {L : List AV} {h : H} (hF : 10000 < F) (ha : (a = .leaf .nils ∧ c = 0) ∨ a = .osl 1 0 c 1) (h0 : 0 < c → ∃ fl, h.get 1 = .cells fl L) (hb : ∀ i, i < c → ∃ v, L[i]? = some (.int 4 (.ofNat v)) ∧ v < 256) (hn : 2 ≤ h.n) (hlo : 2 ≤ h.lo) :
    ∃ l z h', (l.length ≤ 300 ∧ (isTree l = true → l.length ≤ 16)) ∧ (z = .negSucc 0 ∨ ∃ j, z = .ofNat j ∧ j ≤ l.length / 2) ∧ c_spec_l91Node F g a h = some (.one .tup (.cons (.str l l.length) (.cons (.int 3 z) (.leaf .nil))), h') ∧ 2 ≤ h'.lo := by
  obtain ⟨b, m, h1, e1, r1, _⟩ := open_ok (F := F) (g := g) ha h0 hb hn hlo
  obtain ⟨l, p', h2, g1, g2, g3, r2⟩ := tree_ok' (F := F) (g := g) (n := 8) r1 hF (by omega) (by omega)
  have g1' : l.length ≤ 300 ∧ (isTree l = true → l.length ≤ 16) := g1
  obtain ⟨a3, h3, hv3, e3, r3, _, _⟩ := r2.pick (F := F) (g := g) (n := 24) (by omega) (by omega)
  obtain ⟨a4, h4, hv4, e4, r4, _, _⟩ := r3.pick (F := F) (g := g) (n := l.length / 2 + a3 / 23) (by omega) (by omega)
  obtain ⟨a5, h5, hv5, e5, r5, _, _⟩ := r4.pick (F := F) (g := g) (n := 24) (by omega) (by omega)
  have hlen : ∀ (h : H) (k : AV → H → Option R), aLenK 0 (.str l l.length) h k = k (nI l.length) h := fun h k => rfl
  have run : ∃ z, (z = .negSucc 0 ∨ ∃ j, z = .ofNat j ∧ j ≤ l.length / 2) ∧ ∀ (h : H) (k : AV → H → Option R), aArith isub (nI a4) (nI (a5 / 23)) h k = k (.int 3 z) h := by
    by_cases h01 : a5 / 23 ≤ a4
    · exact ⟨.ofNat (a4 - a5 / 23), .inr ⟨_, rfl, by omega⟩, fun h k => subN h01 (by omega)⟩
    · obtain rfl : a4 = 0 := by omega
      have h1 : a5 / 23 = 1 := by omega
      exact ⟨.negSucc 0, .inl rfl, fun h k => by rw [h1]; rfl⟩
  obtain ⟨z, hz, hrun⟩ := run
  refine ⟨l, z, h5, g1', hz, ?_, r5.lo⟩
  delta c_spec_l91Node C_spec_l91Node
  rw [e1, bindR_some', show AV.int 3 (Int.ofNat 8) = nI 8 from rfl, g3, bindR_some', hlen, show AV.int 3 (Int.ofNat 2) = nI 2 from rfl, quoN (by omega) (by omega), show AV.int 3 (Int.ofNat 24) = nI 24 from rfl, e3, bindR_some', show AV.int 3 (Int.ofNat 23) = nI 23 from rfl, quoN (by omega) (by omega), addN (by omega), e4, bindR_some', e5, bindR_some', quoN (by omega) (by omega), hrun]
end
end Go.AI

/- Laws over a code: the memory that the call begins with, and calls whose answer holds no memory. -/
namespace Go.AI
open Go Go.RowKit
noncomputable section
set_option linter.unusedVariables false
set_option linter.unusedSimpArgs false
variable {P : Program}

/-- A call that has written nothing old and answers with no memory: what it made is forgotten. -/
theorem Tri.quiet {f : FuncId} {args : List AV} {h : H} {r : R} (T : Tri P f args h.mark r) (hp : r.1.plain = true) (hlo : h.n ≤ r.2.lo) : Tri P f args h (r.1, h) :=
  ⟨T.can, fun ι w vs hR hV => (T.run ι w vs hR.mark hV).mono fun e w' ⟨x, ι', he, hx, hE, _⟩ => by
    have hb := Ext.quiet hR hE hlo
    exact ⟨x, ι, he, plain_mono hp hx, Ext.of_below hR hb, hR.grow hb⟩⟩
def quietC (c : AV → H → Option R) (a0 : AV) (h : H) : Option R := onSome (c a0 h.mark) fun r => bc r.1.plain (bc (Nat.ble h.n r.2.lo) (some (r.1, h)) none) none
theorem quietC_sound {f : FuncId} {c : AV → H → Option R} (hs : ∀ args h r, u1 c args h = some r → Tri P f args h r) : ∀ args h r, u1 (quietC c) args h = some r → Tri P f args h r := by
  intro args h r e
  obtain ⟨a0, rfl, e1⟩ := u1_some e
  obtain ⟨r1, h1, e2⟩ := onSome_some e1
  obtain ⟨h2, e3⟩ := bif_some e2
  obtain ⟨h3, e4⟩ := bif_some e3
  cases e4
  exact Tri.quiet (hs [a0] h.mark r1 h1) h2 (Nat.le_of_ble_eq_true h3)
theorem quietC_ok {c : AV → H → Option R} {a0 x : AV} {h h' : H} (e : c a0 h.mark = some (x, h')) (hp : x.plain = true) (hlo : h.n ≤ h'.lo) : quietC c a0 h = some (x, h) := by
  unfold quietC; rw [e]
  show bc x.plain (bc (Nat.ble h.n h'.lo) (some (x, h)) none) none = _
  rw [hp, ble_true hlo]; rfl

/-- The memory that a law's call begins with: a package's variable (number 0) that holds a type's handle; the code's bytes, if there are any. -/
def pinB : Blk := .cells 8596291627 [.undef]
def hCode (B : Blk) : H := ⟨2, .n (.n .e B .e) pinB .e, 2⟩
theorem hCode_pin (B : Blk) : (hCode B).get 0 = pinB := rfl
theorem hCode_get (B : Blk) : (hCode B).get 1 = B := rfl
theorem hCode_dead (B : Blk) (c : Nat) (h0 : c ≠ 0) (hc : c ≠ 1) : (hCode B).get c = .dead := by
  obtain ⟨c, rfl⟩ : ∃ d, c = d + 2 := ⟨c - 2, by omega⟩
  show (Tr.n (.n .e B .e) pinB .e).get (c + 1 + 1) = _
  rw [Tr.get_succ]
  split
  · obtain ⟨e, he⟩ : ∃ e, (c + 1) / 2 = e + 1 := ⟨(c + 1) / 2 - 1, by omega⟩
    show (Tr.n .e B .e).get ((c + 1) / 2) = _
    rw [he, Tr.get_succ]; split <;> rfl
  · rfl

theorem code_true {f : FuncId} {a0 : AV} {B : Blk} {h' : H} {ι : Inj} {w : World} {v : Value} (T : Tri P f [a0] (hCode B) (.bool true, h')) (hB : ¬ B.own) (hr : Rel ι (hCode B) w) (hv : VR ι a0 v) :
    Calls P f #[v] w fun e w' => e = .returned (.bool true) ∧ Below w.heap.size w w' :=
  (T.run ι w [v] hr (.cons hv .nil)).mono fun e w' ⟨x, ι', he, hV, hE, _⟩ => ⟨by rw [he, hV.bool], hE.os, hE.tape, hE.output, hE.size, fun C hC => hE.block C hC fun ⟨b, o, s, e, ho⟩ => by
    by_cases h0 : b = 0
    · subst h0; have ho : 8596291627 < 2 := ho; omega
    by_cases hb : b = 1
    · subst hb; exact hB ho
    · rw [hCode_dead B b h0 hb] at ho; exact ho⟩

/-- What a law over a code needs: that it is true whatever the code. -/
def CodeLaw (c : AV → H → Option R) : Prop := ∀ (a0 : AV) (n : Nat) (L : List AV) (B : Blk), ((a0 = .leaf .nils ∧ n = 0) ∨ a0 = .osl 1 0 n 1) → (0 < n → B = .cells 2 L) → (∀ i, i < n → ∃ v, L[i]? = some (.int 4 (.ofNat v)) ∧ v < 256) → ∃ h', c a0 (hCode B) = some (.bool true, h')

theorem wf_u8 {n : Int} (h : (Lit.int .u8 n).wf = true) : ∃ v : Nat, n = .ofNat v ∧ v < 256 := by
  have h : IntKind.u8.min ≤ n ∧ n ≤ IntKind.u8.max := by simpa [Lit.wf] using h
  have h1 : (0 : Int) ≤ n := h.1
  have h2 : n ≤ (255 : Int) := h.2
  exact ⟨n.toNat, by show n = ((n.toNat : Nat) : Int); omega, by omega⟩

/-- The memory of the call, where its code is at a place. -/
theorem codeRel {w : World} (hg : w.cell? ⟨0, 0, none⟩ = some (.iface 97 (.agg #[.pointer (some ⟨2, 39, none⟩)]))) {B : Blk} (x : Option (Nat × Nat × Nat)) (hx : ∀ C o s, x = some (C, o, s) → C < w.heap.size) (hB : B = .dead ∨ ∃ C o s l, x = some (C, o, s) ∧ B = .cells 2 l ∧ BlkR (fun _ => none) B o s w.heap[C]? ) (hl : ∀ l, B = .cells 2 l → ∀ a ∈ l, a.plain = true) :
    ∃ ι, Rel ι (hCode B) w ∧ ι 1 = x := by
  obtain ⟨c, el, fr, heq, hs⟩ := cells_of_cell hg
  let ι : Inj := fun b => if b = 0 then some (0, 0, c.size) else if b = 1 then x else none
  have h0 : ι 0 = some (0, 0, c.size) := rfl
  have h1 : ι 1 = x := rfl
  have hn : ∀ b, b ≠ 0 → b ≠ 1 → ι b = none := fun b h0 h1 => by show (if b = 0 then _ else if b = 1 then x else none) = _; rw [if_neg h0, if_neg h1]
  have free : ∀ b, ¬ ((hCode B).get b).own := fun b ho => by
    by_cases hb : b = 0
    · subst hb; have ho : 8596291627 < 2 := ho; omega
    by_cases hb1 : b = 1
    · subst hb1
      rcases hB with rfl | ⟨_, _, _, l, _, rfl, _⟩
      · exact ho
      · have ho : 2 < 2 := ho; omega
    · rw [hCode_dead B b hb hb1] at ho; exact ho
  refine ⟨ι, ?_, h1⟩
  exact {
    fresh := fun b y e => by
      by_cases hb : b = 0
      · subst hb; show 0 < 2; omega
      by_cases hb1 : b = 1
      · subst hb1; show 1 < 2; omega
      · rw [hn b hb hb1] at e; cases e
    lt := fun b C o s e => by
      by_cases hb : b = 0
      · subst hb; rw [h0] at e; cases e; exact (Array.getElem?_eq_some_iff.1 heq).1
      by_cases hb1 : b = 1
      · subst hb1; rw [h1] at e; exact hx _ _ _ e
      · rw [hn b hb hb1] at e; cases e
    inj := fun b _ _ _ _ _ _ hb => absurd hb (free b)
    blk := fun b hb => by
      by_cases hb0 : b = 0
      · subst hb0
        refine ⟨0, 0, c.size, h0, c, el, fr.1, fr.2, heq, rfl, fun i a hi => ?_, fun h => absurd h (by decide), fun h => absurd h (by decide)⟩
        have hi0 : i = 0 := by
          rcases i with _ | i
          · rfl
          · simp at hi
        subst hi0
        simp at hi
        subst hi
        exact ⟨c[0]'(by omega), by simp [hs], rfl⟩
      by_cases hb1 : b = 1
      · subst hb1
        rcases hB with rfl | ⟨C, o, s, l, hxe, rfl, hR⟩
        · exact absurd rfl hb
        · refine ⟨C, o, s, by rw [h1]; exact hxe, ?_⟩
          obtain ⟨cc, t, lo, hi, g1, g2, g3, g4, g5⟩ := hR
          refine ⟨cc, t, lo, hi, g1, g2, fun i a hi => ?_, g4, g5⟩
          obtain ⟨v, k1, k2⟩ := g3 i a hi
          exact ⟨v, k1, plain_mono (hl l rfl a (List.mem_of_getElem? hi)) k2⟩
      · exact absurd (hCode_dead B b hb0 hb1) hb
    pin := fun b r' e' hp => by
      by_cases hb0 : b = 0
      · subst hb0
        obtain ⟨he', l, hl⟩ := hp
        have hl : Blk.cells 8596291627 [.undef] = .cells (4 + (r' * 65536 + e')) l := hl
        injection hl with k1 k2
        have : r' = 131169 ∧ e' = 39 := by omega
        obtain ⟨rfl, rfl⟩ := this
        exact ⟨⟨c.size, h0⟩, hg⟩
      by_cases hb1 : b = 1
      · subst hb1
        obtain ⟨_, l, hl⟩ := hp
        rcases hB with rfl | ⟨_, _, _, l', _, rfl, _⟩
        · cases hl
        · have hl : Blk.cells 2 l' = .cells (4 + (r' * 65536 + e')) l := hl
          injection hl with k1 _
          omega
      · rw [hCode_dead B b hb0 hb1] at hp; exact absurd hp (Blk.dead_free _ _) }
theorem codeLaw_walk {f : FuncId} {c : AV → H → Option R} (hs : ∀ args h r, u1 c args h = some r → Tri P f args h r) (hc : CodeLaw c) {a : Option Addr} {len cap : Nat} {zs : List Int} {w : World} (hg : w.cell? ⟨0, 0, none⟩ = some (.iface 97 (.agg #[.pointer (some ⟨2, 39, none⟩)])))
    (hw : (a = none ∧ len = 0 ∧ cap = 0 ∧ zs = []) ∨ ∃ x, a = some x ∧ len ≤ cap ∧ cap ≤ maxLen ∧ zs.length = cap ∧ (∀ i, i < zs.length → w.cell? (x.add i) = some (.int .u8 (zs.getD i 0))) ∧ ∀ n ∈ zs, (Lit.int .u8 n).wf = true) :
    Calls P f #[.slice a len cap] w fun e w' => e = .returned (.bool true) ∧ Below w.heap.size w w' := by
  obtain ⟨ι0, r0, _⟩ := codeRel hg (B := .dead) none (fun _ _ _ e => by cases e) (.inl rfl) (fun _ e => by cases e)
  rcases hw with ⟨rfl, rfl, rfl, rfl⟩ | ⟨x, rfl, hlc, hmax, hz, hcell, hwf⟩
  · obtain ⟨h', e⟩ := hc (.leaf .nils) 0 [] .dead (.inl ⟨rfl, rfl⟩) (by omega) (by omega)
    exact code_true (hs [.leaf .nils] _ _ e) (fun h => h) r0 rfl
  by_cases hc0 : cap = 0
  · obtain rfl : len = 0 := by omega
    subst hc0
    obtain ⟨h', e⟩ := hc (.osl 1 0 0 1) 0 [] .dead (.inr rfl) (by omega) (by omega)
    exact code_true (hs [.osl 1 0 0 1] _ _ e) (fun h => h) r0 ⟨x, 0, rfl, Nat.le_refl _, .inl rfl⟩
  -- the row lies in a block
  have hc1 := hcell 0 (by omega)
  obtain ⟨B, off, spot⟩ := x
  have hsp : spot = none := by
    have h1 : w.cell? ⟨B, off, spot⟩ = some (.int .u8 (zs.getD 0 0)) := hc1
    cases spot with
    | none => rfl
    | some s =>
      exfalso
      unfold World.cell? at h1
      split at h1
      · simp at h1
      · cases h1
  subst hsp
  have hcell' : ∀ i, i < zs.length → w.cell? ⟨B, off + i, none⟩ = some (.int .u8 (zs.getD i 0)) := fun i hi => by rw [← addr_add]; exact hcell i hi
  obtain ⟨cc, ty, lo, hi, hB⟩ : ∃ cc ty lo hi, w.heap[B]? = some (.cells cc ty (lo, hi)) := by
    have h1 := hcell' 0 (by omega)
    unfold World.cell? at h1
    split at h1
    · rename_i c t fr hh; exact ⟨c, t, fr.1, fr.2, hh⟩
    · cases h1
  have hcc : ∀ i, i < zs.length → cc[off + i]? = some (.int .u8 (zs.getD i 0)) := fun i hi => by rw [← cell_row hB]; exact hcell' i hi
  have hsz : off + cap ≤ cc.size := by
    have := (Array.getElem?_eq_some_iff.1 (hcc (cap - 1) (by omega))).1
    omega
  have hL : ∀ i, i < zs.length → ∃ v, (zs.map fun z => AV.int 4 z)[i]? = some (.int 4 (.ofNat v)) ∧ v < 256 := fun i hi => by
    obtain ⟨v, hv, hv2⟩ := wf_u8 (hwf _ (List.getElem_mem hi))
    exact ⟨v, by rw [List.getElem?_map, List.getElem?_eq_getElem hi, hv]; rfl, hv2⟩
  obtain ⟨h', e⟩ := hc (.osl 1 0 len 1) len (zs.map fun z => AV.int 4 z) (.cells 2 (zs.map fun z => AV.int 4 z)) (.inr rfl) (fun _ => rfl) (fun i hi => hL i (by omega))
  have hlt : B < w.heap.size := (Array.getElem?_eq_some_iff.1 hB).1
  obtain ⟨ι, r1, hι⟩ := codeRel hg (B := .cells 2 (zs.map fun z => AV.int 4 z)) (some (B, off, cc.size)) (fun _ _ _ e => by cases e; exact hlt)
    (.inr ⟨B, off, cc.size, _, rfl, rfl, cc, ty, lo, hi, hB, rfl, fun i a hi => by
        rw [List.getElem?_map] at hi
        cases hz' : zs[i]? with
        | none => rw [hz'] at hi; cases hi
        | some z =>
          rw [hz'] at hi
          cases hi
          have hil := (List.getElem?_eq_some_iff.1 hz').1
          refine ⟨_, hcc i hil, ?_⟩
          have : zs.getD i 0 = z := by rw [List.getD_eq_getElem?_getD, hz']; rfl
          rw [this]; exact (rfl : VX _ (.int 4 z) [.int (kd 4) z]), fun h => absurd h (by decide), fun h => absurd h (by decide)⟩)
    (fun l e a ha => by cases e; obtain ⟨z, _, rfl⟩ := List.mem_map.1 ha; rfl)
  exact code_true (hs [.osl 1 0 len 1] _ _ e) (show ¬ (2 < 2) by omega) r1 ⟨⟨B, off, none⟩, cap, rfl, hlc, .inr ⟨B, off, cc.size, hι, by simp, by omega⟩⟩
end
end Go.AI

namespace Go.AI.T
open Go Go.RowKit Go.AI
noncomputable section
set_option linter.unusedVariables false
set_option linter.unusedSimpArgs false
set_option maxRecDepth 100000

/-- The specification's TreeIn: what it tells, at once. -/
def c_spec_TreeIn (F g : Nat) (a0 : AV) (h : H) : Option R := withStr a0 fun l n => bc (Nat.beq (lenL l) n) (some (.bool (isTree l), h)) none
theorem s_spec_TreeIn (F g : Nat) : ∀ args h r, u1 (c_spec_TreeIn F g) args h = some r → Tri Go.Proofs.Tryd.prog id_spec_TreeIn args h r := by
  intro args h r e
  obtain ⟨a0, rfl, e1⟩ := u1_some e
  obtain ⟨l, n, rfl, e2⟩ := withStr_some e1
  obtain ⟨hn, e3⟩ := bif_some e2
  have hn := Nat.eq_of_beq_eq_true hn
  rw [lenL_eq] at hn
  cases ht : isTree l with
  | false => rw [ht] at e3; cases e3; exact Go.AI.s_spec_TreeIn 100 0 [.str l n] h _ (Go.AI.spec_bad (F := 100) (g := 0) l n hn (by omega) ht h)
  | true => rw [ht] at e3; cases e3; exact Go.AI.s_spec_TreeIn 100 0 [.str l n] h _ (Go.AI.spec_good (F := 100) (g := 0) l n hn (by omega) ht h)

/-- The program's readTree: where the text is no tree it is read as none, and nothing of what it made is left. -/
def c_impl_readTree (F g : Nat) (a0 : AV) (h : H) : Option R := withStr a0 fun l n => bc (isTree l) (Go.AI.c_impl_readTree 100 g a0 h) (bc (Nat.beq (lenL l) n) (bc (Nat.ble n 4611686018427387904) (some (noTree, h)) none) none)
theorem s_impl_readTree (F g : Nat) : ∀ args h r, u1 (c_impl_readTree F g) args h = some r → Tri Go.Proofs.Tryd.prog id_impl_readTree args h r := by
  intro args h r e
  obtain ⟨a0, rfl, e1⟩ := u1_some e
  obtain ⟨l, n, rfl, e2⟩ := withStr_some e1
  cases ht : isTree l with
  | true => rw [ht, bc_true] at e2; exact Go.AI.s_impl_readTree 100 g [.str l n] h r e2
  | false =>
    rw [ht, bc_false] at e2
    obtain ⟨hn, e3⟩ := bif_some e2
    obtain ⟨hm, e4⟩ := bif_some e3
    have hn := Nat.eq_of_beq_eq_true hn
    have hm := Nat.le_of_ble_eq_true hm
    rw [lenL_eq] at hn
    cases e4
    obtain ⟨h', eb⟩ := Go.AI.read_bad (F := n + 1) (g := g) l n hn (by omega) (by omega) ht H0
    exact Tri.forget (Go.AI.s_impl_readTree (n + 1) g [.str l n] H0 _ eb) (fun a hm => by cases hm with | head => rfl | tail _ hm => cases hm) rfl h

theorem spec_bad {F g : Nat} {l : List Nat} {n : Nat} (hn : lenL l = n) (ht : isTree l = false) (h : H) : c_spec_TreeIn F g (.str l n) h = some (.bool false, h) := by
  show bc (Nat.beq (lenL l) n) (some (AV.bool (isTree l), h)) none = _
  rw [hn, Nat.beq_refl, ht]; rfl
theorem spec_good {F g : Nat} {l : List Nat} {n : Nat} (hn : lenL l = n) (ht : isTree l = true) (h : H) : c_spec_TreeIn F g (.str l n) h = some (.bool true, h) := by
  show bc (Nat.beq (lenL l) n) (some (AV.bool (isTree l), h)) none = _
  rw [hn, Nat.beq_refl, ht]; rfl
theorem read_bad {F g : Nat} {l : List Nat} {n : Nat} (hn : lenL l = n) (hm : n ≤ 1048576) (ht : isTree l = false) (h : H) : c_impl_readTree F g (.str l n) h = some (.one .tup (.cons (.leaf .nilp) (.cons (.bool false) (.leaf .nil))), h) := by
  show bc (isTree l) _ (bc (Nat.beq (lenL l) n) (bc (Nat.ble n 4611686018427387904) (some (noTree, h)) none) none) = _
  rw [hn, Nat.beq_refl, ht, ble_true (by omega)]; rfl

theorem aNot_b {α : Type} (b : Bool) (h : H) (k : AV → H → Option α) : aNot (.bool b) h k = k (.bool (bnot b)) h := rfl
theorem bnot_t : bnot true = false := rfl
theorem bnot_f : bnot false = true := rfl

/-- A call told true. -/
def tells (x : Option R) : Bool := @Option.rec R (fun _ => Bool) false (fun r => r.1.onBool false id) x
theorem tells_some {x : Option R} (e : tells x = true) : ∃ h', x = some (.bool true, h') := by
  cases x with
  | none => cases e
  | some r =>
    obtain ⟨v, h'⟩ := r
    cases v <;> first | (cases e; done) | skip
    rename_i b
    have e : b = true := e
    subst e; exact ⟨h', rfl⟩
end
end Go.AI.T
