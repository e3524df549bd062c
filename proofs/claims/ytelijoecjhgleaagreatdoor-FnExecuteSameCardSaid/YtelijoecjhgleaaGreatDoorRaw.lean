/- The functions that read texts, and what they tell of every text. -/
import Derived.Test.YtelijoecjhgleaaGreatDoorAi2
import Derived.Test.YtelijoecjhgleaaGreatDoorProg
import Derived.KernelRfl
set_option linter.unusedVariables false
set_option linter.unusedSimpArgs false
set_option maxRecDepth 100000
namespace Go.AI
abbrev id_laws_FnExecuteSame:Nat:=3
abbrev id_spec_DrawCountSame:Nat:=4
abbrev id_impl_CountSame:Nat:=5
abbrev id_spec_CountSame:Nat:=6
abbrev id_impl_TreeNodes:Nat:=7
abbrev id_impl_Execute:Nat:=8
abbrev id_laws_digits:Nat:=9
abbrev id_spec_l91Some:Nat:=10
abbrev id_impl_countsIn:Nat:=11
abbrev id_impl_node_swaps:Nat:=12
abbrev id_impl_productOf:Nat:=13
abbrev id_spec_TreeIn:Nat:=14
abbrev id_spec_l4Same:Nat:=15
abbrev id_impl_readTree:Nat:=16
abbrev id_impl_node_nodes:Nat:=17
abbrev id_impl_workbench_answer:Nat:=19
abbrev id_spec_l91Tree:Nat:=21
abbrev id_spec_l6Open:Nat:=22
abbrev id_impl_node_counts:Nat:=23
abbrev id_impl_TreeSorted:Nat:=24
abbrev id_impl_node_text:Nat:=25
abbrev id_spec_l1End:Nat:=26
abbrev id_spec_l1Kids:Nat:=27
abbrev id_spec_l1Sorted:Nat:=28
abbrev id_impl_node_add:Nat:=29
abbrev id_impl_workbench_answer_d1:Nat:=31
abbrev id_impl_workbench_carryOut:Nat:=32
abbrev id_spec_l91Nodes:Nat:=34
abbrev id_spec_l6Rd_pick:Nat:=35
abbrev id_spec_l6Rd_of:Nat:=36
abbrev id_impl_node_counts_d1:Nat:=38
abbrev id_impl_node_sendCounts:Nat:=40
abbrev id_impl_node_sort:Nat:=42
abbrev id_spec_l1Of:Nat:=43
abbrev id_impl_bareWords:Nat:=48
abbrev id_impl_textWords:Nat:=49
abbrev id_impl_numberWords:Nat:=50
abbrev id_impl_restNumber:Nat:=51
abbrev id_spec_l3Tree:Nat:=53
abbrev id_impl_compareTexts:Nat:=73
abbrev id_impl_workbench_plant:Nat:=79
abbrev id_impl_workbench_turned:Nat:=80
abbrev id_impl_workbench_sorted:Nat:=81
abbrev id_impl_workbench_next:Nat:=82
abbrev id_impl_workbench_free:Nat:=83
abbrev id_impl_workbench_leafless:Nat:=84
abbrev id_impl_workbench_pairs:Nat:=85
abbrev id_impl_workbench_back:Nat:=86
abbrev id_impl_workbench_show:Nat:=87
abbrev id_impl_workbench_leaves:Nat:=88
abbrev id_impl_workbench_height:Nat:=89
abbrev id_impl_workbench_up:Nat:=90
abbrev id_impl_workbench_levels:Nat:=91
abbrev id_impl_workbench_wide:Nat:=92
abbrev id_impl_workbench_number:Nat:=93
abbrev id_impl_workbench_place:Nat:=94
abbrev id_impl_workbench_same:Nat:=95
abbrev id_impl_workbench_orders:Nat:=96
abbrev id_impl_workbench_rising:Nat:=97
abbrev id_impl_workbench_named:Nat:=98
abbrev id_impl_workbench_paths:Nat:=99
abbrev id_impl_workbench_spread:Nat:=100
abbrev id_impl_workbench_streams:Nat:=101
abbrev id_impl_workbench_counts:Nat:=102
abbrev id_impl_workbench_registers:Nat:=103
abbrev id_impl_workbench_centre:Nat:=104
abbrev id_impl_workbench_middle:Nat:=105
abbrev id_impl_workbench_loads:Nat:=106
abbrev id_impl_workbench_tops:Nat:=107
abbrev id_impl_workbench_pieces:Nat:=108
abbrev id_impl_workbench_cuts:Nat:=109
abbrev id_impl_workbench_freest:Nat:=110
abbrev id_impl_workbench_matching:Nat:=111
abbrev id_impl_workbench_uneven:Nat:=112
abbrev id_impl_workbench_deep:Nat:=113
abbrev id_impl_workbench_tree:Nat:=114
abbrev id_impl_workbench_join:Nat:=115
abbrev id_impl_workbench_alike:Nat:=116
abbrev id_impl_workbench_code:Nat:=117
abbrev id_impl_workbench_part:Nat:=118
abbrev id_impl_workbench_at:Nat:=119
abbrev id_impl_workbench_prune:Nat:=120
abbrev id_impl_workbench_turn:Nat:=121
abbrev id_impl_workbench_far:Nat:=122
abbrev id_impl_workbench_become:Nat:=140
abbrev id_impl_TreeOf:Nat:=141
abbrev id_impl_TreeTurned:Nat:=142
abbrev id_impl_LevelsNext:Nat:=143
abbrev id_impl_MiddleFree:Nat:=144
abbrev id_impl_CutLeaf:Nat:=145
abbrev id_impl_PairOf:Nat:=146
abbrev id_impl_PairBack:Nat:=147
abbrev id_impl_numberText:Nat:=148
abbrev id_impl_TreeLeaves:Nat:=149
abbrev id_impl_TreeHeight:Nat:=150
abbrev id_impl_listText:Nat:=151
abbrev id_impl_TreeUp:Nat:=152
abbrev id_impl_LevelsOf:Nat:=153
abbrev id_impl_LevelsWide:Nat:=154
abbrev id_impl_CodeOf:Nat:=155
abbrev id_impl_LevelsPlace:Nat:=156
abbrev id_impl_CountOrders:Nat:=157
abbrev id_impl_CountRising:Nat:=158
abbrev id_impl_CountNamed:Nat:=159
abbrev id_impl_CountPaths:Nat:=160
abbrev id_impl_CountSpread:Nat:=161
abbrev id_impl_StreamOrders:Nat:=162
abbrev id_impl_StreamCounts:Nat:=163
abbrev id_impl_StreamRegisters:Nat:=164
abbrev id_impl_MiddleCentre:Nat:=165
abbrev id_impl_MiddleOf:Nat:=166
abbrev id_impl_MiddleLoads:Nat:=167
abbrev id_impl_CutTops:Nat:=168
abbrev id_impl_CutPieces:Nat:=169
abbrev id_impl_CutCount:Nat:=170
abbrev id_impl_CutFree:Nat:=171
abbrev id_impl_CutMatch:Nat:=172
abbrev id_impl_PairUneven:Nat:=173
abbrev id_impl_PairDeep:Nat:=174
abbrev id_impl_TreeIn:Nat:=175
abbrev id_impl_CodeJoin:Nat:=176
abbrev id_impl_TreeAlike:Nat:=177
abbrev id_impl_CodeTree:Nat:=178
abbrev id_impl_TreePart:Nat:=179
abbrev id_impl_MiddleAt:Nat:=180
abbrev id_impl_CutPrune:Nat:=181
abbrev id_impl_PairTurn:Nat:=182
abbrev id_impl_MiddleFar:Nat:=183
abbrev id_impl_node_turn:Nat:=202
abbrev id_impl_levelsInOrder:Nat:=203
abbrev id_impl_levels_next:Nat:=204
abbrev id_impl_levels_text:Nat:=205
abbrev id_impl_pairsOf:Nat:=208
abbrev id_impl_readPairs:Nat:=209
abbrev id_impl_childrenText:Nat:=210
abbrev id_impl_node_height:Nat:=211
abbrev id_impl_levels_wide:Nat:=212
abbrev id_impl_codeBook_ask:Nat:=213
abbrev id_impl_levels_place:Nat:=214
abbrev id_impl_allLevels:Nat:=215
abbrev id_impl_greatestFirst:Nat:=216
abbrev id_impl_node_rows:Nat:=217
abbrev id_impl_CountSizes:Nat:=218
abbrev id_impl_factorial:Nat:=219
abbrev id_impl_node_streamOrder:Nat:=220
abbrev id_impl_sumsByOrder:Nat:=221
abbrev id_impl_StreamCounts_d1:Nat:=222
abbrev id_impl_node_registers:Nat:=223
abbrev id_impl_leastNodes:Nat:=224
abbrev id_impl_node_reach:Nat:=225
abbrev id_impl_node_load:Nat:=226
abbrev id_impl_node_tops:Nat:=227
abbrev id_impl_CutCount_d1:Nat:=228
abbrev id_impl_freeIn_46f8:Nat:=230
abbrev id_impl_plus:Nat:=231
abbrev id_impl_greater:Nat:=232
abbrev id_impl_sumOfInner:Nat:=234
abbrev id_impl_inner_uneven:Nat:=235
abbrev id_impl_inner_leaves:Nat:=236
abbrev id_impl_TreeChildren:Nat:=237
abbrev id_impl_isCode:Nat:=238
abbrev id_impl_codeText:Nat:=239
abbrev id_impl_nodeIn:Nat:=240
abbrev id_impl_isNoNode:Nat:=241
abbrev id_impl_node_textAt:Nat:=242
abbrev id_impl_CutPrune_d1:Nat:=244
abbrev id_impl_node_root:Nat:=245
abbrev id_impl_turnedAt:Nat:=246
abbrev id_impl_node_distances:Nat:=247
abbrev id_impl_node_size:Nat:=249
abbrev id_impl_pairsIn:Nat:=265
abbrev id_impl_codeBook_code:Nat:=266
abbrev id_impl_firstLevels:Nat:=267
abbrev id_impl_node_children:Nat:=269
abbrev id_impl_node_ofChildren:Nat:=270
abbrev id_impl_node_streams:Nat:=271
abbrev id_impl_freeSets_46f8:Nat:=275
abbrev id_impl_primes:Nat:=277
abbrev id_impl_grown:Nat:=280
abbrev id_impl_distances_nearer:Nat:=281
abbrev id_impl_codeBook_prime:Nat:=288
abbrev id_impl_node_beginsStream:Nat:=292
abbrev id_impl_CodePrime:Nat:=302
abbrev id_impl_levels_isTree:Nat:=340
abbrev id_impl_inner_nodes:Nat:=341
abbrev id_impl_inner_text:Nat:=342
abbrev id_impl_lone_leaves:Nat:=346
abbrev id_impl_lone_nodes:Nat:=347
abbrev id_impl_lone_text:Nat:=348
abbrev id_impl_noNode_Error:Nat:=349
end Go.AI
namespace Go.AI
open Go Go.RowKit Go.AI
noncomputable section
noncomputable def c_spec_l1End_j1 (F g:Nat) (kc1:List AV->H->Option R) (vs:List AV) (h:H):Option R:=(fun x8 x9 x10=>aCmpI ieq x9 (AV.int 3 (Int.ofNat 0)) h fun x11 h=>withBool x11 fun t12=>bc t12 (aArith iadd x10 (AV.int 3 (Int.ofNat 1)) h fun x13 h=>some (x13,h)) (aCmpI ilt x9 (AV.int 3 (Int.ofNat 0)) h fun x14 h=>withBool x14 fun t15=>bc t15 (some ((AV.int 3 (Int.negSucc 0)),h)) (aArith iadd x10 (AV.int 3 (Int.ofNat 1)) h fun x16 h=>kc1 [x8,x9,x16] h))) (hd vs) (hd (tl vs)) (hd (tl (tl vs)))
noncomputable def c_spec_l1End_l2 (F g:Nat):List AV->H->(List AV->H->Option R)->Option R:=fun vs h kc1=>(fun x2 x3 x4=>aLenK 0 x2 h fun x5 h=>aCmpI ilt x4 x5 h fun x6 h=>withBool x6 fun t7=>bc t7 (aIdxStr x2 x4 h fun x17 h=>aCmpI ieq x17 (AV.int 4 (Int.ofNat 40)) h fun x18 h=>withBool x18 fun t19=>bc t19 (aArith iadd x3 (AV.int 3 (Int.ofNat 1)) h fun x20 h=>(c_spec_l1End_j1 F g kc1) [x2,x20,x4] h) (aCmpI ieq x17 (AV.int 4 (Int.ofNat 41)) h fun x21 h=>withBool x21 fun t22=>bc t22 (aArith isub x3 (AV.int 3 (Int.ofNat 1)) h fun x23 h=>(c_spec_l1End_j1 F g kc1) [x2,x23,x4] h) (some ((AV.int 3 (Int.negSucc 0)),h)))) (some ((AV.int 3 (Int.negSucc 0)),h))) (hd vs) (hd (tl vs)) (hd (tl (tl vs)))
noncomputable def c_spec_l1End (F g:Nat) (a0 a1:AV) (h:H):Option R:=loopD F (c_spec_l1End_l2 F g) [a0,(AV.int 3 (Int.ofNat 0)),a1] h
noncomputable def A_spec_l1End:An:=(.two .o (.two .o (.two (.two .o (.two (.at_ [0,5,6] (.two (.two .o (.two .o .o)) (.two (.two (.at_ [0,5,6] (.two .o (.two (.two .o (.two .o (.two .o (.two .o (.two .o .o))))) .o)) (.two (.two .o (.two (.two .o .o) .o)) (.two .o (.two (.two .o .o) .o)))) .o) .o)) .o) .o)) (.two .o .o))))
noncomputable def b_spec_l1End:Code:=bodyOf Go.Proofs.Tryz.f26
theorem k_spec_l1End (F g:Nat) (a0 a1:AV) (h:H):callD Go.Proofs.Tryz.prog (fun _ _ _=>none:Env) 31 F b_spec_l1End [4] A_spec_l1End [a0,a1] h=c_spec_l1End F g a0 a1 h:=by kernel_rfl
noncomputable def c_spec_TreeIn_j1 (F g:Nat) (vs:List AV) (h:H):Option R:=(fun x7 x8=>aPick x7 x8 (AV.bool false) h fun x9 h=>some (x9,h)) (hd vs) (hd (tl vs))
noncomputable def c_spec_TreeIn_j2 (F g:Nat) (vs:List AV) (h:H):Option R:=(fun x3 x4 x5=>aPick x4 x5 (AV.bool false) h fun x6 h=>guardB true x6 (bindR (c_spec_l1End F g x3 (AV.int 3 (Int.ofNat 0)) h) fun x10 h=>aLenK 0 x3 h fun x11 h=>aCmpI ieq x10 x11 h fun x12 h=>(c_spec_TreeIn_j1 F g) [x6,x12] h) ((c_spec_TreeIn_j1 F g) [x6,(AV.one .tup (AV.leaf .nil))] h)) (hd vs) (hd (tl vs)) (hd (tl (tl vs)))
noncomputable def c_spec_TreeIn (F g:Nat) (a0:AV) (h:H):Option R:=aLenK 0 a0 h fun x1 h=>aCmpI (fun a b=>ilt b a) x1 (AV.int 3 (Int.ofNat 0)) h fun x2 h=>guardB true x2 (aLenK 0 a0 h fun x13 h=>aCmpI ile x13 (AV.int 3 (Int.ofNat 18)) h fun x14 h=>(c_spec_TreeIn_j2 F g) [a0,x2,x14] h) ((c_spec_TreeIn_j2 F g) [a0,x2,(AV.one .tup (AV.leaf .nil))] h)
noncomputable def A_spec_TreeIn:An:=(.two .o (.two (.at_ [0,6,9] .o (.at_ [11,16] .o .o)) .o))
noncomputable def b_spec_TreeIn:Code:=bodyOf Go.Proofs.Tryz.f14
theorem k_spec_TreeIn (F g:Nat) (a0:AV) (h:H):callD Go.Proofs.Tryz.prog (Env.add (fun _ _ _=>none:Env) 26 (u2 (c_spec_l1End F g))) 18 F b_spec_TreeIn [2] A_spec_TreeIn [a0] h=c_spec_TreeIn F g a0 h:=by kernel_rfl
noncomputable def c_impl_node_add (F g:Nat) (a0 a1:AV) (h:H):Option R:=aBuild [(AV.int 3 (Int.ofNat 0)),(AV.leaf .nilp),(AV.leaf .nils)] [(0,1,a1),(1,1,a0)] h fun x1 h=>aBox x1 h fun x2 h=>aNilCheck a0 h fun x3 h=>aField 2 x3 h fun x4 h=>aLoad x4 h fun x5 h=>aBuildSlice 1 1 [(0,1,x2)] h fun x6 h=>aAppend 1 8 x5 x6 h fun x7 h=>aNilCheck a0 h fun x8 h=>aField 2 x8 h fun x9 h=>aStore x9 x7 h fun x10 h=>some (x2,h)
noncomputable def A_impl_node_add:An:=(.two .o (.two .o (.two .o (.two .o .o))))
noncomputable def b_impl_node_add:Code:=bodyOf Go.Proofs.Tryz.f29
theorem k_impl_node_add (F g:Nat) (a0 a1:AV) (h:H):callD Go.Proofs.Tryz.prog (fun _ _ _=>none:Env) 21 F b_impl_node_add [4] A_impl_node_add [a0,a1] h=c_impl_node_add F g a0 a1 h:=by kernel_rfl
noncomputable def c_impl_readTree_j1 (F g:Nat) (vs:List AV) (h:H):Option R:=(fun x12 x13 x14=>aPick x13 (AV.bool true) x14 h fun x15 h=>withBool x15 fun t16=>bc t16 (some (AV.one .tup (AV.cons (AV.leaf .nilp) (AV.cons (AV.bool false) (AV.leaf .nil))),h)) (some (AV.one .tup (AV.cons x12 (AV.cons (AV.bool true) (AV.leaf .nil))),h))) (hd vs) (hd (tl vs)) (hd (tl (tl vs)))
noncomputable def c_impl_readTree_j2 (F g:Nat) (vs:List AV) (h:H):Option R:=(fun x7 x8 x9 x10=>aPick x9 (AV.bool true) x10 h fun x11 h=>guardB false x11 (aEq true 1 x8 (AV.leaf .nilp) h fun x17 h=>(c_impl_readTree_j1 F g) [x7,x11,x17] h) ((c_impl_readTree_j1 F g) [x7,x11,(AV.one .tup (AV.leaf .nil))] h)) (hd vs) (hd (tl vs)) (hd (tl (tl vs))) (hd (tl (tl (tl vs))))
noncomputable def c_impl_readTree_j3 (F g:Nat) (vs:List AV) (h:H):Option R:=(fun x1 x2 x3 x4=>aLenK 0 x1 h fun x5 h=>aCmpI ilt x4 x5 h fun x6 h=>guardB false x6 (aEq false 1 x2 (AV.leaf .nilp) h fun x18 h=>(c_impl_readTree_j2 F g) [x2,x3,x6,x18] h) ((c_impl_readTree_j2 F g) [x2,x3,x6,(AV.one .tup (AV.leaf .nil))] h)) (hd vs) (hd (tl vs)) (hd (tl (tl vs))) (hd (tl (tl (tl vs))))
noncomputable def c_impl_readTree_j4 (F g:Nat) (kc19:List AV->H->Option R) (vs:List AV) (h:H):Option R:=(fun x28 x29 x30 x31 x32=>aArith iadd x32 (AV.int 3 (Int.ofNat 1)) h fun x33 h=>kc19 [x28,x29,x30,x31,x33] h) (hd vs) (hd (tl vs)) (hd (tl (tl vs))) (hd (tl (tl (tl vs)))) (hd (tl (tl (tl (tl vs)))))
noncomputable def c_impl_readTree_j5 (F g:Nat) (kc19:List AV->H->Option R) (vs:List AV) (h:H):Option R:=(fun x72 x73 x74 x75 x76 x77 x78=>aPick x77 x78 (AV.bool false) h fun x79 h=>withBool x79 fun t80=>bc t80 (bindR (c_impl_node_add F g x74 x75 h) fun x81 h=>aArith iadd x75 (AV.int 3 (Int.ofNat 1)) h fun x82 h=>(c_impl_readTree_j4 F g kc19) [x72,x73,x81,x82,x76] h) ((c_impl_readTree_j3 F g) [x72,x73,x74,x76] h)) (hd vs) (hd (tl vs)) (hd (tl (tl vs))) (hd (tl (tl (tl vs)))) (hd (tl (tl (tl (tl vs))))) (hd (tl (tl (tl (tl (tl vs)))))) (hd (tl (tl (tl (tl (tl (tl vs)))))))
noncomputable def c_impl_readTree_j6 (F g:Nat) (kc19:List AV->H->Option R) (vs:List AV) (h:H):Option R:=(fun x64 x65 x66 x67 x68 x69 x70=>aPick x69 x70 (AV.bool false) h fun x71 h=>guardB true x71 (aCmpI ilt x67 (AV.int 3 (Int.ofNat 9)) h fun x83 h=>(c_impl_readTree_j5 F g kc19) [x64,x65,x66,x67,x68,x71,x83] h) ((c_impl_readTree_j5 F g kc19) [x64,x65,x66,x67,x68,x71,(AV.one .tup (AV.leaf .nil))] h)) (hd vs) (hd (tl vs)) (hd (tl (tl vs))) (hd (tl (tl (tl vs)))) (hd (tl (tl (tl (tl vs))))) (hd (tl (tl (tl (tl (tl vs)))))) (hd (tl (tl (tl (tl (tl (tl vs)))))))
noncomputable def c_impl_readTree_j7 (F g:Nat) (kc19:List AV->H->Option R) (vs:List AV) (h:H):Option R:=(fun x50 x51 x52 x53 x54 x55 x56=>aPick x55 x56 (AV.bool false) h fun x57 h=>withBool x57 fun t58=>bc t58 (aBuild [(AV.int 3 (Int.ofNat 0)),(AV.leaf .nilp),(AV.leaf .nils)] [] h fun x59 h=>aBox x59 h fun x60 h=>aArith iadd x53 (AV.int 3 (Int.ofNat 1)) h fun x61 h=>(c_impl_readTree_j4 F g kc19) [x50,x60,x60,x61,x54] h) (aIdxStr x50 x54 h fun x62 h=>aCmpI ieq x62 (AV.int 4 (Int.ofNat 40)) h fun x63 h=>guardB true x63 (aEq true 1 x52 (AV.leaf .nilp) h fun x84 h=>(c_impl_readTree_j6 F g kc19) [x50,x51,x52,x53,x54,x63,x84] h) ((c_impl_readTree_j6 F g kc19) [x50,x51,x52,x53,x54,x63,(AV.one .tup (AV.leaf .nil))] h))) (hd vs) (hd (tl vs)) (hd (tl (tl vs))) (hd (tl (tl (tl vs)))) (hd (tl (tl (tl (tl vs))))) (hd (tl (tl (tl (tl (tl vs)))))) (hd (tl (tl (tl (tl (tl (tl vs)))))))
noncomputable def c_impl_readTree_j8 (F g:Nat) (kc19:List AV->H->Option R) (vs:List AV) (h:H):Option R:=(fun x36 x37 x38 x39 x40 x41 x42=>aPick x41 x42 (AV.bool false) h fun x43 h=>withBool x43 fun t44=>bc t44 (aNilCheck x38 h fun x45 h=>aField 1 x45 h fun x46 h=>aLoad x46 h fun x47 h=>(c_impl_readTree_j4 F g kc19) [x36,x37,x47,x39,x40] h) (aIdxStr x36 x40 h fun x48 h=>aCmpI ieq x48 (AV.int 4 (Int.ofNat 40)) h fun x49 h=>guardB true x49 (aEq false 1 x37 (AV.leaf .nilp) h fun x85 h=>(c_impl_readTree_j7 F g kc19) [x36,x37,x38,x39,x40,x49,x85] h) ((c_impl_readTree_j7 F g kc19) [x36,x37,x38,x39,x40,x49,(AV.one .tup (AV.leaf .nil))] h))) (hd vs) (hd (tl vs)) (hd (tl (tl vs))) (hd (tl (tl (tl vs)))) (hd (tl (tl (tl (tl vs))))) (hd (tl (tl (tl (tl (tl vs)))))) (hd (tl (tl (tl (tl (tl (tl vs)))))))
noncomputable def c_impl_readTree_l9 (F g:Nat):List AV->H->(List AV->H->Option R)->Option R:=fun vs h kc19=>(fun x20 x21 x22 x23 x24=>aLenK 0 x20 h fun x25 h=>aCmpI ilt x24 x25 h fun x26 h=>withBool x26 fun t27=>bc t27 (aIdxStr x20 x24 h fun x34 h=>aCmpI ieq x34 (AV.int 4 (Int.ofNat 41)) h fun x35 h=>guardB true x35 (aEq true 1 x22 (AV.leaf .nilp) h fun x86 h=>(c_impl_readTree_j8 F g kc19) [x20,x21,x22,x23,x24,x35,x86] h) ((c_impl_readTree_j8 F g kc19) [x20,x21,x22,x23,x24,x35,(AV.one .tup (AV.leaf .nil))] h)) ((c_impl_readTree_j3 F g) [x20,x21,x22,x24] h)) (hd vs) (hd (tl vs)) (hd (tl (tl vs))) (hd (tl (tl (tl vs)))) (hd (tl (tl (tl (tl vs)))))
noncomputable def c_impl_readTree (F g:Nat) (a0:AV) (h:H):Option R:=loopD F (c_impl_readTree_l9 F g) [a0,(AV.leaf .nilp),(AV.leaf .nilp),(AV.int 3 (Int.ofNat 0)),(AV.int 3 (Int.ofNat 0))] h
noncomputable def A_impl_readTree:An:=(.two .o (.two (.two .o (.two .o (.two .o (.at_ [0,4,5,7] (.two (.at_ [0,4,5,6,7] (.two (.two .o (.two .o .o)) (.two (.at_ [0,4,5,6,7] (.two (.two (.at_ [0,4,5,6,7,17,19] .o .o) (.two .o (.two (.at_ [0,4,5,6,7,30,32] .o .o) (.two (.two .o (.two .o .o)) (.two (.at_ [0,4,5,6,7,44,46] .o (.at_ [0,4,5,6,7,48,50] .o .o)) (.two (.two .o .o) .o)))))) .o) .o) .o)) .o) .o) (.two (.two (.at_ [4,5,63,65] .o (.at_ [4,67,69] .o .o)) (.two (.two .o .o) .o)) (.two .o .o)))))) .o))
noncomputable def b_impl_readTree:Code:=bodyOf Go.Proofs.Tryz.f16
theorem k_impl_readTree (F g:Nat) (a0:AV) (h:H):callD Go.Proofs.Tryz.prog (Env.add (fun _ _ _=>none:Env) 29 (u2 (c_impl_node_add F g))) 72 F b_impl_readTree [2,3] A_impl_readTree [a0] h=c_impl_readTree F g a0 h:=by kernel_rfl
end
end Go.AI
namespace Go.AI
open Go Go.RowKit
noncomputable section
def node3 (m:Int) (up K:AV):Blk:=.cells 0 [.int 3 m,up,K]
theorem zatp {F g:Nat} {h:H} {b:Nat} {m z:Int} {up:AV} (hb:h.get b=node3 z up (.leaf .nils)) (hbn:b<h.n) :
 ∃h4,c_impl_node_add F g (.ptr b 0) (.int 3 m) h=some (.ptr h.n 0,h4)/\h4.n=h.n+3/\h4.get h.n=node3 m (.ptr b 0) (.leaf .nils) /\
  h4.get b=node3 z up (.osl (h.n+2) 0 1 1)/\h4.get (h.n+2) = .cells 0 [.ptr h.n 0]/\∀c,c<h.n->c≠b->h4.get c=h.get c:=by
 have e1:c_impl_node_add F g (.ptr b 0) (.int 3 m) h=(aLoad (.ptr b 2) (h.push (node3 m (.ptr b 0) (.leaf .nils))) fun x5 h1=>aBuildSlice 1 1 [(0,1,.ptr h.n 0)] h1 fun x6 h2=>
  aAppend 1 8 x5 x6 h2 fun x7 h3=>aStore (.ptr b 2) x7 h3 fun x10 h4=>some (.ptr h.n 0,h4)):=rfl
 rw [e1,zacg (by rw [zaaq hbn];exact hb) rfl]
 generalize hh1:h.push (node3 m (.ptr b 0) (.leaf .nils))=h1
 have n1:h1.n=h.n+1:=by rw [<- hh1];rfl
 have e2:∀k:AV->H->Option R,aBuildSlice 1 1 [(0,1,.ptr h.n 0)] h1 k=k (.leaf (.sl h1.n 0 1 1)) (h1.push (.cells 0 [.ptr h.n 0])):=fun k=>rfl
 rw [e2]
 generalize hh2:h1.push (.cells 0 [.ptr h.n 0])=h2
 have n2:h2.n=h.n+2:=by rw [<- hh2];show h1.n+1=_;omega
 have g2:h2.get h1.n = .cells 0 [.ptr h.n 0]:=by rw [<- hh2];exact zaa5 rfl
 rw [zas0 g2]
 generalize hh3:h2.push (.cells 0 [.ptr h.n 0])=h3
 have old:∀c,c<h.n->h3.get c=h.get c:=fun c hc=>by
  rw [<- hh3,zaaq (by omega), <- hh2,zaaq (by omega), <- hh1,zaaq hc]
 rw [zakg (l:=[.int 3 z,up,.leaf .nils]) (fl:=0) (by rw [old b hbn];exact hb) (by omega) (by simp) rfl,n2]
 refine ⟨_,rfl,?_,?_,?_,?_,?_⟩
 · show h3.n=_;rw [<- hh3];show h2.n+1=_;omega
 · rw [zabn (by omega), <- hh3,zaaq (by omega), <- hh2,zaaq (by omega), <- hh1,zaa5 rfl]
 · rw [zae3];rfl
 · rw [zabn (by omega), <- hh3,zaa5 (by omega)]
 · intro c hc hcb;rw [zabn hcb,old c hc]
theorem zatr {F g:Nat} {h:H} {b kb j:Nat} {m z:Int} {up:AV} {l:List AV} (hb:h.get b=node3 z up (.osl kb 0 j 1)) (hbn:b<h.n) (hk:h.get kb = .cells 0 l) (hkn:kb<h.n) (hkb:kb≠b) (hl:l.length=j) (hj:j<1000) :
 ∃h4,c_impl_node_add F g (.ptr b 0) (.int 3 m) h=some (.ptr h.n 0,h4)/\h4.n=h.n+3/\h4.get h.n=node3 m (.ptr b 0) (.leaf .nils) /\
  h4.get b=node3 z up (.osl (h.n+2) 0 (j+1) 1)/\h4.get (h.n+2) = .cells 0 (l++[.ptr h.n 0])/\∀c,c<h.n->c≠b->c≠kb->h4.get c=h.get c:=by
 have e1:c_impl_node_add F g (.ptr b 0) (.int 3 m) h=(aLoad (.ptr b 2) (h.push (node3 m (.ptr b 0) (.leaf .nils))) fun x5 h1=>aBuildSlice 1 1 [(0,1,.ptr h.n 0)] h1 fun x6 h2=>
  aAppend 1 8 x5 x6 h2 fun x7 h3=>aStore (.ptr b 2) x7 h3 fun x10 h4=>some (.ptr h.n 0,h4)):=rfl
 rw [e1,zacg (by rw [zaaq hbn];exact hb) rfl]
 generalize hh1:h.push (node3 m (.ptr b 0) (.leaf .nils))=h1
 have n1:h1.n=h.n+1:=by rw [<- hh1];rfl
 have e2:∀k:AV->H->Option R,aBuildSlice 1 1 [(0,1,.ptr h.n 0)] h1 k=k (.leaf (.sl h1.n 0 1 1)) (h1.push (.cells 0 [.ptr h.n 0])):=fun k=>rfl
 rw [e2]
 generalize hh2:h1.push (.cells 0 [.ptr h.n 0])=h2
 have n2:h2.n=h.n+2:=by rw [<- hh2];show h1.n+1=_;omega
 have g2:h2.get h1.n = .cells 0 [.ptr h.n 0]:=by rw [<- hh2];exact zaa5 rfl
 have g2k:h2.get kb = .cells 0 l:=by rw [<- hh2,zaaq (by omega), <- hh1,zaaq hkn];exact hk
 rw [zaoe g2 g2k hl hj (by omega) rfl]
 generalize hh3:(h2.set kb .dead).push (.cells 0 (l++[.ptr h.n 0]))=h3
 have old:∀c,c<h.n->c≠kb->h3.get c=h.get c:=fun c hc hck=>by
  rw [<- hh3,zaaq (by show c<h2.n;omega),zabn hck, <- hh2,zaaq (by omega), <- hh1,zaaq hc]
 rw [zakg (l:=[.int 3 z,up,.osl kb 0 j 1]) (fl:=0) (by rw [old b hbn (Ne.symm hkb)];exact hb) (by omega) (by simp) rfl,n2]
 refine ⟨_,rfl,?_,?_,?_,?_,?_⟩
 · show h3.n=_;rw [<- hh3];show h2.n+1=_;omega
 · rw [zabn (by omega), <- hh3,zaaq (by show h.n<h2.n;omega),zabn (by omega), <- hh2,zaaq (by omega), <- hh1,zaa5 rfl]
 · rw [zae3];rfl
 · rw [zabn (by omega), <- hh3,zaa5 (by show _=h2.n;omega)]
 · intro c hc hcb hck;rw [zabn hcb,old c hc hck]
def Chain (h:H) (M:Nat):Nat->AV->Nat->List Nat->Prop
 | _,x,0,ks=>x = .leaf .nilp/\ks=[]
 | B,x,d+1,ks=>∃b z up K ks',x = .ptr b 0/\b<B/\b<h.n/\h.get b=node3 z up K/\Chain h M b up d ks' /\
  ((K = .leaf .nils/\ks=ks')\/∃kb j l c o,K = .osl kb 0 j 1/\h.get kb = .cells 0 (.ptr c o::l)/\l.length+1=j/\j<=M/\kb<h.n/\kb ∉ ks'/\ks=kb::ks')
theorem Chain.frame {h h':H} {M M':Nat} (hM:M<=M') (hn:h.n<=h'.n):∀(d B:Nat) (x:AV) (ks:List Nat),Chain h M B x d ks->(∀b z up K,b<B->b<h.n->h.get b=node3 z up K->h'.get b=h.get b)->(∀k∈ks,k<h.n->h'.get k=h.get k)->Chain h' M' B x d ks
 | 0,B,x,ks,hc,_,_=>hc
 | d+1,B,x,ks,⟨b,z,up,K,ks',e1,e2,e3,e4,e5,e6⟩,hb,hk=>by
  refine ⟨b,z,up,K,ks',e1,e2,by omega,by rw [hb b z up K e2 e3 e4];exact e4,?_,?_⟩
  · refine Chain.frame hM hn d b up ks' e5 (fun b' z' up' K' h1 h2 h3=>hb b' z' up' K' (by omega) h2 h3) fun k hk' hkn=>hk k ?_ hkn
    rcases e6 with ⟨_,rfl⟩ | ⟨kb,j,l,c,o,_,_,_,_,_,_,rfl⟩
    · exact hk'
    · exact List.mem_cons_of_mem _ hk'
  · rcases e6 with ⟨h1,h2⟩ | ⟨kb,j,l,c,o,h1,h2,h3,h4,h5,h6,h7⟩
    · exact .inl ⟨h1,h2⟩
    · exact .inr ⟨kb,j,l,c,o,h1,by rw [hk kb (by rw [h7];exact List.mem_cons_self ..) h5];exact h2,h3,by omega,by omega,h6,h7⟩
theorem Chain.kids {h:H} {M:Nat}:∀(d B:Nat) (x:AV) (ks:List Nat),Chain h M B x d ks->∀k∈ks,k<h.n/\∃c o l,h.get k = .cells 0 (.ptr c o::l)
 | 0,B,x,ks,⟨_,h2⟩,k,hk=>by subst h2;cases hk
 | d+1,B,x,ks,⟨b,z,up,K,ks',e1,e2,e3,e4,e5,e6⟩,k,hk=>by
  rcases e6 with ⟨_,rfl⟩ | ⟨kb,j,l,c,o,h1,h2,h3,h4,h5,h6,h7⟩
  · exact Chain.kids d b up _ e5 k hk
  · rw [h7] at hk
    rcases List.mem_cons.1 hk with rfl | hk
    · exact ⟨h5,c,o,l,h2⟩
    · exact Chain.kids d b up _ e5 k hk
theorem zalq {h:H} {b kb:Nat} {z:Int} {up K:AV} (h1:h.get b=node3 z up K) (h2:∃c o l,h.get kb = .cells 0 (.ptr c o::l)):kb≠b:=fun e=>by
 obtain ⟨c,o,l,h2⟩:=h2
 subst e;rw [h1] at h2;cases h2
theorem Chain.add {F g:Nat} {h:H} {M B d:Nat} {z:Int} {x:AV} {ks:List Nat} (hc:Chain h M B x (d+1) ks) (hM:M<900):∃h4 ks4,c_impl_node_add F g x (.int 3 z) h=some (.ptr h.n 0,h4)/\Chain h4 (M+1) h4.n (.ptr h.n 0) (d+2) ks4:=by
 have hkids:=Chain.kids _ _ _ _ hc
 obtain ⟨b,z0,up,K,ks',rfl,e2,e3,e4,e5,e6⟩:=hc
 have hkids':=Chain.kids _ _ _ _ e5
 rcases e6 with ⟨rfl,rfl⟩ | ⟨kb,j,l,c,o,rfl,h2,h3,h4,h5,h6,h7⟩
 · obtain ⟨h4,r1,r2,r3,r4,r5,r6⟩:=zatp (F:=F) (g:=g) (m:=z) e4 e3
   refine ⟨h4,(h.n+2)::ks,r1,h.n,z,.ptr b 0,.leaf .nils,(h.n+2)::ks,rfl,by omega,by omega,r3,⟨b,z0,up,_,ks,rfl,e3,by omega,r4,?_,.inr ⟨h.n+2,1,[],h.n,0,rfl,r5,rfl,by omega,by omega,?_,rfl⟩⟩,.inl ⟨rfl,rfl⟩⟩
   · exact Chain.frame (by omega) (by omega) d b up ks e5 (fun b' z' up' K' h1 h2 h3=>r6 b' h2 (by omega)) fun k hk hkn=>r6 k hkn (zalq e4 (hkids' k hk).2)
   · intro hin;have:=(hkids' _ hin).1;omega
 · obtain ⟨h4',r1,r2,r3,r4,r5,r6⟩:=zatr (F:=F) (g:=g) (m:=z) e4 e3 h2 h5 (zalq e4 ⟨c,o,l,h2⟩) h3 (by omega)
   refine ⟨h4',(h.n+2)::ks',r1,h.n,z,.ptr b 0,.leaf .nils,(h.n+2)::ks',rfl,by omega,by omega,r3,⟨b,z0,up,_,ks',rfl,e3,by omega,r4,?_,.inr ⟨h.n+2,j+1,l++[.ptr h.n 0],c,o,rfl,by rw [r5];rfl,by simp [h3],by omega,by omega,?_,rfl⟩⟩,.inl ⟨rfl,rfl⟩⟩
   · exact Chain.frame (by omega) (by omega) d b up ks' e5 (fun b' z' up' K' h1 h2' h3=>r6 b' h2' (by omega) (Ne.symm (zalq h3 ⟨c,o,l,h2⟩))) fun k hk hkn=>r6 k hkn (zalq e4 (hkids' k hk).2) (fun e=>h6 (e ▸ hk))
   · intro hin;have:=(hkids' _ hin).1;omega
end
end Go.AI
namespace Go.AI
open Go Go.RowKit
noncomputable section
def noTree:AV:=.one .tup (.cons (.leaf .nilp) (.cons (.bool false) (.leaf .nil)))
theorem j3_bad {F g:Nat} {h:H} {l:List Nat} {n i:Nat} {root x:AV} (hr:root = .leaf .nilp\/∃r,root = .ptr r 0) (hx:x = .leaf .nilp\/∃b,x = .ptr b 0)
 (hbad:i<n\/root = .leaf .nilp\/x≠.leaf .nilp):c_impl_readTree_j3 F g [.str l n,root,x,.int 3 (.ofNat i)] h=some (noTree,h):=by
 simp only [c_impl_readTree_j3,c_impl_readTree_j2,c_impl_readTree_j1,zabh,zabg,zabi,zabj,zaa7,bc_true,zaco]
 by_cases hi:i<n
 · rw [zaau hi];rcases hr with rfl | ⟨r,rfl⟩ <;> rcases hx with rfl | ⟨b,rfl⟩ <;> rfl
 · rw [zabo (by omega)]
   rcases hr with rfl | ⟨r,rfl⟩
   · rcases hx with rfl | ⟨b,rfl⟩ <;> rfl
   · rcases hx with rfl | ⟨b,rfl⟩
     · simp [hi] at hbad
     · rfl
theorem zafh {F g:Nat} {h:H} {l:List Nat} {n i m:Nat} {root x:AV} {kc:List AV->H->Option R} (hi:n<=i) :
 c_impl_readTree_l9 F g [.str l n,root,x,.int 3 (.ofNat m),.int 3 (.ofNat i)] h kc=c_impl_readTree_j3 F g [.str l n,root,x,.int 3 (.ofNat i)] h:=by
 simp only [c_impl_readTree_l9,zabh,zabg,zabi,zabj,zaa7,bc_true,zaco,zabo (show n<Nat.succ i by omega),zaai,zaag]
theorem zaoz {F g:Nat} {h:H} {l:List Nat} {n i m b:Nat} {root up K:AV} {z:Int} {kc:List AV->H->Option R} (hi:i<n) (hc:nthN l i=some 41) (hb:h.get b=node3 z up K) (hin:i+1<=9223372036854775807) :
 c_impl_readTree_l9 F g [.str l n,root,.ptr b 0,.int 3 (.ofNat m),.int 3 (.ofNat i)] h kc=kc [.str l n,root,up,.int 3 (.ofNat m),.int 3 (.ofNat (i+1))] h:=by
 have e:∀k:AV->H->Option R,aLoad (.ptr b (Nat.add 0 1)) h k=k up h:=fun k=>zacg hb rfl
 have e2:ieq (Int.ofNat 41) (Int.ofNat 41)=true:=rfl
 simp only [c_impl_readTree_l9,c_impl_readTree_j8,c_impl_readTree_j4,zabh,zabg,zabi,zabj,zaa7,bc_true,zaco,zaau (show Nat.succ i<=n by omega),zaai,zacc,hc,zabl,e2,zab8,aEq_pp,zaby,zaaz,zabc,e,zabw,zacl i 1 hin]
theorem zap2 {F g:Nat} {h:H} {l:List Nat} {n i m:Nat} {kc:List AV->H->Option R} (hi:i<n) (hc:nthN l i=some 40) (hin:i+1<=9223372036854775807) (hm:m+1<=9223372036854775807) :
 c_impl_readTree_l9 F g [.str l n,.leaf .nilp,.leaf .nilp,.int 3 (.ofNat m),.int 3 (.ofNat i)] h kc=kc [.str l n,.ptr h.n 0,.ptr h.n 0,.int 3 (.ofNat (m+1)),.int 3 (.ofNat (i+1))] (h.push (node3 (.ofNat 0) (.leaf .nilp) (.leaf .nils))):=by
 have e1:ieq (Int.ofNat 40) (Int.ofNat 41)=false:=rfl
 have e2:ieq (Int.ofNat 40) (Int.ofNat 40)=true:=rfl
 have e3:∀k:AV->H->Option R,(aBuild [.int 3 (.ofNat 0),.leaf .nilp,.leaf .nils] [] h fun x59 h=>aBox x59 h k)=k (.ptr h.n 0) (h.push (node3 (.ofNat 0) (.leaf .nilp) (.leaf .nils))):=fun k=>rfl
 simp only [c_impl_readTree_l9,c_impl_readTree_j8,c_impl_readTree_j7,c_impl_readTree_j4,zabh,zabg,zabi,zabj,zaa7,bc_true,zaag,zaco,zaau (show Nat.succ i<=n by omega),zaai,zacc,hc,zabl,e1,e2,zab8,(show bnot true=false from rfl),aEq_en,zaby,e3,zabw,zacl i 1 hin,zacl m 1 hm]
theorem zar4 {F g:Nat} {h h':H} {l:List Nat} {n i m b r c:Nat} {kc:List AV->H->Option R} (hi:i<n) (hc:nthN l i=some 40) (hm:m<9) (hin:i+1<=9223372036854775807)
 (ha:c_impl_node_add F g (.ptr b 0) (.int 3 (.ofNat m)) h=some (.ptr c 0,h')) :
 c_impl_readTree_l9 F g [.str l n,.ptr r 0,.ptr b 0,.int 3 (.ofNat m),.int 3 (.ofNat i)] h kc=kc [.str l n,.ptr r 0,.ptr c 0,.int 3 (.ofNat (m+1)),.int 3 (.ofNat (i+1))] h':=by
 have e1:ieq (Int.ofNat 40) (Int.ofNat 41)=false:=rfl
 have e2:ieq (Int.ofNat 40) (Int.ofNat 40)=true:=rfl
 simp only [c_impl_readTree_l9,c_impl_readTree_j8,c_impl_readTree_j7,c_impl_readTree_j6,c_impl_readTree_j5,c_impl_readTree_j4,zabh,zabg,zabi,zabj,zaa7,bc_true,zaag,zaco,zaau (show Nat.succ i<=n by omega),zaai,zacc,hc,zabl,e1,e2,zab8,(show bnot true=false from rfl),aEq_pp,aEq_ep,zaby,
  zaau (show Nat.succ m<=9 by omega),ha,bindR_some',zabw,zacl i 1 hin,zacl m 1 (show m+1<=9223372036854775807 by omega)]
theorem zaie {F g:Nat} {h:H} {l:List Nat} {n i m c:Nat} {root x:AV} {kc:List AV->H->Option R} (hi:i<n) (hc:nthN l i=some c)
 (hbad:(root = .leaf .nilp/\x = .leaf .nilp/\c≠40)\/(∃r,root = .ptr r 0/\x = .leaf .nilp)\/(∃r b,root = .ptr r 0/\x = .ptr b 0/\c≠41/\(c≠40\/9<=m))) :
 c_impl_readTree_l9 F g [.str l n,root,x,.int 3 (.ofNat m),.int 3 (.ofNat i)] h kc=c_impl_readTree_j3 F g [.str l n,root,x,.int 3 (.ofNat i)] h:=by
 simp only [c_impl_readTree_l9,c_impl_readTree_j8,c_impl_readTree_j7,c_impl_readTree_j6,c_impl_readTree_j5,c_impl_readTree_j4,zabh,zabg,zabi,zabj,zaa7,bc_true,zaag,zaco,zaau (show Nat.succ i<=n by omega),zaai,zacc,hc,zabl,zard]
 rcases hbad with ⟨rfl,rfl,h40⟩ | ⟨r,rfl,rfl⟩ | ⟨r,b,rfl,rfl,h41,h40⟩
 · have e40:Nat.beq c 40=false:=by rw [beq_decide,decide_eq_false_iff_not];exact h40
   simp only [e40]
   cases Nat.beq c 41 <;> rfl
 · cases Nat.beq c 41 <;> cases Nat.beq c 40 <;> rfl
 · have e41:Nat.beq c 41=false:=by rw [beq_decide,decide_eq_false_iff_not];exact h41
   simp only [e41]
   by_cases hc40:c=40
   · subst hc40
     have hm:9<=m:=h40.elim (fun h=>absurd rfl h) id
     have e9:Nat.ble (Nat.succ m) 9=false:=zabo (by omega)
     have e40:Nat.beq 40 40=true:=rfl
     simp only [e40,zab8,zadu,zaby,aEq_ep,aEq_pp,bc_true,zaag,bnot,zaai,e9]
   · have e40:Nat.beq c 40=false:=by rw [beq_decide,decide_eq_false_iff_not];exact hc40
     simp only [e40];rfl
theorem zaku:∀(l:List Nat) (i c:Nat) (r:List Nat),l.drop i=c::r->nthN l i=some c/\l.drop (i+1)=r/\i<l.length
 | [],i,c,r,h=>by simp at h
 | a::l,0,c,r,h=>by simp at h;obtain ⟨rfl,rfl⟩:=h;exact ⟨rfl,rfl,by simp⟩
 | a::l,i+1,c,r,h=>by
  obtain ⟨h1,h2,h3⟩:=zaku l i c r (by simpa using h)
  exact ⟨h1,by simpa using h2,by simp;omega⟩
theorem zak7 {F g:Nat} (l:List Nat) (n:Nat) (hn:l.length=n) (hmax:n<9223372036854775807):∀(rest:List Nat) (N i d m r B:Nat) (x:AV) (ks:List Nat) (h:H),l.drop i=rest->i+rest.length=n->rest.length<N->Chain h m B x d ks-> 
 m<=9->scan rest d m=false->∃h',loopD N (c_impl_readTree_l9 F g) [.str l n,.ptr r 0,x,.int 3 (.ofNat m),.int 3 (.ofNat i)] h=some (noTree,h')
 | rest,0,i,d,m,r,B,x,ks,h,_,_,hN,_,_,_=>absurd hN (by omega)
 | [],N+1,i,d,m,r,B,x,ks,h,hd,hl,hN,hc,hm,hs=>by
  rw [zabx,zafh (by simp at hl;omega)]
  cases d with
  | zero=>cases hs
  | succ d=>
   obtain ⟨b,z,up,K,ks',rfl,_⟩:=hc
   exact ⟨h,j3_bad (.inr ⟨r,rfl⟩) (.inr ⟨b,rfl⟩) (.inr (.inr (by simp)))⟩
 | c::rest,N+1,i,d,m,r,B,x,ks,h,hd,hl,hN,hc,hm,hs=>by
  obtain ⟨h1,h2,h3⟩:=zaku l i c rest hd
  rw [hn] at h3
  simp only [List.length_cons] at hl hN
  rw [zabx]
  cases d with
  | zero=>
   obtain ⟨rfl,_⟩:=hc
   rw [zaie h3 h1 (.inr (.inl ⟨r,rfl,rfl⟩))]
   exact ⟨h,j3_bad (.inr ⟨r,rfl⟩) (.inl rfl) (.inl h3)⟩
  | succ d=>
   have hc0:=hc
   obtain ⟨b,z,up,K,ks',rfl,hb1,hb2,hb3,hb4,_⟩:=hc
   simp only [scan] at hs
   by_cases h41:c=41
   · subst h41
     have hs:scan rest d m=false:=hs
     rw [zaoz h3 h1 hb3 (by omega)]
     exact zak7 l n hn hmax rest N (i+1) d m r b up ks' h h2 (by omega) (by omega) hb4 hm hs
   · have e41:Nat.beq c 41=false:=by rw [beq_decide,decide_eq_false_iff_not];exact h41
     rw [e41,zaag] at hs
     by_cases h40:c=40
     · subst h40
       by_cases h9:m<9
       · have hs:bc (Nat.ble (m+1) 9) (scan rest (d+2) (m+1)) false=false:=hs
         rw [zaau (by omega),bc_true] at hs
         obtain ⟨h4,ks4,ha,hc4⟩:=Chain.add (F:=F) (g:=g) (z:=.ofNat m) hc0 (by omega)
         rw [zar4 h3 h1 h9 (by omega) ha]
         exact zak7 l n hn hmax rest N (i+1) (d+2) (m+1) r h4.n _ ks4 h4 h2 (by omega) (by omega) hc4 (by omega) hs
       · rw [zaie h3 h1 (.inr (.inr ⟨r,b,rfl,rfl,h41,.inr (by omega)⟩))]
         exact ⟨h,j3_bad (.inr ⟨r,rfl⟩) (.inr ⟨b,rfl⟩) (.inl h3)⟩
     · rw [zaie h3 h1 (.inr (.inr ⟨r,b,rfl,rfl,h41,.inl h40⟩))]
       exact ⟨h,j3_bad (.inr ⟨r,rfl⟩) (.inr ⟨b,rfl⟩) (.inl h3)⟩
theorem zan6 {F g:Nat} (l:List Nat) (n:Nat) (hn:l.length=n) (hmax:n<F) (hF:F<9223372036854775807) (ht:isTree l=false) (h:H):∃h',c_impl_readTree F g (.str l n) h=some (noTree,h'):=by
 obtain ⟨N,rfl⟩:∃N,F=N+1:=⟨F - 1,by omega⟩
 show ∃h',loopD (N+1) (c_impl_readTree_l9 (N+1) g) [.str l n,.leaf .nilp,.leaf .nilp,.int 3 (.ofNat 0),.int 3 (.ofNat 0)] h=some (noTree,h')
 rw [zabx]
 cases l with
 | nil=>
  subst hn
  rw [zafh (by simp)]
  exact ⟨h,j3_bad (.inl rfl) (.inl rfl) (.inr (.inl rfl))⟩
 | cons c r=>
  have h0:0<n:=by rw [<- hn];simp
  by_cases h40:c=40
  · subst h40
    have ht:scan r 1 1=false:=ht
    rw [zap2 h0 rfl (by omega) (by omega)]
    refine zak7 (40::r) n hn (by omega) r N 1 1 1 h.n (h.n+1) (.ptr h.n 0) [] _ rfl (by simp at hn;omega) (by simp at hn;omega) ⟨h.n,.ofNat 0,.leaf .nilp,.leaf .nils,[],rfl,by omega,?_,zaa5 rfl,⟨rfl,rfl⟩,.inl ⟨rfl,rfl⟩⟩ (by omega) ht
    show h.n<h.n+1;omega
  · rw [zaie h0 rfl (.inl ⟨rfl,rfl,h40⟩)]
    exact ⟨h,j3_bad (.inl rfl) (.inl rfl) (.inl h0)⟩
end
end Go.AI
namespace Go.AI
open Go Go.RowKit
noncomputable section
def endAt:List Nat->Nat->Nat->Option Nat
 | [],d,i=>none
 | c::r,0,i=>if c=40 then endAt r 1 (i+1) else none
 | c::r,d+1,i=>if c=40 then endAt r (d+2) (i+1) else if c=41 then (match d with | 0=>some (i+1) | d+1=>endAt r (d+1) (i+1)) else none
def endI:Option Nat->Int
 | some e=>.ofNat e
 | none=>.negSucc 0
theorem zalm (a:Nat) (h:a<=9223372036854775807):fwrap 3 (isub (.ofNat (a+1)) (.ofNat 1)) = .ofNat a:=by
 rw [zaob,zadl,kd3]
 show IntKind.i64.wrap (((a+1:Nat):Int) - (1:Int))=(a:Int)
 rw [zafd _ (by omega) (by omega)];omega
theorem zapa:fwrap 3 (isub (.ofNat 0) (.ofNat 1)) = .negSucc 0:=rfl
section
variable {F g:Nat} {h:H} {l:List Nat} {n i d c:Nat} {kc:List AV->H->Option R}
theorem e_end (hi:n<=i):c_spec_l1End_l2 F g [.str l n,.int 3 (.ofNat d),.int 3 (.ofNat i)] h kc=some (.int 3 (.negSucc 0),h):=by
 simp only [c_spec_l1End_l2,zabh,zabg,zabi,zabj,zaa7,bc_true,zaag,zaco,zabo (show n<Nat.succ i by omega),zaai]
theorem e_open (hi:i<n) (hc:nthN l i=some 40) (hd:d+1<=9223372036854775807) (hin:i+1<=9223372036854775807):c_spec_l1End_l2 F g [.str l n,.int 3 (.ofNat d),.int 3 (.ofNat i)] h kc=kc [.str l n,.int 3 (.ofNat (d+1)),.int 3 (.ofNat (i+1))] h:=by
 have e2:ieq (Int.ofNat 40) (Int.ofNat 40)=true:=rfl
 have e3:ieq (Int.ofNat (d+1)) (Int.ofNat 0)=false:=rfl
 have e4:ilt (Int.ofNat (d+1)) (Int.ofNat 0)=false:=rfl
 simp only [c_spec_l1End_l2,c_spec_l1End_j1,zabh,zabg,zabi,zabj,zaa7,bc_true,zaag,zaco,zaau (show Nat.succ i<=n by omega),zaai,zacc,hc,zabl,e2,zabw,zacl d 1 hd,zacl i 1 hin,e3]
 rfl
theorem zatm (hi:i<n) (hc:nthN l i=some c) (h40:c≠40) (h41:c≠41):c_spec_l1End_l2 F g [.str l n,.int 3 (.ofNat d),.int 3 (.ofNat i)] h kc=some (.int 3 (.negSucc 0),h):=by
 have e40:Nat.beq c 40=false:=by rw [beq_decide,decide_eq_false_iff_not];exact h40
 have e41:Nat.beq c 41=false:=by rw [beq_decide,decide_eq_false_iff_not];exact h41
 simp only [c_spec_l1End_l2,c_spec_l1End_j1,zabh,zabg,zabi,zabj,zaa7,bc_true,zaag,zaco,zaau (show Nat.succ i<=n by omega),zaai,zacc,hc,zabl,zard,e40,e41]
theorem zasb (hi:i<n) (hc:nthN l i=some 41):c_spec_l1End_l2 F g [.str l n,.int 3 (.ofNat 0),.int 3 (.ofNat i)] h kc=some (.int 3 (.negSucc 0),h):=by
 have e2:ieq (Int.ofNat 41) (Int.ofNat 40)=false:=rfl
 have e3:ieq (Int.ofNat 41) (Int.ofNat 41)=true:=rfl
 have e4:ieq (Int.negSucc 0) (Int.ofNat 0)=false:=rfl
 have e5:ilt (Int.negSucc 0) (Int.ofNat 0)=true:=rfl
 simp only [c_spec_l1End_l2,c_spec_l1End_j1,zabh,zabg,zabi,zabj,zaa7,bc_true,zaag,zaco,zaau (show Nat.succ i<=n by omega),zaai,zacc,hc,zabl,e2,e3,zabw,zapa,e4,e5]
theorem zarw (hi:i<n) (hc:nthN l i=some 41) (hin:i+1<=9223372036854775807):c_spec_l1End_l2 F g [.str l n,.int 3 (.ofNat 1),.int 3 (.ofNat i)] h kc=some (.int 3 (.ofNat (i+1)),h):=by
 have e2:ieq (Int.ofNat 41) (Int.ofNat 40)=false:=rfl
 have e3:ieq (Int.ofNat 41) (Int.ofNat 41)=true:=rfl
 have e4:ieq (Int.ofNat 0) (Int.ofNat 0)=true:=rfl
 simp only [c_spec_l1End_l2,c_spec_l1End_j1,zabh,zabg,zabi,zabj,zaa7,bc_true,zaag,zaco,zaau (show Nat.succ i<=n by omega),zaai,zacc,hc,zabl,e2,e3,zabw,zalm 0 (by omega),e4,zacl i 1 hin]
theorem zas3 (hi:i<n) (hc:nthN l i=some 41) (hin:i+1<=9223372036854775807) (hd:d+1<=9223372036854775807):c_spec_l1End_l2 F g [.str l n,.int 3 (.ofNat (d+2)),.int 3 (.ofNat i)] h kc=kc [.str l n,.int 3 (.ofNat (d+1)),.int 3 (.ofNat (i+1))] h:=by
 have e2:ieq (Int.ofNat 41) (Int.ofNat 40)=false:=rfl
 have e3:ieq (Int.ofNat 41) (Int.ofNat 41)=true:=rfl
 have e4:ieq (Int.ofNat (d+1)) (Int.ofNat 0)=false:=rfl
 simp only [c_spec_l1End_l2,c_spec_l1End_j1,zabh,zabg,zabi,zabj,zaa7,bc_true,zaag,zaco,zaau (show Nat.succ i<=n by omega),zaai,zacc,hc,zabl,e2,e3,zabw,zalm (d+1) hd,e4,zacl i 1 hin]
 rfl
end
theorem zah1 {F g:Nat} (l:List Nat) (n:Nat) (hn:l.length=n) (hmax:n<4611686018427387904) (h:H):∀(rest:List Nat) (N i d:Nat),l.drop i=rest->i+rest.length=n->rest.length<N->d<=i->
 loopD N (c_spec_l1End_l2 F g) [.str l n,.int 3 (.ofNat d),.int 3 (.ofNat i)] h=some (.int 3 (endI (endAt rest d i)),h)
 | rest,0,i,d,_,_,hN,_=>absurd hN (by omega)
 | [],N+1,i,d,hd,hl,hN,hdi=>by
  rw [zabx,e_end (by simp at hl;omega)];rfl
 | c::rest,N+1,i,d,hd,hl,hN,hdi=>by
  obtain ⟨h1,h2,h3⟩:=zaku l i c rest hd
  rw [hn] at h3
  simp only [List.length_cons] at hl hN
  rw [zabx]
  by_cases h40:c=40
  · subst h40
    rw [e_open h3 h1 (by omega) (by omega),zah1 l n hn hmax h rest N (i+1) (d+1) h2 (by omega) (by omega) (by omega)]
    cases d <;> rfl
  · by_cases h41:c=41
    · subst h41
      cases d with
      | zero=>rw [zasb h3 h1];rfl
      | succ d=>
       cases d with
       | zero=>rw [zarw h3 h1 (by omega)];rfl
       | succ d=>
        rw [zas3 h3 h1 (by omega) (by omega),zah1 l n hn hmax h rest N (i+1) (d+1) h2 (by omega) (by omega) (by omega)];rfl
    · rw [zatm h3 h1 h40 h41]
      cases d <;> simp [endAt,h40,h41] <;> rfl
theorem zafz:∀(r:List Nat) (d i e:Nat),endAt r d i=some e->d<=r.length/\i<e/\e<=i+r.length
 | [],d,i,e,h=>by cases h
 | c::r,0,i,e,h=>by
  simp only [endAt] at h
  split at h
  · have:=zafz r 1 (i+1) e h;simp only [List.length_cons];omega
  · cases h
 | c::r,d+1,i,e,h=>by
  simp only [endAt] at h
  split at h
  · have:=zafz r (d+2) (i+1) e h;simp only [List.length_cons];omega
  · split at h
    · cases d with
      | zero=>cases h;simp only [List.length_cons];omega
      | succ d=>have:=zafz r (d+1) (i+1) e h;simp only [List.length_cons];omega
    · cases h
theorem zagb:∀(r:List Nat) (d m i:Nat),endAt r (d+1) i=some (i+r.length)->r.length+2 * m<=18+(d+1)->scan r (d+1) m=true
 | [],d,m,i,h,hl=>by cases h
 | c::r,d,m,i,h,hl=>by
  simp only [List.length_cons] at h hl
  simp only [endAt] at h
  simp only [scan]
  split at h
  · rename_i h40
    subst h40
    have hlen:=zafz r (d+2) (i+1) _ h
    have h9:m+1<=9:=by omega
    have e:Nat.beq 40 41=false:=rfl
    have e':Nat.beq 40 40=true:=rfl
    rw [e,e',zaau h9]
    exact zagb r (d+1) (m+1) (i+1) (by rw [h];congr 1;omega) (by omega)
  · split at h
    · rename_i h40 h41
      subst h41
      have e:Nat.beq 41 41=true:=rfl
      rw [e,bc_true]
      cases d with
      | zero=>
       have:r=[]:=by
        cases r with
        | nil=>rfl
        | cons a r=>simp at h
       subst this;rfl
      | succ d=>
       have h:endAt r (d+1) (i+1)=some (i+(r.length+1)):=h
       exact zagb r d m (i+1) (by rw [h];congr 1;omega) (by omega)
    · cases h
theorem zaou (l:List Nat) (hl:l.length<=18) (h:endAt l 0 0=some l.length):isTree l=true:=by
 cases l with
 | nil=>cases h
 | cons c r=>
  simp only [endAt] at h
  split at h
  · rename_i h40
    subst h40
    simp only [List.length_cons] at h hl
    exact zagb r 0 1 1 (by rw [h];congr 1;omega) (by omega)
  · cases h
theorem zanp {F g:Nat} (l:List Nat) (n:Nat) (hn:l.length=n) (hF:20<F) (ht:isTree l=false) (h:H):c_spec_TreeIn F g (.str l n) h=some (.bool false,h):=by
 have e0:∀k:AV->H->Option R,bindR (c_spec_l1End F g (.str l n) (.int 3 (.ofNat 0)) h) k=bindR (loopD F (c_spec_l1End_l2 F g) [.str l n,.int 3 (.ofNat 0),.int 3 (.ofNat 0)] h) k:=fun k=>rfl
 by_cases h0:n=0
 · subst h0;simp only [c_spec_TreeIn,c_spec_TreeIn_j1,c_spec_TreeIn_j2,zabh,zabg,zabi,zabj,zaa7,bc_true,zaag,zaco,zal3,zaai,zab8,zadu,zaby];rfl
 · by_cases h18:n<=18
   · have hloop:=zah1 (F:=F) (g:=g) l n hn (by omega) h l F 0 0 rfl (by omega) (by omega) (by omega)
     have hne:ieq (endI (endAt l 0 0)) (Int.ofNat n)=false:=by
      cases he:endAt l 0 0 with
      | none=>rfl
      | some e=>
       show Nat.beq e n=false
       rw [beq_decide,decide_eq_false_iff_not]
       intro hen
       have:=zaou l (by omega) (by rw [he,hen,hn])
       rw [this] at ht;cases ht
     simp only [c_spec_TreeIn,c_spec_TreeIn_j1,c_spec_TreeIn_j2,zabh,zabg,zabi,zabj,zaa7,bc_true,zaag,zaco,zal3,zaai,zab8,zadu,zaby,zaau (show Nat.succ 0<=n by omega),zaau h18,e0,hloop,bindR_some',hne]
   · simp only [c_spec_TreeIn,c_spec_TreeIn_j1,c_spec_TreeIn_j2,zabh,zabg,zabi,zabj,zaa7,bc_true,zaag,zaco,zal3,zaai,zab8,zadu,zaby,zaau (show Nat.succ 0<=n by omega),zabo (show 18<n by omega)]
     rfl
end
end Go.AI
namespace Go.AI
open Go Go.RowKit
noncomputable section
theorem zagm:∀(r:List Nat) (d m i:Nat),m<=9->scan r (d+1) m=true->endAt r (d+1) i=some (i+r.length)/\r.length+2 * m<=18+(d+1)
 | [],d,m,i,_,h=>by cases h
 | c::r,d,m,i,hm,h=>by
  simp only [scan] at h
  by_cases h41:c=41
  · subst h41
    have h:scan r d m=true:=h
    cases d with
    | zero=>
     cases r with
     | nil=>exact ⟨rfl,by simp;omega⟩
     | cons a r=>cases h
    | succ d=>
     obtain ⟨h1,h2⟩:=zagm r d m (i+1) hm h
     refine ⟨?_,by simp only [List.length_cons];omega⟩
     show endAt r (d+1) (i+1)=_
     rw [h1];simp only [List.length_cons];congr 1;omega
  · have e41:Nat.beq c 41=false:=by rw [beq_decide,decide_eq_false_iff_not];exact h41
    rw [e41,zaag] at h
    by_cases h40:c=40
    · subst h40
      have h:bc (Nat.ble (m+1) 9) (scan r (d+2) (m+1)) false=true:=h
      by_cases h9:m+1<=9
      · rw [zaau h9,bc_true] at h
        obtain ⟨h1,h2⟩:=zagm r (d+1) (m+1) (i+1) h9 h
        refine ⟨?_,by simp only [List.length_cons];omega⟩
        show endAt r (d+2) (i+1)=_
        rw [h1];simp only [List.length_cons];congr 1;omega
      · rw [zabo (by omega)] at h;cases h
    · have e40:Nat.beq c 40=false:=by rw [beq_decide,decide_eq_false_iff_not];exact h40
      rw [e40] at h;cases h
theorem zanf (l:List Nat) (h:isTree l=true):endAt l 0 0=some l.length/\0<l.length/\l.length<=18:=by
 cases l with
 | nil=>cases h
 | cons c r=>
  simp only [isTree] at h
  cases hc:Nat.beq c 40 with
  | false=>rw [hc] at h;cases h
  | true=>
   rw [hc,bc_true] at h
   have:=Nat.eq_of_beq_eq_true hc;subst this
   obtain ⟨h1,h2⟩:=zagm r 0 1 1 (by omega) h
   refine ⟨?_,by simp,by simp only [List.length_cons];omega⟩
   show endAt r 1 1=_
   rw [h1];simp only [List.length_cons];congr 1;omega
theorem zalr {F g:Nat} (l:List Nat) (n:Nat) (hn:l.length=n) (hF:20<F) (ht:isTree l=true) (h:H):c_spec_TreeIn F g (.str l n) h=some (.bool true,h):=by
 obtain ⟨h1,h2,h3⟩:=zanf l ht
 rw [hn] at h1 h2 h3
 have e0:∀k:AV->H->Option R,bindR (c_spec_l1End F g (.str l n) (.int 3 (.ofNat 0)) h) k=bindR (loopD F (c_spec_l1End_l2 F g) [.str l n,.int 3 (.ofNat 0),.int 3 (.ofNat 0)] h) k:=fun k=>rfl
 have hloop:=zah1 (F:=F) (g:=g) l n hn (by omega) h l F 0 0 rfl (by omega) (by omega) (by omega)
 have heq:ieq (endI (endAt l 0 0)) (Int.ofNat n)=true:=by rw [h1];show Nat.beq n n=true;exact Nat.beq_refl n
 simp only [c_spec_TreeIn,c_spec_TreeIn_j1,c_spec_TreeIn_j2,zabh,zabg,zabi,zabj,zaa7,bc_true,zaag,zaco,zal3,zaai,zab8,zadu,zaby,zaau (show Nat.succ 0<=n by omega),zaau h3,e0,hloop,bindR_some',heq]
end
end Go.AI
namespace Go.AI.T
open Go Go.RowKit Go.AI
noncomputable section
def c_spec_TreeIn (F g:Nat) (a0:AV) (h:H):Option R:=withStr a0 fun l n=>bc (Nat.beq (lenL l) n) (some (.bool (isTree l),h)) none
def c_impl_readTree (F g:Nat) (a0:AV) (h:H):Option R:=withStr a0 fun l n=>bc (isTree l) (Go.AI.c_impl_readTree 100 g a0 h) (bc (Nat.beq (lenL l) n) (bc (Nat.ble n 4611686018427387904) (some (noTree,h)) none) none)
theorem zanp {F g:Nat} {l:List Nat} {n:Nat} (hn:lenL l=n) (ht:isTree l=false) (h:H):c_spec_TreeIn F g (.str l n) h=some (.bool false,h):=by
 show bc (Nat.beq (lenL l) n) (some (AV.bool (isTree l),h)) none=_
 rw [hn,Nat.beq_refl,ht];rfl
theorem zalr {F g:Nat} {l:List Nat} {n:Nat} (hn:lenL l=n) (ht:isTree l=true) (h:H):c_spec_TreeIn F g (.str l n) h=some (.bool true,h):=by
 show bc (Nat.beq (lenL l) n) (some (AV.bool (isTree l),h)) none=_
 rw [hn,Nat.beq_refl,ht];rfl
theorem zan6 {F g:Nat} {l:List Nat} {n:Nat} (hn:lenL l=n) (hm:n<=1048576) (ht:isTree l=false) (h:H):c_impl_readTree F g (.str l n) h=some (.one .tup (.cons (.leaf .nilp) (.cons (.bool false) (.leaf .nil))),h):=by
 show bc (isTree l) _ (bc (Nat.beq (lenL l) n) (bc (Nat.ble n 4611686018427387904) (some (noTree,h)) none) none)=_
 rw [hn,Nat.beq_refl,ht,zaau (by omega)];rfl
theorem aNot_b {α:Type} (b:Bool) (h:H) (k:AV->H->Option α):aNot (.bool b) h k=k (.bool (bnot b)) h:=rfl
theorem bnot_t:bnot true=false:=rfl
theorem bnot_f:bnot false=true:=rfl
def tells (x:Option R):Bool:=@Option.rec R (fun _=>Bool) false (fun r=>r.1.onBool false id) x
theorem zatz {x:Option R} (e:tells x=true):∃h',x=some (.bool true,h'):=by
 cases x with
 | none=>cases e
 | some r=>
  obtain ⟨v,h'⟩:=r
  cases v <;> first | (cases e;done) | skip
  rename_i b
  have e:b=true:=e
  subst e;exact ⟨h',rfl⟩
end
end Go.AI.T
