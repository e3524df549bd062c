/- Grafting: the law at any two texts and any number. -/
import Derived.Test.YtecliakkmgoglaaDoorGrS0
import Derived.Test.YtecliakkmgoglaaDoorGrS1
import Derived.Test.YtecliakkmgoglaaDoorGrS2
import Derived.Test.YtecliakkmgoglaaDoorGrS3
import Derived.KernelRfl
set_option linter.unusedVariables false
set_option linter.unusedSimpArgs false
set_option maxRecDepth 100000
namespace Go.AI.T
open Go Go.RowKit Go.AI
noncomputable section
theorem pin0 : pinOk (Hp 65643 43) = true := by kernel_rfl
theorem n0 : 0 < ((Hp 65643 43) : H).n := Nat.le_refl 1
theorem fl_all : okL flipB 60 0 35 = true := (cc fl0 (cc fl1 (cc fl2 (cc fl3 (cc fl4 (cc fl5 (cc fl6 (cc fl7 (cc fl8 (cc fl9 (cc fl10 (cc fl11 (cc fl12 (cc fl13 (cc fl14 (cc fl15 (cc fl16 (cc fl17 (cc fl18 (cc fl19 (cc fl20 (cc fl21 (cc fl22 (cc fl23 (cc fl24 (cc fl25 (cc fl26 (cc fl27 (cc fl28 (cc fl29 (cc fl30 (cc fl31 (cc fl32 (cc fl33 (cc fl34 rfl)))))))))))))))))))))))))))))))))))
theorem sm_all : okL smallB 10 0 206 = true := (cc sm0 (cc sm1 (cc sm2 (cc sm3 (cc sm4 (cc sm5 (cc sm6 (cc sm7 (cc sm8 (cc sm9 (cc sm10 (cc sm11 (cc sm12 (cc sm13 (cc sm14 (cc sm15 (cc sm16 (cc sm17 (cc sm18 (cc sm19 (cc sm20 (cc sm21 (cc sm22 (cc sm23 (cc sm24 (cc sm25 (cc sm26 (cc sm27 (cc sm28 (cc sm29 (cc sm30 (cc sm31 (cc sm32 (cc sm33 (cc sm34 (cc sm35 (cc sm36 (cc sm37 (cc sm38 (cc sm39 (cc sm40 (cc sm41 (cc sm42 (cc sm43 (cc sm44 (cc sm45 (cc sm46 (cc sm47 (cc sm48 (cc sm49 (cc sm50 (cc sm51 (cc sm52 (cc sm53 (cc sm54 (cc sm55 (cc sm56 (cc sm57 (cc sm58 (cc sm59 (cc sm60 (cc sm61 (cc sm62 (cc sm63 (cc sm64 (cc sm65 (cc sm66 (cc sm67 (cc sm68 (cc sm69 (cc sm70 (cc sm71 (cc sm72 (cc sm73 (cc sm74 (cc sm75 (cc sm76 (cc sm77 (cc sm78 (cc sm79 (cc sm80 (cc sm81 (cc sm82 (cc sm83 (cc sm84 (cc sm85 (cc sm86 (cc sm87 (cc sm88 (cc sm89 (cc sm90 (cc sm91 (cc sm92 (cc sm93 (cc sm94 (cc sm95 (cc sm96 (cc sm97 (cc sm98 (cc sm99 (cc sm100 (cc sm101 (cc sm102 (cc sm103 (cc sm104 (cc sm105 (cc sm106 (cc sm107 (cc sm108 (cc sm109 (cc sm110 (cc sm111 (cc sm112 (cc sm113 (cc sm114 (cc sm115 (cc sm116 (cc sm117 (cc sm118 (cc sm119 (cc sm120 (cc sm121 (cc sm122 (cc sm123 (cc sm124 (cc sm125 (cc sm126 (cc sm127 (cc sm128 (cc sm129 (cc sm130 (cc sm131 (cc sm132 (cc sm133 (cc sm134 (cc sm135 (cc sm136 (cc sm137 (cc sm138 (cc sm139 (cc sm140 (cc sm141 (cc sm142 (cc sm143 (cc sm144 (cc sm145 (cc sm146 (cc sm147 (cc sm148 (cc sm149 (cc sm150 (cc sm151 (cc sm152 (cc sm153 (cc sm154 (cc sm155 (cc sm156 (cc sm157 (cc sm158 (cc sm159 (cc sm160 (cc sm161 (cc sm162 (cc sm163 (cc sm164 (cc sm165 (cc sm166 (cc sm167 (cc sm168 (cc sm169 (cc sm170 (cc sm171 (cc sm172 (cc sm173 (cc sm174 (cc sm175 (cc sm176 (cc sm177 (cc sm178 (cc sm179 (cc sm180 (cc sm181 (cc sm182 (cc sm183 (cc sm184 (cc sm185 (cc sm186 (cc sm187 (cc sm188 (cc sm189 (cc sm190 (cc sm191 (cc sm192 (cc sm193 (cc sm194 (cc sm195 (cc sm196 (cc sm197 (cc sm198 (cc sm199 (cc sm200 (cc sm201 (cc sm202 (cc sm203 (cc sm204 (cc sm205 rfl))))))))))))))))))))))))))))))))))))))))))))))))))))))))))))))))))))))))))))))))))))))))))))))))))))))))))))))))))))))))))))))))))))))))))))))))))))))))))))))))))))))))))))))))))))))))))))))))))))))))))))))
theorem flip_all {l : List Nat} (ht : isTree l = true) : flipB l = true := okS_all (k := 60) (K := 35) (by omega) (by omega) (fun i hi => okL_mem fl_all i (by omega) (by omega)) ht
theorem small_all {l : List Nat} (ht : isTree l = true) : smallB l = true := okS_all (k := 10) (K := 206) (by omega) (by omega) (fun i hi => okL_mem sm_all i (by omega) (by omega)) ht
theorem key_CutGraft {l l2 : List Nat} {n n2 : Nat} {v : Int} (hn : lenL l = n) (hn2 : lenL l2 = n2) : tells (c_laws_FnExactCutGraft 2097152 20 (.str l n) (.int 3 v) (.str l2 n2) (Hp 65643 43)) = true := by
  by_cases h20 : 1048576 < n
  · simp only [c_laws_FnExactCutGraft, aLenK_str, aCmpI_int, kEq_self, bc_true, ilt_nat, ble_true (show Nat.succ 1048576 ≤ n by omega), withBool_bool]; rfl
  by_cases h21 : 1048576 < n2
  · simp only [c_laws_FnExactCutGraft, aLenK_str, aCmpI_int, kEq_self, bc_true, bc_false, ilt_nat, ble_false (show n < Nat.succ 1048576 by omega), ble_true (show Nat.succ 1048576 ≤ n2 by omega), withBool_bool]; rfl
  have hm : n ≤ 1048576 := by omega
  have hm2 : n2 ≤ 1048576 := by omega
  by_cases hoff : isTree l = true ∧ ∃ m : Nat, v = .ofNat m ∧ 2 * (m + 1) ≤ n
  · obtain ⟨ht, m, rfl, hv⟩ := hoff
    cases ht2 : isTree l2 with
    | false =>
      obtain ⟨h1, h2, e1, e2⟩ := both_offt (F := 2097152) (by omega) ht hn hn2 hm2 ht2 hv (Hp 65643 43) pin0 n0
      exact law_none hm hm2 e1 e2
    | true =>
      by_cases hb : 18 < n + n2
      · obtain ⟨h1, h2, e1, e2⟩ := big (F := 2097152) (by omega) ht hn ht2 hn2 hv hb (Hp 65643 43) pin0 n0
        exact law_none hm hm2 e1 e2
      · subst hn; subst hn2
        obtain ⟨b1, b2⟩ := bc_and (both_all ht)
        obtain ⟨b2, b3⟩ := bc_and b2
        have hol : 2 * (opensN l 0).length = lenL l := Nat.eq_of_beq_eq_true b2
        obtain ⟨c1, _⟩ := bc_and (both_all ht2)
        obtain ⟨M, kb, k, S, s1, s2, s3, s4⟩ := goodB_some ht2 c1
        obtain ⟨M1, kb1, k1, S1, s11, s12, s13, s14⟩ := goodB_some ht b1
        exact small_of (small_all ht) (flip_all ht2) ht ht2 (by omega) (by omega) (by omega) (by omega) hv
  · obtain ⟨h1, h2, e1, e2⟩ := both_off (F := 2097152) (by omega) hn hm hn2 hm2 (fun ht m hm3 => by
      by_cases h : n < 2 * (m + 1)
      · exact h
      · exact absurd ⟨ht, m, hm3, by omega⟩ hoff) (Hp 65643 43) pin0 n0
    exact law_none hm hm2 e1 e2
end
end Go.AI.T
