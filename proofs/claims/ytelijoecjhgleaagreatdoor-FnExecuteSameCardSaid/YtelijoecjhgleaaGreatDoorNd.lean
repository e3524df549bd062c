/- How many digits a number has, in company: the table of the powers of ten is read. -/
import Derived.Test.YtelijoecjhgleaaGreatDoorExb
import Derived.KernelRfl
set_option linter.unusedVariables false
set_option linter.unusedSimpArgs false
set_option maxRecDepth 100000
namespace Go.AI.T
open Go Go.Proofs.Tryz Go.RowKit Go.AI Go.Conc Go.Co Go.Co.Cnt
noncomputable section
variable {Post : Value -> World -> Prop} {main : Bool} {fk : Option Fk}
noncomputable def c_math_bits_Len64_j1 (F g : Nat) (vs : List AV) (h : H) : Option R := (fun x5 x6 => aConvI 4 x5 h fun x7 h => aIdxStr (AV.str [0, 1, 2, 2, 3, 3, 3, 3, 4, 4, 4, 4, 4, 4, 4, 4, 5, 5, 5, 5, 5, 5, 5, 5, 5, 5, 5, 5, 5, 5, 5, 5, 6, 6, 6, 6, 6, 6, 6, 6, 6, 6, 6, 6, 6, 6, 6, 6, 6, 6, 6, 6, 6, 6, 6, 6, 6, 6, 6, 6, 6, 6, 6, 6, 7, 7, 7, 7, 7, 7, 7, 7, 7, 7, 7, 7, 7, 7, 7, 7, 7, 7, 7, 7, 7, 7, 7, 7, 7, 7, 7, 7, 7, 7, 7, 7, 7, 7, 7, 7, 7, 7, 7, 7, 7, 7, 7, 7, 7, 7, 7, 7, 7, 7, 7, 7, 7, 7, 7, 7, 7, 7, 7, 7, 7, 7, 7, 7, 8, 8, 8, 8, 8, 8, 8, 8, 8, 8, 8, 8, 8, 8, 8, 8, 8, 8, 8, 8, 8, 8, 8, 8, 8, 8, 8, 8, 8, 8, 8, 8, 8, 8, 8, 8, 8, 8, 8, 8, 8, 8, 8, 8, 8, 8, 8, 8, 8, 8, 8, 8, 8, 8, 8, 8, 8, 8, 8, 8, 8, 8, 8, 8, 8, 8, 8, 8, 8, 8, 8, 8, 8, 8, 8, 8, 8, 8, 8, 8, 8, 8, 8, 8, 8, 8, 8, 8, 8, 8, 8, 8, 8, 8, 8, 8, 8, 8, 8, 8, 8, 8, 8, 8, 8, 8, 8, 8, 8, 8, 8, 8, 8, 8, 8, 8, 8, 8, 8, 8, 8, 8, 8, 8, 8, 8, 8, 8] 256) x7 h fun x8 h => aConvI 3 x8 h fun x9 h => aArith iadd x6 x9 h fun x10 h => some (x10, h)) (hd vs) (hd (tl vs))
noncomputable def c_math_bits_Len64_j2 (F g : Nat) (vs : List AV) (h : H) : Option R := (fun x3 x4 => aCmpI (fun a b => ile b a) x3 (AV.int 7 (Int.ofNat 256)) h fun x11 h => withBool x11 fun t12 => bc t12 (aShr x3 (AV.int 7 (Int.ofNat 8)) h fun x13 h => aArith iadd x4 (AV.int 3 (Int.ofNat 8)) h fun x14 h => (c_math_bits_Len64_j1 F g) [x13, x14] h) ((c_math_bits_Len64_j1 F g) [x3, x4] h)) (hd vs) (hd (tl vs))
noncomputable def c_math_bits_Len64_j3 (F g : Nat) (vs : List AV) (h : H) : Option R := (fun x1 x2 => aCmpI (fun a b => ile b a) x1 (AV.int 7 (Int.ofNat 65536)) h fun x15 h => withBool x15 fun t16 => bc t16 (aShr x1 (AV.int 7 (Int.ofNat 16)) h fun x17 h => aArith iadd x2 (AV.int 3 (Int.ofNat 16)) h fun x18 h => (c_math_bits_Len64_j2 F g) [x17, x18] h) ((c_math_bits_Len64_j2 F g) [x1, x2] h)) (hd vs) (hd (tl vs))
noncomputable def c_math_bits_Len64 (F g : Nat) (a0 : AV) (h : H) : Option R := aCmpI (fun a b => ile b a) a0 (AV.int 7 (Int.ofNat 4294967296)) h fun x19 h => withBool x19 fun t20 => bc t20 (aShr a0 (AV.int 7 (Int.ofNat 32)) h fun x21 h => (c_math_bits_Len64_j3 F g) [x21, (AV.int 3 (Int.ofNat 32))] h) ((c_math_bits_Len64_j3 F g) [a0, (AV.int 3 (Int.ofNat 0))] h)
theorem k_math_bits_Len64 (F g : Nat) (a0 : AV) (h : H) : callD prog (fun _ _ _ => none : Env) 25 F (bodyOf f185) [2] (.two .o (.at_ [0, 2] (.two .o (.two (.two .o .o) .o)) (.at_ [0, 2] (.two .o (.two (.two .o .o) .o)) (.at_ [0, 2] (.two .o (.two (.two .o .o) .o)) (.two .o .o))))) [a0] h = c_math_bits_Len64 F g a0 h := by kernel_rfl
theorem co_math_bits_Len64 (F g : Nat) : ∀ args h r, u1 (c_math_bits_Len64 F g) args h = some r -> CoTri prog tW Post main (fk, true) 185 args h r := by
  intro args h r e; obtain ⟨a0, rfl, e1⟩ := zafo e; exact zace func185 rfl rfl rfl ntmps185 (by kernel_rfl) (CoSound.none _ _ _ _ _) ((k_math_bits_Len64 F g a0 h).trans e1)
noncomputable def c_internal_strconv_log10Pow2 (F g : Nat) (a0 : AV) (h : H) : Option R := aArith imul a0 (AV.int 3 (Int.ofNat 78913)) h fun x1 h => aShr x1 (AV.int 7 (Int.ofNat 18)) h fun x2 h => some (x2, h)
theorem k_internal_strconv_log10Pow2 (F g : Nat) (a0 : AV) (h : H) : callD prog (fun _ _ _ => none : Env) 6 F (bodyOf f184) [2] (.two .o (.two .o .o)) [a0] h = c_internal_strconv_log10Pow2 F g a0 h := by kernel_rfl
theorem co_internal_strconv_log10Pow2 (F g : Nat) : ∀ args h r, u1 (c_internal_strconv_log10Pow2 F g) args h = some r -> CoTri prog tW Post main (fk, true) 184 args h r := by
  intro args h r e; obtain ⟨a0, rfl, e1⟩ := zafo e; exact zace func184 rfl rfl rfl ntmps184 (by kernel_rfl) (CoSound.none _ _ _ _ _) ((k_internal_strconv_log10Pow2 F g a0 h).trans e1)
noncomputable def c_internal_strconv_bool2_46f8 (F g : Nat) (a0 : AV) (h : H) : Option R := withBool a0 fun t1 => bc t1 (some ((AV.int 3 (Int.ofNat 1)), h)) (some ((AV.int 3 (Int.ofNat 0)), h))
theorem k_internal_strconv_bool2_46f8 (F g : Nat) (a0 : AV) (h : H) : callD prog (fun _ _ _ => none : Env) 4 F (bodyOf f186) [2] (.two .o (.two (.two .o (.two (.two .o .o) .o)) (.two .o .o))) [a0] h = c_internal_strconv_bool2_46f8 F g a0 h := by kernel_rfl
theorem co_internal_strconv_bool2_46f8 (F g : Nat) : ∀ args h r, u1 (c_internal_strconv_bool2_46f8 F g) args h = some r -> CoTri prog tW Post main (fk, true) 186 args h r := by
  intro args h r e; obtain ⟨a0, rfl, e1⟩ := zafo e; exact zace func186 rfl rfl rfl ntmps186 (by kernel_rfl) (CoSound.none _ _ _ _ _) ((k_internal_strconv_bool2_46f8 F g a0 h).trans e1)
end
end Go.AI.T
namespace Go.AI.T
open Go Go.RowKit Go.AI Go.Conc Go.Co Go.Co.Cnt
noncomputable section
noncomputable def nL : Code -> Code | .seq a _ => a | c => c
noncomputable def nR : Code -> Code | .seq _ b => b | c => c
noncomputable def b_nd : Code := bodyOf Go.Proofs.Tryz.f124
noncomputable def n0 : Code := nL b_nd
noncomputable def n1 : Code := nL (nR b_nd)
noncomputable def opsN : Array Oper := match nL (nR (nR b_nd)) with | .region _ o _ => o | _ => #[]
noncomputable def EN (F g : Nat) : Env := Env.add (Env.add (Env.add (fun _ _ _ => none : Env) 185 (u1 (c_math_bits_Len64 F g))) 184 (u1 (c_internal_strconv_log10Pow2 F g))) 186 (u1 (c_internal_strconv_bool2_46f8 F g))
theorem sEN {Post : Value -> World -> Prop} {main : Bool} {fk : Option Fk} (F g : Nat) : CoSound Go.Proofs.Tryz.prog tW Post main (fk, true) (EN F g) := CoSound.add (CoSound.add (CoSound.add (CoSound.none _ _ _ _ _) (co_math_bits_Len64 F g)) (co_internal_strconv_log10Pow2 F g)) (co_internal_strconv_bool2_46f8 F g)
noncomputable def noN : St -> H -> Option R := fun _ _ => none
def tabN (h : H) : Bool := @Blk.rec (fun _ => Bool) false (fun fl _ => Nat.beq fl 65538) (fun _ _ => false) (h.get 1)
noncomputable def tailN (F g : Nat) (st : St) (h : H) : Option R := dOps Go.Proofs.Tryz.prog (EN F g) 15 opsN.toList 4 .o (opsN.toList.drop 5) st h fun st h => some (get st 2, h)
noncomputable def stepN (F g : Nat) (st : St) (h : H) : Option R := withInt (get st 3) fun kk c => natI c fun k => bc (Nat.beq kk 3) (bc (Nat.ble (Nat.succ k) 20) (bc (tabN h) (withCells h 1 fun _ l => onSome (nthO l k) fun y => putO 15 (some 7) (get st 3) st fun s1 => putO 15 (some 8) (get st 0) s1 fun s2 => putO 15 (some 9) (get st 3) s2 fun s3 => putO 15 (some 10) (.leaf (.raw (.pointer (some ⟨1, k, none⟩)))) s3 fun s4 => putO 15 (some 11) y s4 fun s5 => tailN F g s5 h) none) none) none
noncomputable def c_internal_strconv_numDigits (F g : Nat) (a0 : AV) (h : H) : Option R := den Go.Proofs.Tryz.prog (EN F g) 15 F n0 .o (mkInit 0 [a0]) h (fun st h => den Go.Proofs.Tryz.prog (EN F g) 15 F n1 .o st h (fun st h => stepN F g st h) (fun _ => noN) noN) (fun _ => noN) noN
theorem body_nd : Go.Proofs.Tryz.f124.body = some (.seq n0 (.seq n1 (.seq (.region 2 opsN false) .ret))) := by kernel_rfl
theorem ok_n0 : codeOk Go.Proofs.Tryz.prog true n0 = true := by kernel_rfl
theorem ok_n1 : codeOk Go.Proofs.Tryz.prog true n1 = true := by kernel_rfl
theorem ok_n2 : opsN.toList.all plainOp = true := by kernel_rfl
theorem nt_nd : Go.Proofs.Tryz.f124.ntmps = 15 := Go.Proofs.Tryz.ntmps124
noncomputable def oN (i : Nat) : Oper := (opsN[i]?).getD default
theorem oN0 : opsN[0]? = some (oN 0) /\ (oN 0).guard = none /\ (oN 0).dst = some 7 /\ (oN 0).op = .move (.tmp 3) := ⟨by kernel_rfl, by kernel_rfl, by kernel_rfl, by kernel_rfl⟩
theorem oN1 : opsN[1]? = some (oN 1) /\ (oN 1).guard = none /\ (oN 1).dst = some 8 /\ (oN 1).op = .move (.tmp 0) := ⟨by kernel_rfl, by kernel_rfl, by kernel_rfl, by kernel_rfl⟩
theorem oN2 : opsN[2]? = some (oN 2) /\ (oN 2).guard = none /\ (oN 2).dst = some 9 /\ (oN 2).op = .move (.tmp 3) := ⟨by kernel_rfl, by kernel_rfl, by kernel_rfl, by kernel_rfl⟩
theorem oN3 : opsN[3]? = some (oN 3) /\ (oN 3).guard = none /\ (oN 3).dst = some 10 /\ (oN 3).op = .indexAddr 147 (.global 1) (.tmp 9) := ⟨by kernel_rfl, by kernel_rfl, by kernel_rfl, by kernel_rfl⟩
theorem oN4 : opsN[4]? = some (oN 4) /\ (oN 4).guard = none /\ (oN 4).dst = some 11 /\ (oN 4).op = .load 72 (.tmp 10) := ⟨by kernel_rfl, by kernel_rfl, by kernel_rfl, by kernel_rfl⟩
theorem run_ixN {ρ : Operand -> Value} {k : Nat} (hk : k < 20) (h1 : ρ (.global 1) = .pointer (some ⟨1, 0, none⟩)) (h2 : ρ (.tmp 9) = .int .i64 (k : Int)) (w : World) : (execOp ρ (oN 3)).run Go.Proofs.Tryz.prog w = .ok (.value (.pointer (some ⟨1, k, none⟩))) w := by
  have hu : Go.Proofs.Tryz.prog.underlying 147 = some (.array 20 72) := by kernel_rfl
  have hs : sizeT Go.Proofs.Tryz.prog 72 = some 1 := by kernel_rfl
  have hk' : (k : Int) < 20 := by omega
  simp [execOp, oN3.2.2.2, h1, h2, Instr.indexAt, Instr.sureAddr, asIntOf, run_underlying hu, hk, hk', zaa0 hs, addr_add]
theorem want_none {o : Oper} (h : o.guard = none) (ys : Nat -> Option Bool) : Region.wanted o ys = true := by unfold Region.wanted; rw [h]
theorem bare_ixN {ρ : Operand -> Value} : Cf Go.Proofs.Tryz.prog (fun _ => False) (fun _ => False) (execOp ρ (oN 3)) := by
  unfold execOp; simp only [oN3.2.2.2]; exact (Bare.val (zakt _ _ _)) fun _ => trivial
theorem put_get {a : Act} {d t : Nat} {v : Value} (h : d ≠ t) : (a.put (some d) v).tmps.getD t undef = a.tmps.getD t undef := by simp [Act.put, Array.getElem?_setIfInBounds, h]
theorem co_internal_strconv_numDigits {Post : Value -> World -> Prop} {main : Bool} {fk : Option Fk} (F g : Nat) : ∀ args h r, u1 (c_internal_strconv_numDigits F g) args h = some r -> CoTri Go.Proofs.Tryz.prog tW Post main (fk, true) 124 args h r := by
  intro args h r e
  obtain ⟨a0, rfl, e1⟩ := zafo e
  have e1 : den Go.Proofs.Tryz.prog (EN F g) 15 F n0 .o (mkInit 0 [a0]) h (fun st h => den Go.Proofs.Tryz.prog (EN F g) 15 F n1 .o st h (fun st h => stepN F g st h) (fun _ => noN) noN) (fun _ => noN) noN = some r := e1
  refine ⟨⟨_, Go.Proofs.Tryz.func124, by kernel_rfl, by kernel_rfl⟩, fun ι w vs s hR hC hV hF hfk => ?_⟩
  have D0 := zaga (fk0 := (fk, true)) (fn := 124) (sEN (Post := Post) (main := main) F g) n0 _ _ _ _ _ _ _ ok_n0 e1 ι _ s w hR hC hF hfk (VL.entry (fn := Go.Proofs.Tryz.f124) nt_nd (by simp) hV)
  have S1 : CoE Go.Proofs.Tryz.prog tW Post main 124 (.seq n0 (.seq n1 (.seq (.region 2 opsN false) .ret))) (bodyOut Go.Proofs.Tryz.prog tW Go.Proofs.Tryz.f124 (PostC true ι h s w r)) { tmps := vs.toArray ++ Array.replicate (Go.Proofs.Tryz.f124.ntmps - vs.toArray.size) undef, defers := [] } s w := by
    refine zauf (CoE.mono D0 fun e a1 s1 w1 q => ?_)
    obtain ⟨ι1, st1, h1, hE1, hR1, hC1, hF1, hS1, hd1, hk1⟩ := q
    cases e with
    | normal =>
      show CoE _ _ _ _ _ _ _ _ _ _
      have D1 := zaga (fk0 := (fk, true)) (fn := 124) (sEN (Post := Post) (main := main) F g) n1 _ _ _ _ _ _ _ ok_n1 hk1 ι1 a1 s1 w1 hR1 hC1 hF1 (hE1.fk.trans hfk) hS1
      refine zauf (CoE.mono D1 fun e a2 s2 w2 q => ?_)
      obtain ⟨ι2, st2, h2, hE2, hR2, hC2, hF2, hS2, hd2, hk2⟩ := q
      cases e with
      | normal =>
        show CoE _ _ _ _ _ _ _ _ _ _
        have hdd : a2.defers = [] := hd2.trans hd1
        have hfk2 : s2.fk = fk := (hE1.trans hE2).fk.trans hfk
        have hk2 : stepN F g st2 h2 = some r := hk2
        unfold stepN at hk2
        obtain ⟨kk, c, hg3, e2⟩ := zaah hk2
        obtain ⟨k, rfl, e3⟩ := zah4 e2
        obtain ⟨hkk, e4⟩ := zaab e3
        obtain ⟨hlt, e5⟩ := zaab e4
        obtain ⟨htab, e6⟩ := zaab e5
        obtain ⟨fl, l, hb1, e7⟩ := zaae e6
        obtain ⟨y, hy, e8⟩ := zaay e7
        obtain rfl := Nat.eq_of_beq_eq_true hkk
        have hlt : k < 20 := Nat.le_of_ble_eq_true hlt
        rw [zadr] at hy
        obtain ⟨t1, f1, p1⟩ := zaeh e8
        obtain ⟨t2, f2, p2⟩ := zaeh f1
        obtain ⟨t3, f3, p3⟩ := zaeh f2
        obtain ⟨t4, f4, p4⟩ := zaeh f3
        obtain ⟨t5, f5, p5⟩ := zaeh f4
        have hpin : (h2.get 1).pins 0 65534 := by
          unfold tabN at htab
          rw [hb1] at htab ⊢
          have := Nat.eq_of_beq_eq_true htab
          subst this; exact ⟨by decide, l, rfl⟩
        obtain ⟨⟨z, ib⟩, _⟩ := hR2.pin 1 0 65534 hpin
        obtain ⟨cc, ty, lo, hi, hh, _, hc, _⟩ := hR2.cells hb1 ib
        obtain ⟨v, hv1, hv2⟩ := hc k y hy
        rw [Nat.zero_add] at hv1
        have hown := zahz hC2 1 (zab0 ib (by rw [hb1]; simp))
        have v3 := hS2.at_ 3
        rw [hg3] at v3
        have x3 : a2.tmps.getD 3 undef = .int .i64 (k : Int) := v3.int
        have x0 := hS2.at_ 0
        have S3 := p1 (v := a2.tmps.getD 3 undef) hS2 (hS2.at_ 3)
        have S4 := p2 (v := a2.tmps.getD 0 undef) S3 x0
        have S5 := p3 (v := a2.tmps.getD 3 undef) S4 (hS2.at_ 3)
        have S6 := p4 (v := .pointer (some ⟨1, k, none⟩)) S5 rfl
        have S7 := p5 (v := v) S6 hv2
        generalize hA : (((((a2.put (some 7) (a2.tmps.getD 3 undef)).put (some 8) (a2.tmps.getD 0 undef)).put (some 9) (a2.tmps.getD 3 undef)).put (some 10) (.pointer (some ⟨1, k, none⟩))).put (some 11) v) = a3 at S7
        have hda : a3.defers = [] := by rw [<- hA]; simp only [zabb]; exact hdd
        have O := dOpsC (fk0 := (fk, true)) (ty := tW) (Post := Post) (main := main) (fn := 124) (ke := fun _ => noN) (kr := noN) (sEN F g) (zasq ok_n2) rfl 4 .o (opsN.toList.drop 5) 5 ι2 h2 a3 s2 w2 ι2 t5 h2 a3 s2 w2 (fun q => by rw [List.getElem?_drop, Array.getElem?_toList]) (.same hR2 hC2) rfl hR2 hC2 hF2 hfk2 S7 f5
        have fin : ∀ e a4 s4 w4, PostD true ι2 h2 a3 s2 w2 15 (fun st h => some (get st 2, h)) (fun _ => noN) noN r e a4 s4 w4 -> e = .normal /\ CoE Go.Proofs.Tryz.prog tW Post main 124 .ret (bodyOut Go.Proofs.Tryz.prog tW Go.Proofs.Tryz.f124 (PostC true ι h s w r)) a4 s4 w4 := fun e a4 s4 w4 q => by
          obtain ⟨ι4, st4, h4, hE4, hR4, hC4, hF4, hS4, hd4, hk4⟩ := q
          cases e with
          | normal =>
            have hk4 : some (get st4 2, h4) = some r := hk4
            cases hk4
            refine ⟨rfl, zate ⟨.inr rfl, hd4.trans hda, fun w₁ rl => ⟨_, zacb (ts := [2]) rfl, zacm (A := fun _ => False) (zadq (ts := [2]) rfl) (fun _ h => h.elim) (zacb (ts := [2]) rfl) hF4.busy (fun _ h => h.elim), ι4, hS4.at_ 2, ((hE1.trans hE2).trans hE4).trans (ExtC.rely hR4 hC4 rl), zadj hR4 hC4 rl, hC4, hF4.rely rl⟩⟩⟩
          | _ => exact absurd hk4 (by simp [noN])
        have len5 : List.range opsN.size = 0 :: 1 :: 2 :: 3 :: 4 :: List.range' 5 (opsN.toList.drop 5).length := by kernel_rfl
        refine zauf ⟨zaav ?_, ?_⟩
        · rw [len5]
          refine zads (o := oN 0) (v := a2.tmps.getD 3 undef) oN0.1 (want_none oN0.2.1 _) (rMv oN0.2.2.2 rfl) (eMv oN0.2.2.2) fun w3 r3 => ?_
          rw [oN0.2.2.1]
          refine zads (o := oN 1) (v := a2.tmps.getD 0 undef) oN1.1 (want_none oN1.2.1 _) (rMv oN1.2.2.2 (put_get (by decide))) (eMv oN1.2.2.2) fun w4 r4 => ?_
          rw [oN1.2.2.1]
          refine zads (o := oN 2) (v := a2.tmps.getD 3 undef) oN2.1 (want_none oN2.2.1 _) (rMv oN2.2.2.2 ((put_get (by decide)).trans (put_get (by decide)))) (eMv oN2.2.2.2) fun w5 r5 => ?_
          rw [oN2.2.2.1]
          refine co_op (o := oN 3) oN3.1 (want_none oN3.2.1 _) fun w6 r6 => ?_
          have hr := run_ixN (ρ := (((a2.put (some 7) (a2.tmps.getD 3 undef)).put (some 8) (a2.tmps.getD 0 undef)).put (some 9) (a2.tmps.getD 3 undef)).eval) hlt rfl (by rw [peE (by simp only [psz]; have := hS2.size; omega)]; exact x3) w6
          rw [hr]
          refine ⟨s2, Own1.reads (zac3 bare_ixN (fun _ h => h.elim) (fun _ h => h.elim) hr hF2.busy (fun _ h => h.elim) (fun _ h => h.elim)) w6, ?_⟩
          rw [oN3.2.2.1]
          have R : Rely tW s2 w2 w6 := ((r3.trans r4).trans r5).trans r6
          refine zai2 (o := oN 4) oN4.1 (want_none oN4.2.1 _) oN4.2.2.2 (by kernel_rfl) (peE (by simp only [psz]; have := hS2.size; omega)) hown ((hown.elim (R.own 1) (R.ro 1)).trans hh) hv1 hF2.busy fun w7 r7 => ?_
          rw [oN4.2.2.1, hA]
          refine CoO.rely ?_ (R.trans r7)
          intro b kk cs hb hk hc
          refine O.1 b kk cs hb hk fun e a4 s4 w4 q => ?_
          obtain ⟨he, q2⟩ := fin e a4 s4 w4 q; subst he
          exact hc .normal a4 s4 w4 q2
        · obtain ⟨e, a4, s4, w4, q⟩ := O.2
          obtain ⟨he, q2⟩ := fin e a4 s4 w4 q
          subst he
          exact ⟨.normal, a4, s4, w4, q2⟩
      | _ => exact absurd hk2 (by simp [noN])
    | _ => exact absurd hk1 (by simp [noN])
  refine ⟨co_fn Go.Proofs.Tryz.func124 body_nd S1.1, ?_⟩
  obtain ⟨e, a', s', w', q⟩ := S1.2
  obtain ⟨v, _, _, q⟩ := q.2.2 w' (.refl _ _)
  exact ⟨v, s', w', q⟩
theorem wk_internal_strconv_numDigits {Post : Value -> World -> Prop} {main : Bool} (F g : Nat) : ∀ args h r, u1 (c_internal_strconv_numDigits F g) args h = some r -> CoTri Go.Proofs.Tryz.prog tW Post main (none, false) 124 args h r := fun args h r e => (co_internal_strconv_numDigits F g args h r e).weak
end
end Go.AI.T
