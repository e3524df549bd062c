/- A script's line that is not malformed, in company: the deferred function finds nothing to recover. -/
import Derived.Test.YtelijoecjhgleaaGreatDoorXa
import Derived.Conc.DeferLaws
import Derived.KernelRfl
set_option linter.unusedVariables false
set_option linter.unusedSimpArgs false
set_option maxRecDepth 100000
namespace Go.Co
open Go Go.Conc Go.AI Go.RowKit
section
variable {P : Program} {ty : TypeId} {Post : Value -> World -> Prop} {main : Bool} {b c : Frame} {a : Act} {k : List Item} {cs : List Frame} {w : World} {s : LG}
theorem stepG_deferV {ops : Array Oper} {i t : Nat} {rest : List Nat} {o : Oper} {f : FuncId} {cap : Array Value} {ats : Array TypeId} (ho : ops[i]? = some o) (hw : Region.wanted o (yielded ops a.tmps) = true) (hk : b.kind ≠ .early)
    (hop : o.op = .defer { callee := .value (.tmp t), args := #[], argTypes := ats }) (hv : a.eval (.tmp t) = .func (.func f) #[] cap) :
    stepG P main (G (b.at a (.inRegion ops (i :: rest) :: k)) cs) w = .go (G (b.at (Act.put ⟨a.tmps, { target := .fn (.func f) cap, args := #[] } :: a.defers⟩ o.dst undef) (.inRegion ops rest :: k)) cs) w #[] := by
  have hr : (execOp a.eval o).run P w = .ok (.defer { target := .fn (.func f) cap, args := #[] }) w := by
    unfold execOp
    simp [hop, resolve, Deferred.ofValue, hv]
  have he : (execOp a.eval o).events P w #[] = #[] := by
    unfold execOp
    simp [hop, resolve, Deferred.ofValue, hv]
  have hfin : (b.at ⟨a.tmps, { target := .fn (.func f) cap, args := #[] } :: a.defers⟩ (.inRegion ops (i :: rest) :: k)).finish undef = b.at (Act.put ⟨a.tmps, { target := .fn (.func f) cap, args := #[] } :: a.defers⟩ o.dst undef) (.inRegion ops rest :: k) := by rw [Frame.finish_at, ho]; rfl
  have hk' : (b.kind == CallKind.early) = false := by simpa using hk
  rw [stepG_oper ho hw, <- hfin]
  simp [stepG.apply, hr, he, G, Frame.at, hk', GStep.after, seen_none]
theorem co_deferV {fn : FuncId} {ops : Array Oper} {i t : Nat} {rest : List Nat} {o : Oper} {f : FuncId} {cap : Array Value} {ats : Array TypeId} {Q : Out} (ho : ops[i]? = some o) (hw : Region.wanted o (yielded ops a.tmps) = true)
    (hop : o.op = .defer { callee := .value (.tmp t), args := #[], argTypes := ats }) (hv : a.eval (.tmp t) = .func (.func f) #[] cap)
    (h : CoO P ty Post main fn ops rest Q (Act.put ⟨a.tmps, { target := .fn (.func f) cap, args := #[] } :: a.defers⟩ o.dst undef) s w) : CoO P ty Post main fn ops (i :: rest) Q a s w :=
  fun b k cs hb hk hq => .idle rfl (fun _ => stepG_deferV ho hw hk hop hv) (h b k cs hb hk hq)
theorem stepG_unwindV {f : FuncId} {fn : Func} {code : Code} {cap : Array Value} {ds : List Deferred} {todo : List Item} (hd : a.defers = { target := .fn (.func f) cap, args := #[] } :: ds) (hf : P.funcs[f]? = some fn) (hname : (fn.name == "runtime.NumGoroutine") = false) (hb : fn.body = some code) :
    stepG P main (G { b.at a todo with mode := .returning } cs) w =
      .go (G ((baseD f).at { tmps := cap ++ Array.replicate (fn.ntmps - cap.size) undef, defers := [] } [.code code]) ({ b.at ⟨a.tmps, ds⟩ todo with mode := .returning } :: cs)) w #[] := by
  have h1 : ¬ fn.name = "runtime.NumGoroutine" := by simpa using hname
  rw [<- enter_atD cap hf hb]
  simp [G, stepG, unwind, callDeferred, Frame.at, hd, invoke, callFunc, hf, h1, hb, GStep.after, seen_none]
theorem stepG_recover_none {ops : Array Oper} {i : Nat} {rest : List Nat} {o : Oper} {ats : Array TypeId} (ho : ops[i]? = some o) (hw : Region.wanted o (yielded ops a.tmps) = true) (hk : b.kind = .deferred) (hop : o.op = .call { callee := .builtin .recover, args := #[], argTypes := ats }) (hc : c.mode = .returning) :
    stepG P main (G (b.at a (.inRegion ops (i :: rest) :: k)) (c :: cs)) w = .go (G (b.at (a.put o.dst .nilIface) (.inRegion ops rest :: k)) (c :: cs)) w #[] := by
  have hr : (execOp a.eval o).run P w = .ok .recover w := by
    unfold execOp
    simp [hop, go_sem]
  have he : (execOp a.eval o).events P w #[] = #[] := by
    unfold execOp
    simp [hop, go_sem]
  have hfin : (b.at a (.inRegion ops (i :: rest) :: k)).finish .nilIface = b.at (a.put o.dst .nilIface) (.inRegion ops rest :: k) := by rw [Frame.finish_at, ho]; rfl
  rw [stepG_oper ho hw, <- hfin]
  simp [stepG.apply, hr, he, G, Frame.at, hk, tryRecover, hc, GStep.after, seen_none]
end
end Go.Co
namespace Go.Co
open Go Go.Conc Go.AI Go.RowKit
structure Hd (ι : Inj) (s : LG) (w : World) (B : Nat) (O : Obj) : Prop where
  own : s.own B
  lt : B < w.heap.size
  no : ∀ b o z, ι b ≠ some (B, o, z)
  at_ : w.heap[B]? = some O
section
variable {ty : TypeId} {q : Bool} {ι0 ι ι' : Inj} {h0 h h' : H} {s0 s s' : LG} {w0 w w' : World} {B : Nat} {O : Obj} {X : Nat -> Prop}
theorem Hd.ext (x : Hd ι s w B O) (e : ExtC q ι h s w ι' h' s' w') : Hd ι' s' w' B O :=
  ⟨e.aside B x.own x.lt x.no, Nat.lt_of_lt_of_le x.lt e.size, fun b o z e1 => (e.dom b B o z e1).elim (fun ⟨c, p, y, e2⟩ => x.no c p y e2) fun hl => Nat.lt_irrefl _ (Nat.lt_of_lt_of_le x.lt hl), (e.block B (.inl ⟨x.own, fun ⟨b, o, z, e1, _⟩ => x.no b o z e1⟩) x.lt).trans x.at_⟩
theorem Hd.rely (x : Hd ι s w B O) (r : Rely ty s w w') : Hd ι s w' B O := ⟨x.own, Nat.lt_of_lt_of_le x.lt r.size, x.no, (r.own B x.own).trans x.at_⟩
theorem At.set (A : At ι0 h0 s0 w0 X ι h s w) (hX : X B) (p : Nat) (v : Value) : At ι0 h0 s0 w0 X ι h s (w.setCell ⟨B, p, none⟩ v) := by
  have k := A.hid B hX
  have ne : ∀ C, C ≠ B -> (w.setCell ⟨B, p, none⟩ v).heap[C]? = w.heap[C]? := fun C hC => Below.heap_setCell _ _ _ _ hC
  have sz : (w.setCell ⟨B, p, none⟩ v).heap.size = w.heap.size := by simp [World.setCell]
  exact {
    ext := { A.ext with
      os := A.ext.os, tape := A.ext.tape, output := A.ext.output
      size := by rw [sz]; exact A.ext.size
      newR := fun C hC => by rw [sz]; exact A.ext.newR C hC
      new := fun C hC => by rw [sz]; exact A.ext.new C hC
      block := fun C hC hlt => (ne C (by rintro rfl; have := k.1; omega)).trans (A.ext.block C hC hlt)
      keepW := fun b C o z hb hn ho e => (ne C (by rintro rfl; exact k.2.2 _ _ _ (A.ext.le _ _ e))).trans (A.ext.keepW b C o z hb hn ho e) }
    rel := zagk A.rel (by rw [sz]; exact Nat.le_refl _) fun b C o z e => ne C (by rintro rfl; exact k.2.2 _ _ _ e)
    cov := A.cov
    fit := ⟨A.fit.U, A.fit.apart, fun C hC => by rw [sz]; exact A.fit.lt C hC, A.fit.busy, trivial⟩
    hid := fun C hC => by rw [sz]; exact A.hid C hC }
end
end Go.Co
namespace Go.AI.T
open Go Go.RowKit Go.AI Go.Conc Go.Co Go.Co.Cnt
noncomputable section
noncomputable def cL : Code -> Code | .seq a _ => a | c => c
noncomputable def cR : Code -> Code | .seq _ b => b | c => c
noncomputable def opsOf : Code -> Array Oper | .region _ o _ => o | _ => #[]
noncomputable def b_ans : Code := bodyOf Go.Proofs.Tryz.f19
noncomputable def b_clo : Code := bodyOf Go.Proofs.Tryz.f31
noncomputable def opsC : Array Oper := opsOf (cL b_clo)
noncomputable def rC : Code := cR b_clo
noncomputable def E0 (F g : Nat) : Env := (Env.add (Env.add (Env.add (fun _ _ _ => none : Env) 114 (u2 (c_impl_workbench_tree F g))) 95 (u1 (c_impl_workbench_same F g))) 87 (u1 (c_impl_workbench_show F g)))
theorem sE0 {Post : Value -> World -> Prop} {main : Bool} (F g : Nat) : CoSound Go.Proofs.Tryz.prog tW Post main (none, false) (E0 F g) := (CoSound.add (CoSound.add (CoSound.add (CoSound.none _ _ _ _ _) (fun args h r e => (co_impl_workbench_tree F g args h r e).weak)) (co_impl_workbench_same F g)) (wk_impl_workbench_show F g))
noncomputable def noK : St -> H -> Option R := fun _ _ => none
noncomputable def dClo (F : Nat) (x : AV) (h : H) : Option R := putO 11 (some 4) (.leaf .nili) (mkInit 0 [.undef]) fun stc => dOps Go.Proofs.Tryz.prog (fun _ _ _ => none : Env) 11 opsC.toList 7 .o (opsC.toList.drop 1) stc h fun stc h => den Go.Proofs.Tryz.prog (fun _ _ _ => none : Env) 11 F rC .o stc h (fun _ h => some (x, h)) (fun _ => noK) noK
noncomputable def cloA (x : AV) (h : H) : Option R := aAlloc [AV.str [] 0] h fun p h => aStoreN 1 p (.one .agg (.cons (.str [] 0) (.leaf .nil))) h fun _ h => some (x, h)
theorem k_clo (F : Nat) (x : AV) (h : H) : dClo F x h = cloA x h := by kernel_rfl
noncomputable def c_impl_workbench_answer (F g : Nat) (a0 a1 : AV) (h : H) : Option R := bindR (c_impl_workbench_carryOut F g (E0 F g) a0 a1 h) fun x h => withStr x fun l n => cloA (.str l n) h
theorem body_clo : Go.Proofs.Tryz.f31.body = some (.seq (.region 0 opsC false) rC) := by kernel_rfl
theorem ok_rC : codeOk Go.Proofs.Tryz.prog false rC = true := by kernel_rfl
theorem ok_oC : opsC.toList.all plainOp = true := by kernel_rfl
theorem nt_clo : Go.Proofs.Tryz.f31.ntmps = 11 := Go.Proofs.Tryz.ntmps31
noncomputable def oA : Oper := Go.Oper.mk (some (4)) (Go.Op.alloc (9)) (0) ("l9_command.go:205") (List.toArray ([])) (none)
noncomputable def o1 : Oper := Go.Oper.mk (some (5)) (Go.Op.makeFunc (Go.Fn.func (31)) (List.toArray ([])) (List.toArray ([Go.Operand.tmp (4)]))) (1) ("l9_command.go:206") (List.toArray ([])) (none)
noncomputable def o2 : Oper := Go.Oper.mk (none) (Go.Op.defer (Go.Call.mk (Go.Callee.value (Go.Operand.tmp (5))) (List.toArray ([])) (List.toArray ([])))) (0) ("l9_command.go:206") (List.toArray ([Go.Edge.mk (0) (Go.Ground.data)])) (none)
noncomputable def o3 : Oper := Go.Oper.mk (some (6)) (Go.Op.move (Go.Operand.tmp (0))) (60) ("l9_command.go:211") (List.toArray ([])) (none)
noncomputable def o4 : Oper := Go.Oper.mk (some (7)) (Go.Op.move (Go.Operand.tmp (1))) (9) ("l9_command.go:211") (List.toArray ([])) (none)
noncomputable def o5 : Oper := Go.Oper.mk (some (8)) (Go.Op.call (Go.Call.mk (Go.Callee.value (Go.Operand.func (32))) (List.toArray ([Go.Operand.tmp (6), Go.Operand.tmp (7)])) (List.toArray ([60, 9])))) (9) ("l9_command.go:211") (List.toArray ([Go.Edge.mk (0) (Go.Ground.data), Go.Edge.mk (1) (Go.Ground.data)])) (none)
noncomputable def o6 : Oper := Go.Oper.mk (none) (Go.Op.store (9) (Go.Operand.tmp (4)) (Go.Operand.tmp (8))) (0) ("l9_command.go:211") (List.toArray ([Go.Edge.mk (2) (Go.Ground.data), Go.Edge.mk (2) (Go.Ground.chain), Go.Edge.mk (0) (Go.Ground.phase), Go.Edge.mk (1) (Go.Ground.phase), Go.Edge.mk (2) (Go.Ground.phase)])) (none)
theorem body_ans : Go.Proofs.Tryz.f19.body = some (.seq (.region 0 #[oA] false) (.seq (.region 1 #[o1, o2] false) (.seq (.region 2 #[o3, o4, o5, o6] false) .ret))) := by kernel_rfl
noncomputable def oR : Oper := (opsC[0]?).getD default
theorem oC0 : opsC[0]? = some oR := by kernel_rfl
theorem oR_dst : oR.dst = some 4 := by kernel_rfl
theorem oR_op : oR.op = .call { callee := .builtin .recover, args := #[], argTypes := #[] } := by kernel_rfl
noncomputable def zS : Array Value := (((Go.Proofs.Tryz.prog.info? 9).bind (·.zero)).map (·.cells)).getD #[]
theorem zS_eq : ((Go.Proofs.Tryz.prog.info? 9).bind (·.zero)).map (·.cells) = some zS := by kernel_rfl
theorem zS_0 : zS[0]? = some (zS.getD 0 undef) := by kernel_rfl
theorem ag9 : isAggT Go.Proofs.Tryz.prog 9 = some false := by kernel_rfl
def outD (ι : Inj) (h : H) (s : LG) (w : World) (x : AV) (h2 : H) : Out := fun e a' s' w' => e = .ret /\ ∃ ι2 B v c t, At ι h s w (fun C => False \/ C = B) ι2 h2 s' w' /\ Hd ι2 s' w' B (.cells c t) /\ c[0]? = some v /\ VR ι2 x v /\ a'.defers = [{ target := .fn (.func 31) #[.pointer (some ⟨B, 0, none⟩)], args := #[] }] /\ a'.tmps.getD 4 undef = .pointer (some ⟨B, 0, none⟩) /\ s'.fk = none
theorem out_ans {Post : Value -> World -> Prop} {main : Bool} {F : Nat} {ι : Inj} {h h2 : H} {s : LG} {w : World} {r : R} {x : AV} {e : Exit} {a' : Act} {s' : LG} {w' : World} (hfk : s.fk = none) (hk : dClo F x h2 = some r) (q : outD ι h s w x h2 e a' s' w') :
    (∀ (todo : List Item) (b : Frame) (cs : List Frame), (∀ v s1 w1, PostC false ι h s w r v s1 w1 -> Walk Go.Proofs.Tryz.prog tW Post main s1 (G (b.finish v) cs) w1) -> Walk Go.Proofs.Tryz.prog tW Post main s' (G { (base 19).at a' todo with mode := .returning } (b :: cs)) w') /\ ∃ v s1 w1, PostC false ι h s w r v s1 w1 := by
  obtain ⟨rfl, ι2, B4, v8, c4, t4, A2, x2, hc4, hv8, hd, ht4, hfk2⟩ := q
  have hR2 := A2.rel
  have hC2 := A2.cov
  have hF2 := A2.fit
  unfold dClo at hk
  obtain ⟨stc, hkc, hputc⟩ := zaeh hk
  have hSc := hputc (ι := ι2) (v := .nilIface) (VL.entry (fn := Go.Proofs.Tryz.f31) (vs := [.pointer (some ⟨B4, 0, none⟩)]) nt_clo (by simp) (.cons rfl .nil)) rfl
  generalize hA : Act.put { tmps := [Value.pointer (some ⟨B4, 0, none⟩)].toArray ++ Array.replicate (Go.Proofs.Tryz.f31.ntmps - [Value.pointer (some ⟨B4, 0, none⟩)].toArray.size) undef, defers := [] } (some 4) .nilIface = aC at hSc
  have hdC : aC.defers = [] := by rw [<- hA]; rfl
  have hA' : Act.put { tmps := #[Value.pointer (some ⟨B4, 0, none⟩)] ++ Array.replicate (Go.Proofs.Tryz.f31.ntmps - (#[Value.pointer (some ⟨B4, 0, none⟩)] : Array Value).size) undef, defers := [] } oR.dst .nilIface = aC := by rw [oR_dst]; exact hA
  have O := dOpsC (fk0 := (none, false)) (ty := tW) (Post := Post) (main := main) (fn := 31) (ke := fun _ => noK) (kr := noK) (CoSound.none _ _ _ _ _) (zasq ok_oC) rfl 7 .o (opsC.toList.drop 1) 1 ι2 h2 aC s' w' ι2 stc h2 aC s' w' (fun q => by rw [List.getElem?_drop, Array.getElem?_toList]) (.same hR2 hC2) rfl hR2 hC2 hF2 hfk2 hSc hkc
  have B : ∀ (e : Exit) (a4 : Act) (s4 : LG) (w4 : World) (ι4 : Inj) (st4 : St) (h4 : H), ExtC false ι2 h2 s' w' ι4 h4 s4 w4 -> Rel ι4 h4 w4 -> Cov ι4 h4 s4 -> Fit s4 w4 -> StR ι4 11 st4 a4 -> den Go.Proofs.Tryz.prog (fun _ _ _ => none : Env) 11 F rC .o st4 h4 (fun _ h => some (x, h)) (fun _ => noK) noK = some r ->
      CoE Go.Proofs.Tryz.prog tW Post main 31 rC (PostD false ι4 h4 a4 s4 w4 11 (fun _ h => some (x, h)) (fun _ => noK) noK r) a4 s4 w4 := fun e a4 s4 w4 ι4 st4 h4 hE4 hR4 hC4 hF4 hS4 hk4 =>
    zaga (fk0 := (none, false)) (fn := 31) (CoSound.none _ _ _ _ _) rC _ _ _ _ _ _ _ ok_rC hk4 ι4 a4 s4 w4 hR4 hC4 hF4 (hE4.fk.trans hfk2) hS4
  have fin : ∀ (ι5 : Inj) (h5 : H) (s5 : LG) (w5 : World), ExtC false ι2 h2 s' w' ι5 h5 s5 w5 -> Rel ι5 h5 w5 -> Cov ι5 h5 s5 -> Fit s5 w5 -> some (x, h5) = some r -> ∀ w₁, Rely tW s5 w5 w₁ ->
      ∃ v, (results Go.Proofs.Tryz.f19 a'.tmps).run Go.Proofs.Tryz.prog w₁ = .ok v w₁ /\ Reads s5 ((results Go.Proofs.Tryz.f19 a'.tmps).events Go.Proofs.Tryz.prog w₁ #[]) /\ PostC false ι h s w r v s5 w₁ := by
    intro ι5 h5 s5 w5 hE5 hR5 hC5 hF5 hk5 w₁ rl
    have A5 := (A2.eval hE5 hR5 hC5 hF5).rely rl
    have x5 := (x2.ext hE5).rely rl
    obtain ⟨KN, hKN⟩ : ∃ KN : NB, ∀ b, KN b ↔ b = B4 := ⟨fun b => b = B4, fun _ => .rfl⟩
    have hkn : KN B4 := (hKN _).2 rfl
    have ex := ht4
    rw [Array.getD_eq_getD_getElem?] at ex
    have hcell : w₁.cell? ⟨B4, 0, none⟩ = some v8 := by rw [zadn x5.at_]; exact hc4
    have hrun : (results Go.Proofs.Tryz.f19 a'.tmps).run Go.Proofs.Tryz.prog w₁ = .ok v8 w₁ := by
      simp [results, Go.Proofs.Tryz.results19, ex, asAddr, loadVar, zabm ag9, hcell, go_sem]
    have hself : ({ s5 with fk := s.fk } : LG) = s5 := by rw [hfk, <- hfk2, <- hE5.fk]
    have X5 := A5.ext
    rw [hself] at X5
    cases hk5
    refine ⟨v8, hrun, zacm (A := KN) ?_ ?_ hrun A5.fit.busy (fun b e => by rw [(hKN b).1 e]; exact .inl x5.own), ι5, VX.mono hE5.le hv8, X5, A5.rel, A5.cov, A5.fit⟩
    · unfold results
      rw [Go.Proofs.Tryz.results19, Array.mapM_eq_mapM_toList]
      simp only [List.mapM_cons, List.mapM_nil]
      refine zaaa.2 (zahu.2 (zaaa.2 (zaaa.2 ?_)))
      rw [ht4]
      refine zaac.2 ?_
      unfold loadVar
      refine zaaa.2 (zad9 _ fun b => ?_)
      split
      · exact zaaa.2 (zaax _ fun n => zaaa.2 (zadm hkn fun v => zaac.2 (zaac.2 (zaac.2 trivial))))
      · exact zaif rfl hkn fun v => zaaa.2 (zaac.2 (zaac.2 trivial))
    · intro b hb
      rw [(hKN b).1 hb]
      refine ⟨x5.lt, fun y hy => ?_⟩
      rw [x5.at_] at hy; cases hy; rfl
  refine ⟨fun todo b cs hc => ?_, ?_⟩
  · refine .idle rfl (fun _ => stepG_unwindV hd Go.Proofs.Tryz.func31 (by kernel_rfl) body_clo) ?_
    refine .idle rfl (fun _ => stepG_seq) ?_
    refine .idle rfl (fun _ => stepG_region) ?_
    rw [show List.range opsC.size = 0 :: List.range' 1 7 by rw [show opsC.size = 8 by kernel_rfl]; rfl]
    refine .idle rfl (fun _ => stepG_recover_none (o := oR) (ats := #[]) oC0 (by kernel_rfl) rfl oR_op rfl) ?_
    rw [hA']
    refine O.1 (baseD 31) [.code rC] _ rfl (by simp [baseD]) fun e a4 s4 w4 q => ?_
    obtain ⟨ι4, st4, h4, hE4, hR4, hC4, hF4, hS4, hd4, hk4⟩ := q
    cases e with
    | normal =>
      refine (B .normal a4 s4 w4 ι4 st4 h4 hE4 hR4 hC4 hF4 hS4 hk4).1 (baseD 31) [] _ rfl (by simp [baseD]) fun e a5 s5 w5 q => ?_
      obtain ⟨ι5, st5, h5, hE5, hR5, hC5, hF5, hS5, hd5, hk5⟩ := q
      cases e with
      | normal =>
        have hd5 : a5.defers = [] := hd5.trans (hd4.trans hdC)
        refine .idle rfl (fun _ => stepG_end) ?_
        refine .idle rfl (fun w₁ => stepG_leave_deferred (v := .tuple #[]) rfl hd5 Go.Proofs.Tryz.func31 (by simp [results, Go.Proofs.Tryz.results31]) (by simp [results, Go.Proofs.Tryz.results31]) rfl) ?_
        refine .mk rfl fun w₁ rl => ?_
        obtain ⟨v, g1, g2, g3⟩ := fin ι5 h5 s5 w5 (hE4.trans hE5) hR5 hC5 hF5 hk5 w₁ rl
        exact .own s5 _ w₁ _ (zahv (b := base 19) (a := ⟨a'.tmps, []⟩) rfl rfl Go.Proofs.Tryz.func19 g1) (.reads (g2.seen _ _) w₁) (hc v s5 w₁ g3)
      | _ => exact absurd hk5 (by simp [noK])
    | _ => exact absurd hk4 (by simp [noK])
  · obtain ⟨e, a4, s4, w4, q⟩ := O.2
    obtain ⟨ι4, st4, h4, hE4, hR4, hC4, hF4, hS4, hd4, hk4⟩ := q
    cases e with
    | normal =>
      obtain ⟨e, a5, s5, w5, q⟩ := (B .normal a4 s4 w4 ι4 st4 h4 hE4 hR4 hC4 hF4 hS4 hk4).2
      obtain ⟨ι5, st5, h5, hE5, hR5, hC5, hF5, hS5, hd5, hk5⟩ := q
      cases e with
      | normal =>
        obtain ⟨v, g1, g2, g3⟩ := fin ι5 h5 s5 w5 (hE4.trans hE5) hR5 hC5 hF5 hk5 w5 (.refl _ _)
        exact ⟨v, s5, w5, g3⟩
      | _ => exact absurd hk5 (by simp [noK])
    | _ => exact absurd hk4 (by simp [noK])
theorem co_impl_workbench_answer {Post : Value -> World -> Prop} {main : Bool} (F g : Nat) : ∀ args h r, u2 (c_impl_workbench_answer F g) args h = some r -> CoTri Go.Proofs.Tryz.prog tW Post main (none, false) 19 args h r := by
  intro args h r e
  obtain ⟨a0, a1, rfl, e1⟩ := zafm e
  obtain ⟨⟨x8, h2⟩, ec, e2⟩ := zagl e1
  obtain ⟨l8, n8, hx8, e3⟩ := zaap e2
  have hx8 : x8 = .str l8 n8 := hx8
  subst hx8
  have e4 : dClo F (.str l8 n8) h2 = some r := (k_clo F (.str l8 n8) h2).trans e3
  have T : CoTri Go.Proofs.Tryz.prog tW Post main (none, false) 32 [a0, a1] h (.str l8 n8, h2) := co_impl_workbench_carryOut F g (E0 F g) (sE0 F g) [a0, a1] h _ ec
  refine ⟨⟨_, Go.Proofs.Tryz.func19, by kernel_rfl, by kernel_rfl⟩, fun ι w vs s hR hC hV hF hfk => ?_⟩
  have hfk : s.fk = none := hfk
  cases hV with | cons hv0 hV =>
  cases hV with | cons hv1 hV =>
  cases hV
  rename_i v0 v1
  have MK : ∀ w1, Rely tW s w w1 -> At ι h s w (fun C => False \/ C = w1.heap.size) ι h (s.plus w1.heap.size (w1.heap.size + 1)) (w1.alloc (.cells zS 9)) /\ Hd ι (s.plus w1.heap.size (w1.heap.size + 1)) (w1.alloc (.cells zS 9)) w1.heap.size (.cells zS 9) := fun w1 r1 => by
    have A1 := ((At.start hR hC hF).rely r1).made (.cells zS 9)
    exact ⟨A1, .inr ⟨Nat.le_refl _, Nat.lt_succ_self _⟩, by simp, (A1.hid _ (.inr rfl)).2.2, zar7 w1 (.cells zS 9)⟩
  have FIN : ∀ (B : Nat) (ι2 : Inj) (v8 : Value) (s2 : LG) (w2 : World) (a : Act), At ι h s w (fun C => False \/ C = B) ι2 h2 s2 w2 -> Hd ι2 s2 w2 B (.cells zS 9) -> VR ι2 (.str l8 n8) v8 -> s2.fk = none ->
      a.defers = [{ target := .fn (.func 31) #[.pointer (some ⟨B, 0, none⟩)], args := #[] }] -> a.tmps.getD 4 undef = .pointer (some ⟨B, 0, none⟩) -> outD ι h s w (.str l8 n8) h2 .ret a s2 (w2.setCell ⟨B, 0, none⟩ v8) := fun B ι2 v8 s2 w2 a A2 x2 hv8 hf2 hd ht =>
    ⟨rfl, ι2, B, v8, zS.setIfInBounds 0 v8, 9, A2.set (.inr rfl) 0 v8, ⟨x2.own, by simpa [World.setCell] using x2.lt, x2.no, zag8 x2.at_ 0 v8⟩, by
      have := (Array.getElem?_eq_some_iff.1 zS_0).1
      simp [this], hv8, hd, ht, hf2⟩
  have RUN : CoC Go.Proofs.Tryz.prog tW Post main 19 (.seq (.region 0 #[oA] false) (.seq (.region 1 #[o1, o2] false) (.seq (.region 2 #[o3, o4, o5, o6] false) .ret))) (outD ι h s w (.str l8 n8) h2) { tmps := #[v0, v1] ++ Array.replicate (Go.Proofs.Tryz.f19.ntmps - (#[v0, v1] : Array Value).size) undef, defers := [] } s w := by
    refine co_seq (zaav ?_)
    refine zaju (ops := #[oA]) (i := 0) (rest := []) (o := oA) (v := fun n => .pointer (some ⟨n, 0, none⟩)) rfl rfl (zaf4 rfl zS_eq) (zahx rfl zS_eq) hF.lt fun w1 r1 => ?_
    obtain ⟨A1, x1⟩ := MK w1 r1
    have hf1 : (s.plus w1.heap.size (w1.heap.size + 1)).fk = none := hfk
    generalize s.plus w1.heap.size (w1.heap.size + 1) = s1 at *
    generalize w1.alloc (.cells zS 9) = W1 at *
    generalize w1.heap.size = B at *
    refine co_nil ?_
    show CoC _ _ _ _ _ _ _ _ _ _
    refine co_seq (zaav ?_)
    refine zads (ops := #[o1, o2]) (i := 0) (rest := [1]) (o := o1) (v := .func (.func 31) #[] #[.pointer (some ⟨B, 0, none⟩)]) rfl rfl (fun w => by rw [zauw (f := .func 31) (xs := #[]) (ys := #[.tmp 4]) rfl w]; simp [Act.eval, oA, Act.put, show Go.Proofs.Tryz.f19.ntmps = 9 from Go.Proofs.Tryz.ntmps19]) (ev_fnO (f := .func 31) (xs := #[]) (ys := #[.tmp 4]) rfl) fun w₁ rl => ?_
    have A1 := A1.rely rl
    have x1 := x1.rely rl
    refine co_deferV (o := o2) (t := 5) (f := 31) (cap := #[.pointer (some ⟨B, 0, none⟩)]) (ats := #[]) rfl rfl rfl ?_ ?_
    · simp [Act.put, Act.eval, o1, oA, show Go.Proofs.Tryz.f19.ntmps = 9 from Go.Proofs.Tryz.ntmps19]
    refine co_nil ?_
    show CoC _ _ _ _ _ _ _ _ _ _
    generalize hA2 : Act.put ⟨(Act.put (Act.put { tmps := #[v0, v1] ++ Array.replicate (Go.Proofs.Tryz.f19.ntmps - (#[v0, v1] : Array Value).size) undef, defers := [] } oA.dst (.pointer (some ⟨B, 0, none⟩))) o1.dst (.func (.func 31) #[] #[.pointer (some ⟨B, 0, none⟩)])).tmps, { target := .fn (.func 31) #[.pointer (some ⟨B, 0, none⟩)], args := #[] } :: (Act.put (Act.put { tmps := #[v0, v1] ++ Array.replicate (Go.Proofs.Tryz.f19.ntmps - (#[v0, v1] : Array Value).size) undef, defers := [] } oA.dst (.pointer (some ⟨B, 0, none⟩))) o1.dst (.func (.func 31) #[] #[.pointer (some ⟨B, 0, none⟩)])).defers⟩ o2.dst undef = a2
    have ht2 : a2.tmps = #[v0, v1, undef, undef, .pointer (some ⟨B, 0, none⟩), .func (.func 31) #[] #[.pointer (some ⟨B, 0, none⟩)], undef, undef, undef] := by
      rw [<- hA2, show Go.Proofs.Tryz.f19.ntmps = 9 from Go.Proofs.Tryz.ntmps19]; rfl
    have hd2 : a2.defers = [{ target := .fn (.func 31) #[.pointer (some ⟨B, 0, none⟩)], args := #[] }] := by rw [<- hA2]; rfl
    obtain ⟨tm2, de2⟩ := a2
    have ht2 : tm2 = _ := ht2
    have hd2 : de2 = _ := hd2
    subst ht2 hd2
    refine co_seq (zaav ?_)
    refine zads (ops := #[o3, o4, o5, o6]) (i := 0) (rest := [1, 2, 3]) (o := o3) (v := v0) rfl rfl (rMv rfl rfl) (eMv rfl) fun w3 r3 => ?_
    refine zads (ops := #[o3, o4, o5, o6]) (i := 1) (rest := [2, 3]) (o := o4) (v := v1) rfl rfl (rMv rfl rfl) (eMv rfl) fun w4 r4 => ?_
    have A4 := (A1.rely r3).rely r4
    have x4 := (x1.rely r3).rely r4
    refine zaoh (ops := #[o3, o4, o5, o6]) (i := 2) (rest := [3]) (o := o5) (g := 32) (args := #[v0, v1]) rfl rfl rfl rfl (by simp [Act.eval, Act.put, o3, o4]) T.can A4.fit.busy fun w5 r5 => ?_
    have A5 := A4.rely r5
    have x5 := x4.rely r5
    refine ((T.run ι w5 [v0, v1] s1 A5.rel A5.cov (.cons hv0 (.cons hv1 .nil)) A5.fit hf1).1).mono fun v8 s6 w6 p => ?_
    obtain ⟨ι6, hv8, hE6, hR6, hC6, hF6⟩ := p
    have A6 := A5.eval hE6 hR6 hC6 hF6
    have x6 := x5.ext hE6
    have hf6 : s6.fk = none := hE6.fk.trans hf1
    obtain ⟨bs, rfl, _⟩ : ∃ b, v8 = .string b /\ True := by
      obtain ⟨b, e, _⟩ := hv8
      cases e; exact ⟨b, rfl, trivial⟩
    refine zaom (ops := #[o3, o4, o5, o6]) (i := 3) (rest := []) (o := o6) (t := 9) (x := .tmp 4) (y := .tmp 8) (B := B) (q := 0) (v := .string bs) (z := zS.getD 0 undef) (c := zS) (e := 9) rfl rfl rfl ag9 rfl rfl rfl x6.own x6.at_ zS_0 A6.fit.busy (fun w => Go.Proofs.Tryz.sizeOf9 w) rfl fun w7 r7 => ?_
    refine co_nil ?_
    show CoC _ _ _ _ _ _ _ _ _ _
    exact co_ret (FIN B ι6 (.string bs) s6 w7 _ (A6.rely r7) (x6.rely r7) hv8 hf6 rfl rfl)
  refine ⟨fun b cs hc => ?_, ?_⟩
  · rw [enter_at _ Go.Proofs.Tryz.func19 body_ans]
    refine RUN (base 19) [] (b :: cs) rfl (by simp [base]) fun e a' s' w' q => ?_
    have hq := q.1
    subst hq
    exact fun todo => (out_ans hfk e4 q).1 todo b cs hc
  · obtain ⟨A1, x1⟩ := MK w (.refl _ _)
    obtain ⟨_, v8, s6, w6, ι6, hv8, hE6, hR6, hC6, hF6⟩ := T.run ι _ [v0, v1] _ A1.rel A1.cov (.cons hv0 (.cons hv1 .nil)) A1.fit hfk
    exact (out_ans (Post := Post) (main := main) hfk e4 (FIN _ ι6 v8 s6 w6 { tmps := #[undef, undef, undef, undef, .pointer (some ⟨w.heap.size, 0, none⟩)], defers := [{ target := .fn (.func 31) #[.pointer (some ⟨w.heap.size, 0, none⟩)], args := #[] }] } (A1.eval hE6 hR6 hC6 hF6) (x1.ext hE6) hv8 (hE6.fk.trans hfk) rfl rfl)).2
end
end Go.AI.T
