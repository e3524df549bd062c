/- What the first line of the program says. -/
import Derived.Test.YtlcmolcajoeagaaDoorProg
import Derived.JoinedOf
import Derived.KernelRfl
namespace Go.AI
open Go
set_option maxRecDepth 100000
def ch (n : Nat) : Char := Char.ofNat n
def headL : List Char := [ch 104, ch 97, ch 114, ch 110, ch 101, ch 115, ch 115, ch 32, ch 101, ch 102, ch 97, ch 98, ch 100, ch 102, ch 102, ch 102, ch 56, ch 56, ch 53, ch 54, ch 99, ch 53, ch 56, ch 99, ch 51, ch 99, ch 101, ch 48, ch 98, ch 53, ch 98, ch 51, ch 100, ch 52, ch 101, ch 56, ch 52, ch 101, ch 98, ch 48, ch 51, ch 48, ch 51, ch 51, ch 56, ch 52, ch 52, ch 100, ch 99, ch 101, ch 99, ch 101, ch 99, ch 57, ch 102, ch 102, ch 50, ch 100, ch 101, ch 52, ch 57, ch 99, ch 100, ch 56, ch 54, ch 53, ch 101, ch 99, ch 56, ch 99, ch 48, ch 53, ch 32, ch 99, ch 117, ch 116, ch 32, ch 97, ch 116, ch 32, ch 108, ch 111, ch 111, ch 112, ch 46, ch 101, ch 120, ch 97, ch 109, ch 112, ch 108, ch 101, ch 47, ch 116, ch 114, ch 101, ch 101, ch 110, ch 117, ch 109, ch 98, ch 101, ch 114, ch 115, ch 47, ch 108, ch 97, ch 119, ch 115, ch 46, ch 70, ch 110, ch 70, ch 97, ch 114, ch 32, ch 108, ch 111, ch 111, ch 112, ch 46, ch 101, ch 120, ch 97, ch 109, ch 112, ch 108, ch 101, ch 47, ch 116, ch 114, ch 101, ch 101, ch 110, ch 117, ch 109, ch 98, ch 101, ch 114, ch 115, ch 47, ch 108, ch 97, ch 119, ch 115, ch 46, ch 70, ch 110, ch 80, ch 114, ch 117, ch 110, ch 101]
theorem head0 : Go.Proofs.Tryd.prog.initOrder = String.ofList headL := by kernel_rfl
theorem head1 : Go.Proofs.Tryd.prog.initOrder.toList = headL := by rw [head0, String.toList_ofList]
theorem head2 : ((behindMainWord (wordsSigns headL)).head? == some "cut".toList) = true := by kernel_rfl
theorem head3 : ∃ r, behindMainWord (wordsSigns Go.Proofs.Tryd.prog.initOrder.toList) = "cut".toList :: r := by
  rw [head1]
  have h := head2
  cases e : behindMainWord (wordsSigns headL) with
  | nil => rw [e] at h; cases h
  | cons c r => rw [e, List.head?_cons, beq_iff_eq, Option.some.injEq] at h; exact ⟨r, by rw [h]⟩
theorem strip_cut (r : List (List Char)) : stripLifts liftWords ("cut".toList :: r) = ([], "cut".toList :: r) := by kernel_rfl
section
variable (P : Program) (r : List (List Char)) (h : behindMainWord (wordsSigns P.initOrder.toList) = "cut".toList :: r)
include h
theorem make_of : P.make = some .cut := by
  unfold Program.make; rw [h]; dsimp only; rfl
theorem lifts0_of : P.headLifts = [] := by
  unfold Program.headLifts; rw [h, strip_cut]; rfl
theorem lifts_of : P.liftsFinal = false := by
  unfold Program.liftsFinal; rw [h, lifts0_of P r h]; rfl
theorem enter_of (hl : P.laysLater = false) (hb : P.bearsReflect = false) (hf : P.doorFits [] = true) : P.mayEnter = true := by
  unfold Program.mayEnter; rw [h]; dsimp only; rw [strip_cut, hl, hb, hf]; rfl
end
theorem later : Go.Proofs.Tryd.prog.laysLater = false := by kernel_rfl
theorem bears : Go.Proofs.Tryd.prog.bearsReflect = false := by kernel_rfl
theorem fits : Go.Proofs.Tryd.prog.doorFits [] = true := by kernel_rfl
theorem head_make : Go.Proofs.Tryd.prog.make = some .cut := head3.elim fun r h => make_of _ r h
theorem head_enter : Go.Proofs.Tryd.prog.mayEnter = true := head3.elim fun r h => enter_of _ r h later bears fits
theorem head_lifts : Go.Proofs.Tryd.prog.liftsFinal = false := head3.elim fun r h => lifts_of _ r h
end Go.AI
