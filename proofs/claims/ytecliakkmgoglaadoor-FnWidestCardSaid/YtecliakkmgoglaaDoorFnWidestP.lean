/- For every code the law FnWidest returns true, on every schedule, and leaves the code as it was; no condition. -/
import Derived.Test.YtecliakkmgoglaaDoorRows
import Derived.Test.YtecliakkmgoglaaDoorCards
import Derived.Test.YtecliakkmgoglaaDoorTie
import Derived.Test.YtecliakkmgoglaaDoorLw
import Derived.SevenTiedAt
import Derived.Test.YtecliakkmgoglaaDoorHead
import Derived.Test.YtecliakkmgoglaaDoorFnWidestLaw
import Derived.WalkKit
import Derived.Conc.LeavingOf
import Derived.ProofKit
import Derived.Conc.Holds
import Derived.SizedLaws
import Derived.Test.YtecliakkmgoglaaDoorAi2
import Derived.OpenShut
import Derived.ShutString
import Derived.ChangeOld
import Derived.Below
namespace Go.Proofs.YtecliakkmgoglaaDoor.fnWidest
open Go.ChangeShapes Go.WideShapes Go.ChangeAt Go.RowKit
open Go.ChangeMaps (open_string shut_string)
set_option linter.unusedVariables false
theorem own:ownKnob Tryd.prog.godebug=none:=by kernel_rfl
theorem laidOut:laidOutB Tryd.prog=true:=by kernel_rfl
/-- WHAT THE WALK IS TOLD OF A SLICE OF INTEGERS THAT CAME IN: it is nil; or it leads to a row of 'cap' cells, the numbers 'zs' (the first 'len' are its elements, the rest its spare room), each fitting its kind. -/
def IsRow (k:IntKind) (w:World) (a:Option Addr) (len cap:Nat) (zs:List Int):Prop:=
 (a=none ∧ len=0 ∧ cap=0 ∧ zs=[]) ∨
 ∃x,a=some x ∧ len ≤ cap ∧ cap ≤ maxLen ∧ zs.length=cap ∧ (∀i,i<zs.length → w.cell? (x.add i)=some (.int k (zs.getD i 0))) ∧ ∀n∈zs,(Lit.int k n).wf=true
theorem walk (a0:Option Addr) (len0 cap0:Nat) (z0:List Int) (W:World) (w0:IsRow .u8 W a0 len0 cap0 z0):Go.Co.Walk Tryd.prog Go.Co.Cnt.tW (fun v w'=>v = .bool true ∧ Below W.heap.size W w') true (Go.Co.lgLaw W) (Go.Conc.G (Frame.enter Tryd.prog 3 #[.slice a0 len0 cap0] .normal) []) W:=by
 obtain ⟨ι,a,h',B,hR,hB,hv,e⟩:=Go.AI.zaro Go.AI.T.law_FnWidest w0
 exact Go.AI.T.root_laws_FnWidest 2097152 20 e hR (Go.Co.zau4 hR (Go.AI.zau2 hB)) (.cons hv .nil)
set_option maxRecDepth 100000 in
theorem lifted (os:Os) (started:os.Started) (H:Type) (enc:TypeId×Value → H) :
 ReturnsInLeavingWide {} Tryd.checked os 3 .any (fun w args=>(Rows.fnWidestSpec.pre enc Tryd.prog Tryd.f3 [] false w args ∧ laidMetH Tryd.prog Rows.fnWidestRow.laid w) ∧ sizedMet enc Tryd.prog Tryd.f3 (OpenSpec.ofChange Rows.fnWidestSpec) false w args) (Rows.fnWidestSpec.post enc Tryd.prog Tryd.f3 false true false false):=by
 refine leavingWide_and (C:=Tryd.checked) (X:=fun w _=>laidMetH Tryd.prog Rows.fnWidestRow.laid w) own started Tryd.func3
  (ChangeSpec.witness_at (enc:=enc) (C:=Tryd.checked) (os:=os) (X:=fun w _=>laidMetH Tryd.prog Rows.fnWidestRow.laid w) false (Laid.world os) #[.slice none 0 0] 8 rfl (by kernel_rfl) (by kernel_rfl) (by kernel_rfl) (by kernel_rfl) (by kernel_rfl) (Laid.world_met os _)) ?_
 intro W base args ds gs before hval0 hW hcnd _ _
 have hval:∀(j:Nat) t v,Tryd.f3.params[j]?=some t → args[j]?=some v → Value.okWide Tryd.prog W .any base t v:=hval0
 have hW':=hW
 obtain ⟨p,q,hA0,hV,rfl,hfz,hnd⟩:=hW
 have hA:DataW.TrodAll enc Tryd.prog W 0 (fun _=>true) true Tryd.f3.params.toList args.toList ds p:=hA0
 rw [Tryd.params3] at hA hval
 obtain ⟨v0,vs0,d0,ds0,p0,q0,hargs,rfl,rfl,h0,r0⟩:=trodAll_cons hA
 obtain ⟨rfl,rfl,rfl⟩:=trodAll_nil r0
 obtain rfl:args = #[v0]:=by cases args;simp_all
 obtain ⟨rfl,rfl⟩:=trodVars_none hV
 obtain ⟨a0,len0,cap0,rfl⟩:=okWide_slice Tryd.underlying22 (hval 0 22 v0 rfl rfl)
 have k0:=h0
 have lt0:∀x∈p0,x.block<W.heap.size:=by obtain ⟨m,hm⟩:=k0;exact DataW.trod_lt m _ _ _ hm
 obtain ⟨z0,w0⟩:∃zs,IsRow .u8 W a0 len0 cap0 zs:=by
  obtain ⟨fuel,hf⟩:=h0
  rcases open_ints Tryd.underlying22 Tryd.underlying5 (by kernel_rfl) hf with ⟨hcs,_⟩ | ⟨x,l,c,zs,hcs,_,hl,hm,hz,_,hcell,hwz⟩
  · simp [Value.cells] at hcs
    obtain ⟨rfl,rfl,rfl⟩:=hcs
    exact ⟨[],.inl ⟨rfl,rfl,rfl,rfl⟩⟩
  · simp [Value.cells] at hcs
    obtain ⟨rfl,rfl,rfl⟩:=hcs
    exact ⟨zs,.inr ⟨_,rfl,hl,hm,by simpa using hz,hcell,hwz⟩⟩
 clear hA0 hval0
 obtain ⟨N,last,o,w',t',h1,h2,h3,h4⟩:=Go.Co.zaur (walk a0 len0 cap0 z0 W w0) (fun b h=>h.elim) (fun b h=>h.elim (fun h=>h.elim) id)
 refine ⟨N,last,o,w',t',h1,h2,h3,h4.mono fun v ⟨he,bel⟩=>?_⟩
 subst he
 exact ⟨_,_,_,[],_,[],hW',trodAll_mk1 (shut_bool Tryd.underlying4 _),(trodAll_cons_mk (Below.trod laidOut (by kernel_rfl) (of_decide_eq_true (by kernel_rfl)) k0 bel lt0) trodAll_mk0),rfl,bel.frame _,fun h=>by cases h⟩
theorem closed:joinedFacts Tryd.prog 3 Tryd.f3 Rows.fnWidestSpec Rows.fnWidestRow=true:=by
 unfold joinedFacts;rw [Go.AI.head_make,Go.AI.head_enter,Go.AI.head_lifts];kernel_rfl
theorem over:Rows.fnWidestRow.holds Tryd.pinned (OpenSpec.ofChange Rows.fnWidestSpec):=
 OpenClaim.holds_of_wide_leaving 3 Tryd.f3 rfl rfl rfl rfl rfl rfl rfl ⟨rfl,rfl,rfl,rfl,rfl⟩ rfl rfl rfl rfl rfl (by kernel_rfl) Tryd.func3 closed
  (of_decide_eq_true (by kernel_rfl)) (by unfold Func.isWrapper;first | (rw [if_pos (by decide +kernel)];kernel_rfl) | (rw [if_neg (by decide +kernel)];exact ⟨rfl,rfl⟩))
  (fun os started H enc _=>lifted os started H enc)
theorem proved:Rows.FnWidestCardSaid:=
 ⟨Claim7.tied_new_at .later [.handle] true (Claim7.new_of_sixth over (true, "1227a4ccd67ca8b41ed28a2b783ec809249b49e6762dcf784a79f5734a17482f") true rfl ⟨rfl,rfl⟩ (by kernel_rfl) rfl (fun f fn hf hfn=>by
  obtain rfl:f=3:=Option.some.inj ((show Tryd.prog.funcNamed Rows.fnWidestRow.func=some 3 by kernel_rfl).symm.trans hf) |>.symm
  obtain rfl:fn=Tryd.f3:=(Option.some.inj (Tryd.func3.symm.trans hfn)).symm
  exact ⟨by kernel_rfl,fun j t ht=>by
   have all:Tryd.f3.params.toList.all (fun t=>!Tryd.prog.wantsStandIn t)=true:=by kernel_rfl
   have:=List.all_eq_true.1 all t (Array.mem_toList_iff.2 (Array.mem_of_getElem? ht))
   exact (by simpa using this:Tryd.prog.wantsStandIn t=false)⟩)) (by kernel_rfl),fun _ h=>(by cases h),fnWidest_row_tie,fun h=>(by cases h),by kernel_rfl⟩
end Go.Proofs.YtecliakkmgoglaaDoor.fnWidest
