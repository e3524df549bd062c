/- errors.As of no error, in company. -/
import Derived.Test.YtecliakkmgoglaaGreatDoorCo6
import Derived.KernelRfl
set_option linter.unusedVariables false
set_option linter.unusedSimpArgs false
set_option maxRecDepth 100000
namespace Go.Co.Cnt
open Go Go.Conc Go.AI Go.RowKit
noncomputable section
def Re0:Array Oper:=List.toArray ([Go.Oper.mk (some (4)) (Go.Op.assign (Go.Operand.const (Go.Value.bool (Bool.false)))) (4) ("wrap.go:102") (List.toArray ([])) (none)])
def Re1:Array Oper:=List.toArray ([Go.Oper.mk (some (8)) (Go.Op.move (Go.Operand.tmp (0))) (40) ("wrap.go:103") (List.toArray ([])) (none),Go.Oper.mk (some (9)) (Go.Op.binOp (Go.BinOp.eql) (40) (Go.Operand.tmp (8)) (Go.Operand.const (Go.Value.nilIface)) (40)) (4) ("wrap.go:103") (List.toArray ([Go.Edge.mk (0) (Go.Ground.data)])) (none)])
def Re2:Array Oper:=List.toArray ([Go.Oper.mk (some (4)) (Go.Op.assign (Go.Operand.const (Go.Value.bool (Bool.false)))) (4) ("wrap.go:104") (List.toArray ([])) (none)])
def seqR (c:Code):Code:=match c with | .seq _ y=>y | c=>c
theorem body_e:Go.Proofs.Tryz.f45.body=some (Code.seq (Code.region 0 Re0 false) (Code.seq (Code.seq (Code.region 1 Re1 false) (Code.cond (Go.Operand.tmp 9) (Code.seq (Code.region 2 Re2 false) Code.ret) Code.skip)) (seqR (seqR (bodyOf Go.Proofs.Tryz.f45))))):=by kernel_rfl
end
end Go.Co.Cnt
namespace Go.AI.T
open Go Go.RowKit Go.AI Go.Conc Go.Co Go.Co.Cnt
noncomputable section
def c_errors_As (F g:Nat) (a0 a1:AV) (h:H):Option R:=a0.onLeaf none fun l=>@Leaf.rec (fun _=>Option R) none none none none none (some (.bool false,h)) none (fun _=>none) (fun _ _ _ _=>none) (fun _=>none) l
theorem as_nil {F g:Nat} {a0 a1:AV} {h:H} {r:R} (e:c_errors_As F g a0 a1 h=some r):a0 = .leaf .nili/\r=(.bool false,h):=by
 cases a0 <;> (try (cases e;done))
 rename_i l
 cases l <;> first | (cases e;done) | (cases e;exact ⟨rfl,rfl⟩)
theorem zak9 {Post:Value->World->Prop} {main:Bool} {fk:Option Fk} (F g:Nat):∀args h r,u2 (c_errors_As F g) args h=some r->CoTri Go.Proofs.Tryz.prog tW Post main (fk,true) 45 args h r:=by
 intro args h r e
 obtain ⟨a0,a1,rfl,e1⟩:=zafv e
 obtain ⟨rfl,rfl⟩:=as_nil e1
 refine ⟨⟨_,Go.Proofs.Tryz.func45,by kernel_rfl,by kernel_rfl⟩,fun ι w vs s hR hC hV hF hfk=>?_⟩
 cases hV with
 | @cons _ v0 _ _ h1 hV=>
  cases hV with
  | @cons _ v1 _ _ h2 hV=>
   cases hV
   obtain rfl:v0=Value.nilIface:=(List.cons.inj (show [v0]=[Value.nilIface] from h1)).1
   have K:∀w₁,Rely tW s w w₁->PostC true ι h s w (.bool false,h) (.bool false) s w₁:=fun w₁ r=>
    ⟨ι,rfl,ExtC.rely hR hC r,zadm hR hC r,hC,hF.rely r⟩
   refine ⟨?_,_,s,w,K w (.refl _ _)⟩
   refine co_fn Go.Proofs.Tryz.func45 body_e ?_
   have e0:(#[.nilIface,v1]:Array Value)++Array.replicate (Go.Proofs.Tryz.f45.ntmps - (#[.nilIface,v1]:Array Value).size) undef = #[.nilIface,v1,undef,undef,undef,undef,undef,undef,undef,undef,undef,undef,undef,undef,undef,undef,undef,undef,undef,undef,undef,undef,undef,undef,undef,undef,undef,undef,undef,undef,undef,undef,undef,undef,undef,undef,undef,undef,undef,undef,undef,undef]:=by rw [Go.Proofs.Tryz.ntmps45];kernel_rfl
   show CoC _ _ _ _ _ _ _ { tmps:=(#[.nilIface,v1]:Array Value)++Array.replicate (Go.Proofs.Tryz.f45.ntmps - (#[.nilIface,v1]:Array Value).size) undef,defers:=[] } s w
   rw [e0]
   refine co_seq (zaav ?_)
   refine zadt (ops:=Re0) (v:=.bool false) rfl rfl (fun w=>by kernel_rfl) (fun w=>by kernel_rfl) fun w1 r1=>?_
   refine co_nil ?_
   refine co_seq (co_seq (zaav ?_))
   refine zadt (ops:=Re1) (v:=.nilIface) rfl rfl (fun w=>by kernel_rfl) (fun w=>by kernel_rfl) fun w2 r2=>?_
   refine zadt (ops:=Re1) (v:=.bool true) rfl rfl (fun w=>by kernel_rfl) (fun w=>by kernel_rfl) fun w3 r3=>?_
   refine co_nil ?_
   refine zagl (t:=true) (by kernel_rfl) ?_
   refine co_seq (zaav ?_)
   refine zadt (ops:=Re2) (v:=.bool false) rfl rfl (fun w=>by kernel_rfl) (fun w=>by kernel_rfl) fun w4 r4=>?_
   refine co_nil ?_
   have r:=((r1.trans r2).trans r3).trans r4
   refine co_ret ⟨.inr rfl,rfl,fun w₁ r'=>⟨_,zab7 (ts:=[4]) rfl,zacn (A:=fun _=>False) (zadk (ts:=[4]) rfl) (fun _ h=>h.elim) (zab7 (ts:=[4]) rfl) hF.busy (fun _ h=>h.elim),?_⟩⟩
   generalize hg:resV _ [4]=x
   obtain rfl:Value.bool false=x:=by rw [<- hg];kernel_rfl
   exact K w₁ (r.trans r')
theorem wk_errors_As {Post:Value->World->Prop} {main:Bool} (F g:Nat):∀args h r,u2 (c_errors_As F g) args h=some r->CoTri Go.Proofs.Tryz.prog tW Post main (none,false) 45 args h r:=fun args h r e=>(zak9 F g args h r e).weak
end
end Go.AI.T
