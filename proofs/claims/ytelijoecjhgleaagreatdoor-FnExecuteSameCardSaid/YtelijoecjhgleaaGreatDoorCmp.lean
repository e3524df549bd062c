/- The comparison of texts, in company. -/
import Derived.Test.YtelijoecjhgleaaGreatDoorCo6
import Derived.Lib.Bytealg
import Derived.Conc.EntryLaws
import Derived.KernelRfl
set_option linter.unusedVariables false
set_option linter.unusedSimpArgs false
set_option maxRecDepth 100000
namespace Go.Co.Cnt
open Go Go.Conc Go.AI Go.RowKit
noncomputable section
def Rq0:Array Oper:=List.toArray ([Go.Oper.mk (some (4)) (Go.Op.assign (Go.Operand.const (Go.Value.int (Go.IntKind.i64) (0)))) (3) ("compare_native.go:14") (List.toArray ([])) (none)])
def Rq1:Array Oper:=List.toArray ([Go.Oper.mk (some (5)) (Go.Op.move (Go.Operand.tmp (0))) (9) ("compare_native.go:15") (List.toArray ([])) (none),Go.Oper.mk (some (6)) (Go.Op.move (Go.Operand.tmp (1))) (9) ("compare_native.go:15") (List.toArray ([])) (none),Go.Oper.mk (some (7)) (Go.Op.call (Go.Call.mk (Go.Callee.value (Go.Operand.func (257))) (List.toArray ([Go.Operand.tmp (5),Go.Operand.tmp (6)])) (List.toArray ([9,9])))) (3) ("compare_native.go:15") (List.toArray ([Go.Edge.mk (0) (Go.Ground.data),Go.Edge.mk (1) (Go.Ground.data)])) (none),Go.Oper.mk (some (4)) (Go.Op.assign (Go.Operand.tmp (7))) (3) ("compare_native.go:15") (List.toArray ([Go.Edge.mk (2) (Go.Ground.data),Go.Edge.mk (2) (Go.Ground.chain),Go.Edge.mk (0) (Go.Ground.phase),Go.Edge.mk (1) (Go.Ground.phase),Go.Edge.mk (2) (Go.Ground.phase)])) (none)])
def Cq:Code:=Code.seq (Code.region 0 Rq0 false) (Code.seq (Code.region 1 Rq1 false) (Go.Code.ret))
theorem body_q:Go.Proofs.Tryz.f198.body=some Cq:=by kernel_rfl
theorem ev_cmp {P:Program} (a b:ByteArray) (w:World) (es:Array Event):(Extern.BytealgCompare.compare #[.string a,.string b]).events P w es=es:=by
 change Sem.events P (do pure (goInt (Extern.BytealgCompare.cmp (<- Extern.Bytes.bytesOf (.string a)) (<- Extern.Bytes.bytesOf (.string b))))) w es=es
 simp [Extern.Bytes.bytesOf]
section
variable {P:Program} {ty:TypeId} {Post:Value->World->Prop} {main:Bool} {fn:FuncId} {ops:Array Oper} {i:Nat} {rest:List Nat} {o:Oper} {Q:Out} {a:Act} {s:LG} {w:World}
theorem zarp {ats:Array TypeId} {ags:Array Operand} {f:FuncId} {fn':Func} {e:Array Value->Sem Value} {v:Value} {args:Array Value} (ho:ops[i]?=some o) (hw:Region.wanted o (yielded ops a.tmps)=true) (hop:o.op = .call { callee:=.value (.func f),args:=ags,argTypes:=ats }) (hf:P.funcs[f]?=some fn') (hname:(fn'.name == "runtime.NumGoroutine")=false) (hb:fn'.body.isNone=true) (hn:Extern.findNext fn'=none) (he:Extern.find fn'=some e) (hargs:ags.map a.eval=args)
 (hrun:∀w,(e args).run P w = .ok v w) (hev:∀w,(e args).events P w #[⟨.mark (.extern f),false,true⟩] = #[⟨.mark (.extern f),false,true⟩]) (h:∀w₁,Rely ty s w w₁->CoO P ty Post main fn ops rest Q (a.put o.dst v) s w₁):CoO P ty Post main fn ops (i::rest) Q a s w:=fun b k cs hb' hk hq=>
 .mk rfl fun w₁ r=>.own s _ w₁ #[] (stepG_entry ho hw hk hop hf hname hb hn he (by rw [hargs];exact hrun w₁) (evs:= #[]) (by rw [hargs,hev];rfl) (by simp)) (Own1.idle s w₁) (h w₁ r b k cs hb' hk hq)
end
end
end Go.Co.Cnt
namespace Go.AI.T
open Go Go.RowKit Go.AI Go.Conc Go.Co Go.Co.Cnt
noncomputable section
def cmpL:List Nat->List Nat->Int:=@List.rec Nat (fun _=>List Nat->Int) (@List.rec Nat (fun _=>Int) (.ofNat 0) (fun _ _ _=>.negSucc 0))
 (fun a _ f=>@List.rec Nat (fun _=>Int) (.ofNat 1) (fun b y _=>bc (Nat.ble (Nat.succ a) b) (.negSucc 0) (bc (Nat.ble (Nat.succ b) a) (.ofNat 1) (f y))))
theorem zaqb (a b:Nat) (x y:List Nat):cmpL (a::x) (b::y)=bc (Nat.ble (Nat.succ a) b) (.negSucc 0) (bc (Nat.ble (Nat.succ b) a) (.ofNat 1) (cmpL x y)):=rfl
theorem zarl:∀x y:List UInt8,cmpL (x.map UInt8.toNat) (y.map UInt8.toNat)=Lib.compareBytes x y
 | [],[]=>rfl
 | [],_::_=>rfl
 | _::_,[]=>rfl
 | a::x,b::y=>by
  have e:Lib.compareBytes (a::x) (b::y)=if a<b then -1 else if b<a then 1 else Lib.compareBytes x y:=by rw [Lib.compareBytes]
  rw [e,List.map_cons,List.map_cons,zaqb,zarl x y]
  rw [zabp,zabp,bc_ite,bc_ite]
  simp only [UInt8.lt_iff_toNat_lt,Nat.succ_le_iff]
  rfl
def c_internal_bytealg_CompareString (F g:Nat) (a0 a1:AV) (h:H):Option R:=withStr a0 fun l _=>withStr a1 fun l' _=>some (.int 3 (cmpL l l'),h)
theorem zacf {Post:Value->World->Prop} {main:Bool} {fk:Option Fk} (F g:Nat):∀args h r,u2 (c_internal_bytealg_CompareString F g) args h=some r->CoTri Go.Proofs.Tryz.prog tW Post main (fk,true) 198 args h r:=by
 intro args h r e
 obtain ⟨a0,a1,rfl,e1⟩:=zafm e
 obtain ⟨l,n,rfl,e2⟩:=zaap e1
 obtain ⟨l',n',rfl,e3⟩:=zaap e2
 cases e3
 refine ⟨⟨_,Go.Proofs.Tryz.func198,by kernel_rfl,by kernel_rfl⟩,fun ι w vs s hR hC hV hF hfk=>?_⟩
 cases hV with
 | cons h1 hV=>
  cases hV with
  | cons h2 hV=>
   cases hV
   obtain ⟨s1,rfl,hl,_⟩:=h1.str
   obtain ⟨s2,rfl,hl',_⟩:=h2.str
   have K:∀w₁,Rely tW s w w₁->PostC true ι h s w (.int 3 (cmpL l l'),h) (.int .i64 (Lib.compareBytes s1.data.toList s2.data.toList)) s w₁:=fun w₁ r=>
    ⟨ι,by rw [<- hl, <- hl',zarl];rfl,ExtC.rely hR hC r,zadj hR hC r,hC,hF.rely r⟩
   refine ⟨?_,_,s,w,K w (.refl _ _)⟩
   refine co_fn Go.Proofs.Tryz.func198 body_q ?_
   have e0:(#[.string s1,.string s2]:Array Value)++Array.replicate (Go.Proofs.Tryz.f198.ntmps - (#[.string s1,.string s2]:Array Value).size) undef = #[.string s1,.string s2,undef,undef,undef,undef,undef,undef]:=by rw [Go.Proofs.Tryz.ntmps198];rfl
   show CoC _ _ _ _ _ Cq _ { tmps:=(#[.string s1,.string s2]:Array Value)++Array.replicate (Go.Proofs.Tryz.f198.ntmps - (#[.string s1,.string s2]:Array Value).size) undef,defers:=[] } s w
   rw [e0]
   refine co_seq (zaav ?_)
   refine zads (ops:=Rq0) (v:=.int .i64 0) rfl rfl (fun w=>rfl) (fun w=>rfl) fun w1 r1=>?_
   refine co_nil ?_
   refine co_seq (zaav ?_)
   refine zads (ops:=Rq1) (v:=.string s1) rfl rfl (fun w=>rfl) (fun w=>rfl) fun w2 r2=>?_
   refine zads (ops:=Rq1) (v:=.string s2) rfl rfl (fun w=>rfl) (fun w=>rfl) fun w3 r3=>?_
   refine zarp (ops:=Rq1) rfl rfl rfl Go.Proofs.Tryz.func257 (by kernel_rfl) (by kernel_rfl) (by kernel_rfl) (e:=Extern.BytealgCompare.compare) (by kernel_rfl) (args:= #[.string s1,.string s2]) (by rw [List.map_toArray];rfl) (fun w=>Lib.run_compareString s1 s2 w) (fun w=>ev_cmp (P:=Go.Proofs.Tryz.prog) s1 s2 w #[⟨.mark (.extern 257),false,true⟩]) fun w4 r4=>?_
   refine zads (ops:=Rq1) (v:=.int .i64 (Lib.compareBytes s1.data.toList s2.data.toList)) rfl rfl (fun w=>rfl) (fun w=>rfl) fun w5 r5=>?_
   refine co_nil ?_
   have r:=(((r1.trans r2).trans r3).trans r4).trans r5
   refine co_ret ⟨.inr rfl,rfl,fun w₁ r'=>⟨_,zacb (ts:=[4]) rfl,zacm (A:=fun _=>False) (zadq (ts:=[4]) rfl) (fun _ h=>h.elim) (zacb (ts:=[4]) rfl) hF.busy (fun _ h=>h.elim),K w₁ (r.trans r')⟩⟩
theorem wk_internal_bytealg_CompareString {Post:Value->World->Prop} {main:Bool} (F g:Nat):∀args h r,u2 (c_internal_bytealg_CompareString F g) args h=some r->CoTri Go.Proofs.Tryz.prog tW Post main (none,false) 198 args h r:=fun args h r e=>(zacf F g args h r e).weak
end
end Go.AI.T
