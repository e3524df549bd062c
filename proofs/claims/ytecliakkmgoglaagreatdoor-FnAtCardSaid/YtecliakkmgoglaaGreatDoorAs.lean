/- errors.As of the program's own error, in company. -/
import Derived.Test.YtecliakkmgoglaaGreatDoorErr
import Derived.WalkKit
import Derived.LaidEql
import Derived.Stop.Asserts
import Derived.RowKitTokens
import Derived.LaidHandle
import Derived.Conc.EntryLaws
import Derived.KernelRfl
set_option linter.unusedVariables false
set_option linter.unusedSimpArgs false
set_option maxRecDepth 100000
namespace Go.NoNode
open Go Go.RowKit Go.Extern Go.Proofs Go.Extern.Stop Go.Stop
abbrev hdl (t:Nat):Value:=.pointer (some ⟨2,t,none⟩)
abbrev rv (t:Nat) (a:Addr) (fl:Int):Value:=.agg #[hdl t,.pointer (some a),.int .u64 fl]
theorem pa_ptr (a:Addr) (w:World):(ReflectliteValue.parts (rv 73 a 150)).run Tryz.prog w = .ok (some (73,a,150)) w:=by kernel_rfl
theorem pa_dst (a:Addr) (w:World):(ReflectliteValue.parts (rv 71 a 409)).run Tryz.prog w = .ok (some (71,a,409)) w:=by kernel_rfl
theorem pa_src (a:Addr) (w:World):(ReflectliteValue.parts (rv 71 a 153)).run Tryz.prog w = .ok (some (71,a,153)) w:=by kernel_rfl
theorem of_ptr (w:World):(Rtype.elem? 73).run Tryz.prog w = .ok (some 71) w:=by kernel_rfl
theorem mk_node (p:Addr) (w:World):(ReflectliteValue.mk 71 p ReflectliteValue.flagAddr).run Tryz.prog w = .ok (rv 71 p 409) w:=by kernel_rfl
theorem dir_node (w:World):(Rtype.directlyAssignable 71 71).run Tryz.prog w = .ok true w:=by kernel_rfl
theorem met (z:Sem Value) (f:TypeId → Addr → Nat → Nat → Sem Value) (v:Value) :
 ReflectliteValue.method z f #[v]=(do match ← ReflectliteValue.parts v with | none=>z | some (t,a,fl)=>f t a fl (fl % 32)):=rfl
theorem nil_ptr (a p:Addr) (w:World) (h:w.cell? a=some (.pointer (some p))) :
 (ReflectliteValue.method (ReflectliteValue.valueError "reflectlite.Value.IsNil" 0) ReflectliteValue.isNil #[rv 73 a 150]).run Tryz.prog w = .ok (.bool false) w:=by
 rw [met]
 simp only [Sem.run_bind,pa_ptr,Result.andThen]
 simp [ReflectliteValue.isNil,loadVar,isAgg,underlying,Tryz.underlying73,h,Result.andThen]
theorem elem_ptr (a p:Addr) (w:World) (h:w.cell? a=some (.pointer (some p))) :
 (ReflectliteValue.method (ReflectliteValue.valueError "reflectlite.Value.Elem" 0) ReflectliteValue.elem #[rv 73 a 150]).run Tryz.prog w = .ok (rv 71 p 409) w:=by
 rw [met]
 simp only [Sem.run_bind,pa_ptr,Result.andThen]
 simp [ReflectliteValue.elem,loadVar,isAgg,underlying,Tryz.underlying73,h,Result.andThen,of_ptr,mk_node]
theorem set_eq (v x:Value):ReflectliteValue.set #[v,x]=(do
 let (some (dst,a,fl),some (src,b,_)):=(← ReflectliteValue.parts v, ← ReflectliteValue.parts x)
  | unsupported (.noEntry "extern/(internal/reflectlite.Value).Set.zeroValue")
 if fl / ReflectliteValue.flagAddr % 2 == 0 then unsupported (.noEntry "extern/(internal/reflectlite.Value).Set.unaddressable")
 let val ← loadVar src b
 if ← Rtype.directlyAssignable dst src then storeVar dst a val
 else if ← Rtype.implements dst src then
  if (← Rtype.kind src) == 20 then
   match val with
   | .nilIface=>unsupported (.noEntry "extern/reflectlite: a nil value of one interface type handed on as a value of another")
   | _=>storeVar dst a val
  else storeVar dst a (.iface src val)
 else panicString ("reflectlite.Set: value of type " ++ (← Rtype.spelt src) ++ " is not assignable to type " ++ (← Rtype.spelt dst))
 pure (.tuple #[])):=rfl
theorem set_node (p b:Addr) (n:Int) (old:Value) (w:World) (hs:b.spot=none) (hs':p.spot=none) (hb:w.cell? b=some (.int .i64 n)) (hp:w.cell? p=some old) (hf:w.frozen? p=false) :
 (ReflectliteValue.set #[rv 71 p 409,rv 71 b 153]).run Tryz.prog w = .ok (.tuple #[]) (w.setCell p (.int .i64 n)):=by
 rw [set_eq]
 simp only [Sem.run_bind,pa_dst,pa_src,Result.andThen]
 have hb0:b.add 0=b:=by cases b;cases hs;rfl
 have hp0:p.add 0=p:=by cases p;cases hs';rfl
 simp [ReflectliteValue.flagAddr,loadVar,isAgg,underlying,Tryz.underlying71,Tryz.sizeOf71,loadCells,loadCellsFrom,hb0,hb,Result.andThen,dir_node,storeVar,Value.cells,storeCells,hp0]
 rw [run_store Tryz.prog w p _ _ (by rfl)]
 simp [hp,hf]
end Go.NoNode
namespace Go.Co
open Go Go.Conc Go.AI Go.RowKit
theorem seen_fold_no (quiet:FuncId → Bool):∀(l:List Event) (q:Bool) (kept:Array Event),(∀e∈kept,∀f,e.loc≠.mark (.extern f)) → ∀e∈(l.foldl (seenStep quiet) (q,kept)).2,∀f,e.loc≠.mark (.extern f):=by
 intro l
 induction l with
 | nil=>intro q kept h;exact h
 | cons x l ih=>
  intro q kept h
  simp only [List.foldl_cons,seenStep]
  split
  · exact ih _ _ h
  · rename_i hx
    refine ih _ _ fun e he f=>?_
    split at he
    · exact h e he f
    · rcases Array.mem_push.1 he with he | rfl
      · exact h e he f
      · exact hx f
theorem no_mark {P:Program} {fn:FuncId} {es:Array Event} {e:Event} (h:e∈seen P fn es) (f:FuncId):e.loc≠.mark (.extern f):=by
 rw [seen_def] at h
 exact seen_fold_no _ _ _ _ (by simp) e h f
section
variable {P:Program} {ty:TypeId} {Post:Value → World → Prop} {main:Bool} {fn:FuncId} {ops:Array Oper} {i:Nat} {rest:List Nat} {o:Oper} {Q:Out} {a:Act} {s:LG} {w:World}
theorem listed_mark {f:FuncId} (he:(execOp a.eval o).events P w #[] = #[⟨.mark (.extern f),false,true⟩]):listed P fn a o w = #[]:=by
 unfold listed;rw [he]
 have:=seen_entry (P:=P) fn f #[] (by simp)
 simpa using this
theorem co_ext {f:FuncId} {v:Value} (ho:ops[i]?=some o) (hw:Region.wanted o (yielded ops a.tmps)=true) (hr:∀w,(execOp a.eval o).run P w = .ok (.value v) w) (he:∀w,(execOp a.eval o).events P w #[] = #[⟨.mark (.extern f),false,true⟩])
 (h:∀w₁,Rely ty s w w₁ → CoO P ty Post main fn ops rest Q (a.put o.dst v) s w₁):CoO P ty Post main fn ops (i::rest) Q a s w:=
 co_val ho hw fun w₁ r=>⟨v,s,w₁,hr w₁,by rw [listed_mark (he w₁)];exact Own1.idle s w₁,h w₁ r⟩
theorem co_extM {f:FuncId} {O:Obj} {v:Nat → Value} (ho:ops[i]?=some o) (hw:Region.wanted o (yielded ops a.tmps)=true) (hr:∀w,(execOp a.eval o).run P w = .ok (.value (v w.heap.size)) (w.alloc O)) (he:∀w,(execOp a.eval o).events P w #[] = #[⟨.mark (.extern f),false,true⟩]) (hlt:∀b,s.own b ∨ s.ro b → b<w.heap.size)
 (h:∀w₁,Rely ty s w w₁ → CoO P ty Post main fn ops rest Q (a.put o.dst (v w₁.heap.size)) (s.plus w₁.heap.size (w₁.heap.size+1)) (w₁.alloc O)):CoO P ty Post main fn ops (i::rest) Q a s w:=
 co_val ho hw fun w₁ r=>⟨_,_,_,hr w₁,Own1.new1 (fun b hb=>Nat.lt_of_lt_of_le (hlt b hb) r.size) (listed_mark (he w₁)),h w₁ r⟩
theorem own1_of {E:Array Event} (hb:Busy s) (he:(execOp a.eval o).events P w #[]=E) (hE:∀e∈E,(∃f,e.loc = .mark (.extern f)) ∨ EvG s e):Own1 ty s w s w (listed P fn a o w):=
 Own1.reads ⟨fun e h=>by
  have h1:=mem_listed h
  rw [he] at h1
  rcases hE e h1 with ⟨f,hf⟩ | h2
  · exact absurd hf (no_mark h f)
  · exact h2,fun k hk h2=>by have:=hb k hk;omega⟩ w
theorem co_look {v:Value} (ho:ops[i]?=some o) (hw:Region.wanted o (yielded ops a.tmps)=true) (hb:Busy s) (hr:∀w₁,Rely ty s w w₁ → (execOp a.eval o).run P w₁ = .ok (.value v) w₁ ∧ ∀e∈(execOp a.eval o).events P w₁ #[],(∃f,e.loc = .mark (.extern f)) ∨ EvG s e)
 (h:∀w₁,Rely ty s w w₁ → CoO P ty Post main fn ops rest Q (a.put o.dst v) s w₁):CoO P ty Post main fn ops (i::rest) Q a s w:=
 co_val ho hw fun w₁ r=>⟨v,s,w₁,(hr w₁ r).1,own1_of hb rfl (hr w₁ r).2,h w₁ r⟩
theorem co_loop1 {c:Code} (h:CoC P ty Post main fn c (Out.seq (fun _ _ _=>False) Q) a s w):CoC P ty Post main fn (.loop c) Q a s w:=
 zaj0 (n:=0) (fun _ a' s' w'=>a'=a ∧ s'=s ∧ w'=w) (fun n a' s' w' hI=>by
  obtain ⟨rfl,rfl,rfl⟩:=hI
  exact h.mono fun e a1 s1 w1 q=>by
   cases e with
   | normal=>exact q.elim
   | _=>exact q) ⟨rfl,rfl,rfl⟩
end
structure Gr (ι:Inj) (h:H) (s0:LG) (w0:World) (L:List (Nat×Array Value×TypeId)) (s:LG) (w:World):Prop where
 rel0:Rel ι h w0
 cov0:Cov ι h s0
 rel:Rel ι h w
 cov:Cov ι h s
 fit:Fit s w
 kid:s.kid=s0.kid
 fk:s.fk=s0.fk
 ro:s.ro=s0.ro
 mine:∀B,s0.own B → s.own B
 new:∀B,s.own B → s0.own B ∨ (w0.heap.size ≤ B ∧ B<w.heap.size)
 os:w.os=w0.os
 tape:w.tape=w0.tape
 output:w.output=w0.output
 size:w0.heap.size ≤ w.heap.size
 block:∀B,s0.own B ∨ s0.ro B → B<w0.heap.size → w.heap[B]?=w0.heap[B]?
 has:∀x∈L,s.own x.1 ∧ w0.heap.size ≤ x.1 ∧ w.heap[x.1]?=some (.cells x.2.1 x.2.2)
 nd:(L.map (·.1)).Nodup
section
variable {P:Program} {ty:TypeId} {ι:Inj} {h:H} {s0 s:LG} {w0 w w₁:World} {L:List (Nat×Array Value×TypeId)}
theorem Gr.start (hR:Rel ι h w) (hC:Cov ι h s) (hF:Fit s w):Gr ι h s w [] s w:=
 ⟨hR,hC,hR,hC,hF,rfl,rfl,rfl,fun _ h=>h,fun _ h=>.inl h,rfl,rfl,rfl,Nat.le_refl _,fun _ _ _=>rfl,fun x hx=>(by cases hx),List.nodup_nil⟩
theorem Gr.rely (G:Gr ι h s0 w0 L s w) (r:Rely ty s w w₁):Gr ι h s0 w0 L s w₁ where
 rel0:=G.rel0
 cov0:=G.cov0
 rel:=zadm G.rel G.cov r
 cov:=G.cov
 fit:=G.fit.rely r
 kid:=G.kid
 fk:=G.fk
 ro:=G.ro
 mine:=G.mine
 new:=fun B hB=>(G.new B hB).imp id fun h=>⟨h.1,Nat.lt_of_lt_of_le h.2 r.size⟩
 os:=r.os.trans G.os
 tape:=r.tape.trans G.tape
 output:=r.output.trans G.output
 size:=Nat.le_trans G.size r.size
 block:=fun B hB hlt=>(hB.elim (fun h=>r.own B (G.mine B h)) fun h=>r.ro B (by rw [G.ro];exact h)).trans (G.block B hB hlt)
 has:=fun x hx=>let ⟨a,b,c⟩:=G.has x hx; ⟨a,b,(r.own _ a).trans c⟩
 nd:=G.nd
theorem Gr.made (G:Gr ι h s0 w0 L s w) (c:Array Value) (t:TypeId):Gr ι h s0 w0 ((w.heap.size,c,t)::L) (s.plus w.heap.size (w.heap.size+1)) (w.alloc (.cells c t)) where
 rel0:=G.rel0
 cov0:=G.cov0
 rel:=zaeo G.rel (by simp) fun b B o z e=>Below.heap_alloc w _ B (G.rel.lt _ _ _ _ e)
 cov:=⟨fun b B o z e=>(G.cov.all b B o z e).imp .inl id,fun B hB=>.inl (G.cov.own B hB)⟩
 fit:=by
  have:=G.fit.plus (w':=w.alloc (.cells c t)) (by simp)
  simpa using this
 kid:=G.kid
 fk:=G.fk
 ro:=G.ro
 mine:=fun B hB=>.inl (G.mine B hB)
 new:=fun B hB=>hB.elim (fun h=>(G.new B h).imp id fun h=>⟨h.1,by simp;omega⟩) fun h=>.inr ⟨Nat.le_trans G.size h.1,by simp;omega⟩
 os:=G.os
 tape:=G.tape
 output:=G.output
 size:=by have:=G.size;simp;omega
 block:=fun B hB hlt=>(Below.heap_alloc w _ B (Nat.lt_of_lt_of_le hlt G.size)).trans (G.block B hB hlt)
 has:=fun x hx=>by
  rcases List.mem_cons.1 hx with rfl | hx
  · exact ⟨.inr ⟨Nat.le_refl _,Nat.lt_succ_self _⟩,G.size,zajc w _⟩
  · obtain ⟨a,b,c⟩:=G.has x hx
    exact ⟨.inl a,b,(Below.heap_alloc w _ _ (Array.getElem?_eq_some_iff.1 c).1).trans c⟩
 nd:=by
  rw [List.map_cons,List.nodup_cons]
  refine ⟨fun hm=>?_,G.nd⟩
  obtain ⟨x,hx,e⟩:=List.mem_map.1 hm
  have:=(Array.getElem?_eq_some_iff.1 (G.has x hx).2.2).1
  simp only at e;omega
theorem Gr.turn {B:Nat} {c c':Array Value} {t:TypeId} {w':World} (G:Gr ι h s0 w0 ((B,c,t)::L) s w) (hos:w'.os=w.os) (ht:w'.tape=w.tape) (ho:w'.output=w.output) (hs:w'.heap.size=w.heap.size) (hk:∀k,k≠B → w'.heap[k]?=w.heap[k]?) (hB:w'.heap[B]?=some (.cells c' t)):Gr ι h s0 w0 ((B,c',t)::L) s w':=by
 obtain ⟨a,b,hc⟩:=G.has _ (List.mem_cons_self ..)
 have b:w0.heap.size ≤ B:=b
 have nd:=G.nd
 rw [List.map_cons,List.nodup_cons] at nd
 exact {
  rel0:=G.rel0,cov0:=G.cov0,cov:=G.cov,kid:=G.kid,fk:=G.fk,ro:=G.ro,mine:=G.mine,os:=hos.trans G.os,tape:=ht.trans G.tape,output:=ho.trans G.output
  rel:=zaeo G.rel (Nat.le_of_eq hs.symm) fun b' B' o z e=>hk B' (by have:=G.rel0.lt _ _ _ _ e;omega)
  fit:=⟨G.fit.U,G.fit.apart,fun B hB=>by rw [hs];exact G.fit.lt B hB,G.fit.busy,trivial⟩
  new:=fun B hB=>by rw [hs];exact G.new B hB
  size:=by rw [hs];exact G.size
  block:=fun B' hB' hlt=>(hk B' (by omega)).trans (G.block B' hB' hlt)
  has:=fun x hx=>by
   rcases List.mem_cons.1 hx with rfl | hx
   · exact ⟨a,b,hB⟩
   · obtain ⟨a1,b1,c1⟩:=G.has x (List.mem_cons_of_mem _ hx)
     exact ⟨a1,b1,(hk _ fun e=>nd.1 (List.mem_map.2 ⟨x,hx,e⟩)).trans c1⟩
  nd:=by rw [List.map_cons,List.nodup_cons];exact nd }
theorem Gr.only {x:Nat×Array Value×TypeId} (G:Gr ι h s0 w0 L s w) (hx:x∈L):Gr ι h s0 w0 [x] s w:={ G with has:=fun y hy=>(by rcases List.mem_cons.1 hy with rfl | hy;exact G.has _ hx;cases hy),nd:=by simp }
theorem Gr.tail {x y:Nat×Array Value×TypeId} (G:Gr ι h s0 w0 (x::y::L) s w):Gr ι h s0 w0 (y::L) s w:={ G with has:=fun z hz=>G.has z (List.mem_cons_of_mem _ hz),nd:=by have:=G.nd;rw [List.map_cons,List.nodup_cons] at this;exact this.2 }
theorem Gr.nil (G:Gr ι h s0 w0 L s w):Gr ι h s0 w0 [] s w:={ G with has:=fun x hx=>(by cases hx),nd:=List.nodup_nil }
theorem Gr.post (G:Gr ι h s0 w0 L s w) {q:Bool} {v:Value} {x:AV} (hV:VR ι x v):PostC q ι h s0 w0 (x,h) v s w:=
 ⟨ι,hV,{ le:=.refl _,os:=G.os,tape:=G.tape,output:=G.output,size:=G.size,kid:=G.kid,fk:=G.fk,ro:=fun _=>G.ro,mine:=fun _=>G.mine,roW:=fun B hB=>by rw [G.ro];exact hB,mineW:=fun B hB=>.inl (G.mine B hB),newR:=fun B hB=>.inl (by rw [← G.ro];exact hB),new:=G.new,block:=fun B hB hlt=>G.block B (hB.imp (·.1) id) hlt,own:=fun B hB=>.inl hB,num:=Nat.le_refl _,lo:=Nat.le_refl _,keep:=fun _ _ _=>rfl,keepW:=fun b B o z _ _ _ e=>G.block B (G.cov0.all b B o z e) (G.rel0.lt _ _ _ _ e),dom:=fun b B o z e=>.inl ⟨b,o,z,e⟩ },G.rel,G.cov,G.fit⟩
end
end Go.Co
namespace Go.Co.Cnt
open Go Go.Conc Go.AI Go.RowKit Go.NoNode Go.Extern
noncomputable section
def RE0:Array Oper:= #[.mk (some 4) (.assign (.const (.bool false))) 4 "wrap.go:102" #[] none]
def RE1:Array Oper:= #[.mk (some 8) (.move (.tmp 0)) 40 "wrap.go:103" #[] none,.mk (some 9) (.binOp .eql 40 (.tmp 8) (.const .nilIface) 40) 4 "wrap.go:103" (#[.mk 0 .data]) none]
def RE2:Array Oper:= #[.mk (some 4) (.assign (.const (.bool false))) 4 "wrap.go:104" #[] none]
def RE3:Array Oper:= #[.mk (some 10) (.move (.tmp 1)) 20 "wrap.go:106" #[] none,.mk (some 11) (.binOp .eql 20 (.tmp 10) (.const .nilIface) 20) 4 "wrap.go:106" (#[.mk 0 .data]) none]
def RE4:Array Oper:= #[.mk (some 12) (.makeInterface 9 (.const (.string (ByteArray.mk (#[101,114,114,111,114,115,58,32,116,97,114,103,101,116,32,99,97,110,110,111,116,32,98,101,32,110,105,108]))))) 20 "wrap.go:107" #[] none,.mk none (.panic (.tmp 12)) 0 "wrap.go:107" (#[.mk 0 .data]) none]
def RE5:Array Oper:= #[.mk (some 13) (.move (.tmp 1)) 20 "wrap.go:109" #[] none,.mk (some 14) (.call (.mk (.value (.func 64)) (#[.tmp 13]) (#[20]))) 90 "wrap.go:109" (#[.mk 0 .data]) none,.mk (some 5) (.alloc 90) 0 "wrap.go:109" #[] none,.mk none (.store 90 (.tmp 5) (.tmp 14)) 0 "wrap.go:109" (#[.mk 2 .data,.mk 1 .data,.mk 1 .chain,.mk 0 .phase,.mk 1 .phase,.mk 2 .phase]) none]
def RE6:Array Oper:= #[.mk (some 15) (.load 90 (.tmp 5)) 90 "wrap.go:110" #[] none,.mk (some 16) (.call (.mk (.value (.func 65)) (#[.tmp 15]) (#[90]))) 93 "wrap.go:110" (#[.mk 0 .data]) none,.mk (some 6) (.assign (.tmp 16)) 93 "wrap.go:110" (#[.mk 1 .data,.mk 1 .chain,.mk 0 .phase,.mk 1 .phase]) none]
def RE7:Array Oper:= #[.mk (some 17) (.move (.tmp 6)) 93 "wrap.go:111" #[] none,.mk (some 18) (.call (.mk (.invoke (.tmp 17) "Kind") #[] #[])) 95 "wrap.go:111" (#[.mk 0 .data]) none,.mk (some 19) (.binOp .neq 95 (.tmp 18) (.const (.int .u8 22)) 95) 4 "wrap.go:111" (#[.mk 1 .data]) none,.mk (some 20) (.move (.tmp 19)) 4 "wrap.go:111" (#[.mk 2 .data,.mk 1 .chain]) none,.mk (some 21) (.load 90 (.tmp 5)) 90 "wrap.go:111" (#[.mk 3 .guard]) (some ((3,Bool.false))),.mk (some 22) (.call (.mk (.value (.func 66)) (#[.tmp 21]) (#[90]))) 4 "wrap.go:111" (#[.mk 4 .data,.mk 3 .chain,.mk 3 .guard]) (some ((3,Bool.false))),.mk (some 23) (.pick (.tmp 20) (.const (.bool true)) (.tmp 22)) 4 "wrap.go:111" (#[.mk 3 .data,.mk 5 .data]) none]
def RE8:Array Oper:= #[.mk (some 24) (.makeInterface 9 (.const (.string (ByteArray.mk (#[101,114,114,111,114,115,58,32,116,97,114,103,101,116,32,109,117,115,116,32,98,101,32,97,32,110,111,110,45,110,105,108,32,112,111,105,110,116,101,114]))))) 20 "wrap.go:112" #[] none,.mk none (.panic (.tmp 24)) 0 "wrap.go:112" (#[.mk 0 .data]) none]
def RE9:Array Oper:= #[.mk (some 25) (.move (.tmp 6)) 93 "wrap.go:114" #[] none,.mk (some 26) (.call (.mk (.invoke (.tmp 25) "Elem") #[] #[])) 93 "wrap.go:114" (#[.mk 0 .data]) none,.mk (some 7) (.assign (.tmp 26)) 93 "wrap.go:114" (#[.mk 1 .data,.mk 1 .chain,.mk 0 .phase,.mk 1 .phase]) none]
def RE10:Array Oper:= #[.mk (some 27) (.move (.tmp 7)) 93 "wrap.go:115" #[] none,.mk (some 28) (.call (.mk (.invoke (.tmp 27) "Kind") #[] #[])) 95 "wrap.go:115" (#[.mk 0 .data]) none,.mk (some 29) (.binOp .neq 95 (.tmp 28) (.const (.int .u8 20)) 95) 4 "wrap.go:115" (#[.mk 1 .data]) none,.mk (some 30) (.move (.tmp 29)) 4 "wrap.go:115" (#[.mk 2 .data,.mk 1 .chain]) none,.mk (some 31) (.move (.tmp 7)) 93 "wrap.go:115" (#[.mk 3 .guard]) (some ((3,Bool.true))),.mk (some 32) (.load 93 (.global 0)) 93 "wrap.go:115" (#[.mk 3 .guard]) (some ((3,Bool.true))),.mk (some 33) (.call (.mk (.invoke (.tmp 31) "Implements") (#[.tmp 32]) (#[93]))) 4 "wrap.go:115" (#[.mk 4 .data,.mk 5 .data,.mk 3 .chain,.mk 3 .guard]) (some ((3,Bool.true))),.mk (some 34) (.unOp .not 4 (.tmp 33)) 4 "wrap.go:115" (#[.mk 6 .data,.mk 3 .guard]) (some ((3,Bool.true))),.mk (some 35) (.pick (.tmp 30) (.tmp 34) (.const (.bool false))) 4 "wrap.go:115" (#[.mk 3 .data,.mk 7 .data]) none]
def RE11:Array Oper:= #[.mk (some 36) (.makeInterface 9 (.const (.string (ByteArray.mk (#[101,114,114,111,114,115,58,32,42,116,97,114,103,101,116,32,109,117,115,116,32,98,101,32,105,110,116,101,114,102,97,99,101,32,111,114,32,105,109,112,108,101,109,101,110,116,32,101,114,114,111,114]))))) 20 "wrap.go:116" #[] none,.mk none (.panic (.tmp 36)) 0 "wrap.go:116" (#[.mk 0 .data]) none]
def RE12:Array Oper:= #[.mk (some 37) (.move (.tmp 0)) 40 "wrap.go:118" #[] none,.mk (some 38) (.move (.tmp 1)) 20 "wrap.go:118" #[] none,.mk (some 39) (.load 90 (.tmp 5)) 90 "wrap.go:118" #[] none,.mk (some 40) (.move (.tmp 7)) 93 "wrap.go:118" #[] none,.mk (some 41) (.call (.mk (.value (.func 67)) (#[.tmp 37,.tmp 38,.tmp 39,.tmp 40]) (#[40,20,90,93]))) 4 "wrap.go:118" (#[.mk 0 .data,.mk 1 .data,.mk 2 .data,.mk 3 .data]) none,.mk (some 4) (.assign (.tmp 41)) 4 "wrap.go:118" (#[.mk 4 .data,.mk 4 .chain,.mk 0 .phase,.mk 1 .phase,.mk 2 .phase,.mk 3 .phase,.mk 4 .phase]) none]
def BE:Code:=Code.seq (Code.region 0 RE0 false) (Code.seq (Code.seq (Code.region 1 RE1 false) (Code.cond (.tmp 9) (Code.seq (Code.region 2 RE2 false) .ret) .skip)) (Code.seq (Code.seq (Code.region 3 RE3 false) (Code.cond (.tmp 11) (Code.region 4 RE4 false) .skip)) (Code.seq (Code.region 5 RE5 false) (Code.seq (Code.region 6 RE6 false) (Code.seq (Code.seq (Code.region 7 RE7 false) (Code.cond (.tmp 23) (Code.region 8 RE8 false) .skip)) (Code.seq (Code.region 9 RE9 false) (Code.seq (Code.seq (Code.region 10 RE10 false) (Code.cond (.tmp 35) (Code.region 11 RE11 false) .skip)) (Code.seq (Code.region 12 RE12 false) .ret))))))))
theorem body_E:Go.Proofs.Tryz.f45.body=some BE:=by kernel_rfl
def RS0:Array Oper:= #[.mk (some 6) (.box 90 (.tmp 2)) 0 "wrap.go:121" #[] none,.mk (some 8) (.assign (.const (.bool false))) 4 "wrap.go:121" #[] none]
def RS1:Array Oper:= #[.mk (some 16) (.move (.tmp 0)) 40 "wrap.go:123" #[] none,.mk (some 17) (.call (.mk (.value (.func 83)) (#[.tmp 16]) (#[20]))) 93 "wrap.go:123" (#[.mk 0 .data]) none,.mk (some 18) (.move (.tmp 3)) 93 "wrap.go:123" #[] none,.mk (some 19) (.call (.mk (.invoke (.tmp 17) "AssignableTo") (#[.tmp 18]) (#[93]))) 4 "wrap.go:123" (#[.mk 1 .data,.mk 2 .data,.mk 1 .chain]) none]
def RS2:Array Oper:= #[.mk (some 20) (.load 90 (.tmp 6)) 90 "wrap.go:124" #[] none,.mk (some 21) (.call (.mk (.value (.func 84)) (#[.tmp 20]) (#[90]))) 90 "wrap.go:124" (#[.mk 0 .data]) none,.mk (some 22) (.move (.tmp 0)) 40 "wrap.go:124" #[] none,.mk (some 23) (.call (.mk (.value (.func 64)) (#[.tmp 22]) (#[20]))) 90 "wrap.go:124" (#[.mk 2 .data,.mk 1 .chain]) none,.mk (some 24) (.call (.mk (.value (.func 85)) (#[.tmp 21,.tmp 23]) (#[90,90]))) 0 "wrap.go:124" (#[.mk 1 .data,.mk 3 .data,.mk 3 .chain]) none]
def RS3:Array Oper:= #[.mk (some 8) (.assign (.const (.bool true))) 4 "wrap.go:125" #[] none]
def RS4:Array Oper:= #[.mk (some 26) (.move (.tmp 0)) 40 "wrap.go:127" #[] none,.mk (some 27) (.typeAssert (.tmp 26) 40 127 true) 128 "wrap.go:127" (#[.mk 0 .data]) none,.mk (some 25) (.move (.tmp 27)) 128 "wrap.go:127" (#[.mk 1 .data]) none,.mk (some 28) (.extract (.tmp 25) 0) 127 "wrap.go:127" (#[.mk 2 .data]) none,.mk (some 29) (.extract (.tmp 25) 1) 4 "wrap.go:127" (#[.mk 2 .data,.mk 5 (.gcOnly Go.Departure.lateStores)]) none,.mk (some 9) (.assign (.tmp 28)) 127 "wrap.go:127" (#[.mk 3 .data,.mk 0 .phase,.mk 1 .phase,.mk 2 .phase,.mk 3 .phase,.mk 4 (.textOnly Go.Departure.lateStores)]) none,.mk (some 10) (.assign (.tmp 29)) 4 "wrap.go:127" (#[.mk 4 .data,.mk 5 .chain,.mk 0 .phase,.mk 1 .phase,.mk 2 .phase,.mk 3 .phase,.mk 4 .phase,.mk 5 .phase]) none]
def RS5:Array Oper:= #[.mk (some 30) (.move (.tmp 10)) 4 "wrap.go:127" #[] none,.mk (some 31) (.move (.tmp 30)) 4 "wrap.go:127" (#[.mk 0 .data]) none,.mk (some 32) (.move (.tmp 9)) 127 "wrap.go:127" (#[.mk 1 .guard]) (some ((1,Bool.true))),.mk (some 33) (.move (.tmp 1)) 20 "wrap.go:127" (#[.mk 1 .guard]) (some ((1,Bool.true))),.mk (some 34) (.call (.mk (.invoke (.tmp 32) "As") (#[.tmp 33]) (#[20]))) 4 "wrap.go:127" (#[.mk 2 .data,.mk 3 .data,.mk 1 .chain,.mk 1 .guard]) (some ((1,Bool.true))),.mk (some 35) (.pick (.tmp 31) (.tmp 34) (.const (.bool false))) 4 "wrap.go:127" (#[.mk 1 .data,.mk 4 .data]) none]
def RS6:Array Oper:= #[.mk (some 8) (.assign (.const (.bool true))) 4 "wrap.go:128" #[] none]
def RS7:Array Oper:= #[.mk (some 36) (.move (.tmp 0)) 40 "wrap.go:130" #[] none]
def RS8:Array Oper:= #[.mk (some 15) (.assign (.tmp 36)) 40 "wrap.go:130" #[] none]
def RS9:Array Oper:= #[.mk (some 8) (.assign (.const (.bool false))) 4 "wrap.go:147" #[] none]
def RS10:Array Oper:= #[.mk (some 37) (.typeAssert (.tmp 36) 40 130 true) 0 "wrap.go:130" #[] none,.mk (some 38) (.extract (.tmp 37) 1) 4 "wrap.go:130" (#[.mk 0 .data]) none,.mk (some 39) (.extract (.tmp 37) 0) 130 "wrap.go:130" (#[.mk 0 .data]) none]
def RS11:Array Oper:= #[.mk (some 11) (.assign (.tmp 39)) 130 "wrap.go:130" #[] none]
def RS12:Array Oper:= #[.mk (some 40) (.move (.tmp 11)) 130 "wrap.go:132" #[] none,.mk (some 41) (.call (.mk (.invoke (.tmp 40) "Unwrap") #[] #[])) 40 "wrap.go:132" (#[.mk 0 .data]) none,.mk (some 0) (.assign (.tmp 41)) 40 "wrap.go:132" (#[.mk 1 .data,.mk 1 .chain,.mk 0 .phase,.mk 1 .phase]) none]
def RS13:Array Oper:= #[.mk (some 42) (.move (.tmp 0)) 40 "wrap.go:133" #[] none,.mk (some 43) (.binOp .eql 40 (.tmp 42) (.const .nilIface) 40) 4 "wrap.go:133" (#[.mk 0 .data]) none]
def RS14:Array Oper:= #[.mk (some 8) (.assign (.const (.bool false))) 4 "wrap.go:134" #[] none]
def RS15:Array Oper:= #[.mk (some 44) (.typeAssert (.tmp 36) 40 132 true) 0 "wrap.go:130" #[] none,.mk (some 45) (.extract (.tmp 44) 1) 4 "wrap.go:130" (#[.mk 0 .data]) none,.mk (some 46) (.extract (.tmp 44) 0) 132 "wrap.go:130" (#[.mk 0 .data]) none]
def RS16:Array Oper:= #[.mk (some 12) (.assign (.tmp 46)) 132 "wrap.go:130" #[] none]
def RS17:Array Oper:= #[.mk (some 47) (.move (.tmp 12)) 132 "wrap.go:137" #[] none,.mk (some 48) (.call (.mk (.invoke (.tmp 47) "Unwrap") #[] #[])) 133 "wrap.go:137" (#[.mk 0 .data]) none,.mk (some 49) (.call (.mk (.builtin .len) (#[.tmp 48]) (#[133]))) 3 "wrap.go:137" (#[.mk 1 .data]) none,.mk (some 50) (.move (.const (.int .i64 0))) 3 "wrap.go:137" #[] none]
def RS18:Array Oper:= #[.mk (some 51) (.binOp .lss 3 (.tmp 50) (.tmp 49) 3) 0 "wrap.go:137" #[] none]
def RS19:Array Oper:= #[.mk (some 52) (.indexAddr 133 (.tmp 48) (.tmp 50)) 0 "wrap.go:137" #[] none,.mk (some 53) (.load 40 (.tmp 52)) 40 "wrap.go:137" (#[.mk 0 .data]) none,.mk (some 14) (.assign (.tmp 53)) 40 "wrap.go:137" (#[.mk 1 .data,.mk 0 .phase,.mk 1 .phase]) none]
def RS20:Array Oper:= #[.mk (some 54) (.move (.tmp 14)) 40 "wrap.go:138" #[] none,.mk (some 55) (.binOp .eql 40 (.tmp 54) (.const .nilIface) 40) 4 "wrap.go:138" (#[.mk 0 .data]) none]
def RS21:Array Oper:= #[.mk (some 56) (.move (.tmp 14)) 40 "wrap.go:141" #[] none,.mk (some 57) (.move (.tmp 1)) 20 "wrap.go:141" #[] none,.mk (some 58) (.load 90 (.tmp 6)) 90 "wrap.go:141" #[] none,.mk (some 59) (.move (.tmp 3)) 93 "wrap.go:141" #[] none,.mk (some 60) (.call (.mk (.value (.func 67)) (#[.tmp 56,.tmp 57,.tmp 58,.tmp 59]) (#[40,20,90,93]))) 4 "wrap.go:141" (#[.mk 0 .data,.mk 1 .data,.mk 2 .data,.mk 3 .data]) none]
def RS22:Array Oper:= #[.mk (some 8) (.assign (.const (.bool true))) 4 "wrap.go:142" #[] none]
def RS23:Array Oper:= #[.mk (some 61) (.binOp .add 3 (.tmp 50) (.const (.int .i64 1)) 3) 3 "wrap.go:137" #[] none,.mk (some 50) (.move (.tmp 61)) 3 "wrap.go:137" (#[.mk 0 .data]) none]
def RS24:Array Oper:= #[.mk (some 8) (.assign (.const (.bool false))) 4 "wrap.go:145" #[] none]
def BS:Code:=Code.seq (Code.region 0 RS0 false) (Code.block 0 (Code.loop (Code.block 1 (Code.seq (Code.seq (Code.region 1 RS1 false) (Code.cond (.tmp 19) (Code.seq (Code.region 2 RS2 false) (Code.seq (Code.region 3 RS3 false) .ret)) .skip)) (Code.seq (Code.seq (Code.region 4 RS4 false) (Code.seq (Code.region 5 RS5 false) (Code.cond (.tmp 35) (Code.seq (Code.region 6 RS6 false) .ret) .skip))) (Code.seq (Code.region 7 RS7 false) (Code.block 2 (Code.seq (Code.region 10 RS10 false) (Code.cond (.tmp 38) (Code.seq (Code.region 11 RS11 false) (Code.seq (Code.region 12 RS12 false) (Code.seq (Code.region 13 RS13 false) (Code.cond (.tmp 43) (Code.seq (Code.region 14 RS14 false) .ret) .skip)))) (Code.seq (Code.region 15 RS15 false) (Code.cond (.tmp 45) (Code.seq (Code.region 16 RS16 false) (Code.seq (Code.seq (Code.region 17 RS17 false) (Code.block 3 (Code.loop (Code.seq (Code.region 18 RS18 false) (Code.seq (Code.cond (.tmp 51) .skip (.exit 3)) (Code.seq (Code.block 4 (Code.seq (Code.region 19 RS19 false) (Code.seq (Code.seq (Code.region 20 RS20 false) (Code.cond (.tmp 55) (.exit 4) .skip)) (Code.seq (Code.region 21 RS21 false) (Code.cond (.tmp 60) (Code.seq (Code.region 22 RS22 false) .ret) .skip))))) (Code.region 23 RS23 false))))))) (Code.seq (Code.region 24 RS24 false) .ret))) (Code.seq (Code.region 8 RS8 false) (Code.seq (Code.region 9 RS9 false) .ret)))))))))))))
theorem body_S:Go.Proofs.Tryz.f67.body=some BS:=by kernel_rfl
def RN0:Array Oper:= #[.mk (some 2) (.assign (.const (.bool false))) 4 "l6_middles.go:23" #[] none]
def RN1:Array Oper:= #[.mk (some 3) (.alloc 71) 0 "l6_middles.go:24" #[] none]
def RN2:Array Oper:= #[.mk (some 4) (.move (.tmp 0)) 40 "l6_middles.go:25" #[] none,.mk (some 5) (.makeInterface 73 (.tmp 3)) 20 "l6_middles.go:25" #[] none,.mk (some 6) (.call (.mk (.value (.func 45)) (#[.tmp 4,.tmp 5]) (#[40,20]))) 4 "l6_middles.go:25" (#[.mk 0 .data,.mk 1 .data]) none,.mk (some 2) (.assign (.tmp 6)) 4 "l6_middles.go:25" (#[.mk 2 .data,.mk 2 .chain,.mk 0 .phase,.mk 1 .phase,.mk 2 .phase]) none]
def BN:Code:=Code.seq (Code.region 0 RN0 false) (Code.seq (Code.region 1 RN1 false) (Code.seq (Code.region 2 RN2 false) .ret))
theorem body_N:Go.Proofs.Tryz.f23.body=some BN:=by kernel_rfl
variable {Post:Value → World → Prop} {main:Bool} {ι:Inj} {h:H} {s0 s:LG} {w0 w w₁:World} {L:List (Nat×Array Value×TypeId)} {fn:FuncId} {ops:Array Oper} {i:Nat} {rest:List Nat} {o:Oper} {Q:Out} {a:Act}
theorem cell_has {B:Nat} {c:Array Value} {t:TypeId} {q:Nat} {v:Value} (hB:w.heap[B]?=some (.cells c t)) (hv:c[q]?=some v):w.cell? ⟨B,q,none⟩=some v:=by rw [zado hB];exact hv
theorem co_load3 {B:Nat} {x y z:Value} {xo:Operand} (G:Gr ι h s0 w0 L s w) (hm:(B, #[x,y,z],90)∈L) (ho:ops[i]?=some o) (hw:Region.wanted o (yielded ops a.tmps)=true) (hop:o.op = .load 90 xo) (hx:a.eval xo = .pointer (some ⟨B,0,none⟩))
 (h1:∀w₁,Gr ι h s0 w0 L s w₁ → CoO Go.Proofs.Tryz.prog tW Post main fn ops rest Q (a.put o.dst (.agg #[x,y,z])) s w₁):CoO Go.Proofs.Tryz.prog tW Post main fn ops (i::rest) Q a s w:=by
 refine co_op ho hw fun w₁ r=>?_
 have G1:=G.rely r
 obtain ⟨ow,_,hB⟩:=G1.has _ hm
 have hrun:(execOp a.eval o).run Go.Proofs.Tryz.prog w₁ = .ok (.value (.agg #[x,y,z])) w₁:=by
  have c0:=cell_has (q:=0) hB rfl
  have c1:=cell_has (q:=1) hB rfl
  have c2:=cell_has (q:=2) hB rfl
  simp [execOp,hop,hx,Instr.loadAt,Instr.sureAddr,loadVar,zabm (show isAggT Go.Proofs.Tryz.prog 90=some true by kernel_rfl),Go.Proofs.Tryz.sizeOf90,loadCells,loadCellsFrom,addr_add,c0,c1,c2]
 have hcf:Cf Go.Proofs.Tryz.prog (fun b=>b=B) (fun _=>False) (execOp a.eval o):=by
  unfold execOp;simp only [hop]
  exact Cf.val (zaff (fun ad e=>by rw [hx] at e;cases e;rfl) fun _=>trivial)
 rw [hrun]
 refine ⟨s,Own1.reads (zac3 hcf ?_ (fun _ h=>h.elim) hrun G.fit.busy (fun b e=>by subst e;exact .inl ow) (fun _ h=>h.elim)) w₁,h1 w₁ G1⟩
 rintro b rfl
 refine ⟨(Array.getElem?_eq_some_iff.1 hB).1,fun x hx=>?_⟩
 rw [hB] at hx;cases hx;rfl
theorem co_store3 {B:Nat} {x y z x' y' z':Value} {xo yo:Operand} (G:Gr ι h s0 w0 ((B, #[x',y',z'],90)::L) s w) (ho:ops[i]?=some o) (hw:Region.wanted o (yielded ops a.tmps)=true) (hop:o.op = .store 90 xo yo) (hx:a.eval xo = .pointer (some ⟨B,0,none⟩)) (hy:a.eval yo = .agg #[x,y,z])
 (o1:x.oneCell'=true) (o2:y.oneCell'=true) (o3:z.oneCell'=true) (q1:x.cells = #[x]) (q2:y.cells = #[y]) (q3:z.cells = #[z])
 (h1:∀w₁,Gr ι h s0 w0 ((B, #[x,y,z],90)::L) s w₁ → CoO Go.Proofs.Tryz.prog tW Post main fn ops rest Q (a.put o.dst undef) s w₁):CoO Go.Proofs.Tryz.prog tW Post main fn ops (i::rest) Q a s w:=by
 refine co_op ho hw fun w₁ r=>?_
 have G1:=G.rely r
 obtain ⟨ow,_,hB⟩:=G1.has _ (List.mem_cons_self ..)
 have hB:w₁.heap[B]?=some (.cells #[x',y',z'] 90):=hB
 have hlt:B<w₁.heap.size:=(Array.getElem?_eq_some_iff.1 hB).1
 obtain ⟨W1,hW1⟩:∃W1,W1=w₁.setCell ⟨B,0,none⟩ x:=⟨_,rfl⟩
 obtain ⟨W2,hW2⟩:∃W2,W2=W1.setCell ⟨B,1,none⟩ y:=⟨_,rfl⟩
 obtain ⟨W3,hW3⟩:∃W3,W3=W2.setCell ⟨B,2,none⟩ z:=⟨_,rfl⟩
 have b1:W1.heap[B]?=some (.cells #[x,y',z'] 90):=by rw [hW1];show (w₁.heap.modify B _)[B]?=_;rw [Array.getElem?_modify];simp [hB]
 have b2:W2.heap[B]?=some (.cells #[x,y,z'] 90):=by rw [hW2];show (W1.heap.modify B _)[B]?=_;rw [Array.getElem?_modify];simp [b1]
 have b3:W3.heap[B]?=some (.cells #[x,y,z] 90):=by rw [hW3];show (W2.heap.modify B _)[B]?=_;rw [Array.getElem?_modify];simp [b2]
 have f0:w₁.frozen? ⟨B,0,none⟩=false:=by simp [World.frozen?,hB]
 have f1:W1.frozen? ⟨B,1,none⟩=false:=by simp [World.frozen?,b1]
 have f2:W2.frozen? ⟨B,2,none⟩=false:=by simp [World.frozen?,b2]
 have c0:=cell_has (q:=0) hB rfl
 have c1:=cell_has (q:=1) b1 rfl
 have c2:=cell_has (q:=2) b2 rfl
 have hcs:(Value.agg #[x,y,z]).cells = #[x,y,z]:=by simp [Value.cells,q1,q2,q3]
 have s1:=run_store Go.Proofs.Tryz.prog w₁ ⟨B,0,none⟩ x .plain o1
 have s2:=run_store Go.Proofs.Tryz.prog W1 ⟨B,1,none⟩ y .plain o2
 have s3:=run_store Go.Proofs.Tryz.prog W2 ⟨B,2,none⟩ z .plain o3
 have hrun:(execOp a.eval o).run Go.Proofs.Tryz.prog w₁ = .ok .skip W3:=by
  simp [execOp,hop,hx,hy,Instr.storeAt,Instr.sureAddr,storeVar,Go.Proofs.Tryz.sizeOf90,hcs,storeCells,addr_add,zabm (show isAggT Go.Proofs.Tryz.prog 90=some true by kernel_rfl),s1,c0,f0, ← hW1,s2,c1,f1, ← hW2,s3,c2,f2, ← hW3]
 have hcf:Cf Go.Proofs.Tryz.prog (fun b=>b=B) (fun b=>b=B) (execOp a.eval o):=by
  unfold execOp;simp only [hop]
  exact Cf.unit (zage (fun ad e=>by rw [hx] at e;cases e;rfl) trivial)
 have hsz:W3.heap.size=w₁.heap.size:=by rw [hW3,hW2,hW1];simp [World.setCell]
 have hkk:∀k,k≠B → W3.heap[k]?=w₁.heap[k]?:=fun k hk=>by rw [hW3,hW2,hW1,Below.heap_setCell _ _ _ _ hk,Below.heap_setCell _ _ _ _ hk,Below.heap_setCell _ _ _ _ hk]
 have hR:∀e∈listed Go.Proofs.Tryz.prog fn a o w₁,EvG (s.plus w₁.heap.size W3.heap.size) e:=fun e he=>by
  have h1:=mem_listed he
  unfold Sem.events at h1
  have h2:=Sem.runT_fst Go.Proofs.Tryz.prog (execOp a.eval o) w₁ #[]
  rw [hrun] at h2
  have h3:=zac7 (es:= #[]) (es':=((execOp a.eval o).runT Go.Proofs.Tryz.prog w₁ #[]).2) hcf (by
   rintro b rfl
   refine ⟨hlt,fun x hx=>?_⟩
   rw [hB] at hx;cases hx;rfl) (fun _ h=>h) (v:=.skip) (w':=W3) (by rw [← h2])
  exact zaoh (fun b e=>by subst e;exact .inl ow) (fun b e=>by subst e;exact ow) ((h3.2 e h1).resolve_left (by simp))
 rw [hrun]
 refine ⟨s,{ tape:=?_,os:=?_,output:=?_,size:=Nat.le_of_eq hsz.symm,frame:=fun b hb hn=>hkk b (by rintro rfl;exact hn ow),own:=fun b hb=>.inl hb,ro:=fun b hb=>.inl hb,apart:=fun ha _=>ha,kid:=rfl,fk:=.inl rfl,ev:=hR,mute:=fun k hk h2=>by have:=G.fit.busy k hk;omega },h1 W3 (G1.turn ?_ ?_ ?_ hsz hkk b3)⟩ <;> (rw [hW3,hW2,hW1];rfl)
theorem entry_run {f:FuncId} {fn':Func} {e:Array Value → Sem Value} {v:Value} {w':World} {ats:Array TypeId} {ags:Array Operand} {args:Array Value} (hop:o.op = .call { callee:=.value (.func f),args:=ags,argTypes:=ats }) (hf:Go.Proofs.Tryz.prog.funcs[f]?=some fn') (hname:(fn'.name == "runtime.NumGoroutine")=false) (hb:fn'.body.isNone=true) (hn:Extern.findNext fn'=none) (he:Extern.find fn'=some e) (ha:ags.map a.eval=args)
 (hrun:(e args).run Go.Proofs.Tryz.prog w = .ok v w'):(execOp a.eval o).run Go.Proofs.Tryz.prog w = .ok (.value v) w':=by
 rw [execOp_call_func hop,ha,run_callFunc_extern hf hname hb hn he,hrun];rfl
theorem entry_ev {f:FuncId} {fn':Func} {e:Array Value → Sem Value} {ats:Array TypeId} {ags:Array Operand} {args:Array Value} (hop:o.op = .call { callee:=.value (.func f),args:=ags,argTypes:=ats }) (hf:Go.Proofs.Tryz.prog.funcs[f]?=some fn') (hname:(fn'.name == "runtime.NumGoroutine")=false) (hb:fn'.body.isNone=true) (hn:Extern.findNext fn'=none) (he:Extern.find fn'=some e) (ha:ags.map a.eval=args):(execOp a.eval o).events Go.Proofs.Tryz.prog w #[]=(e args).events Go.Proofs.Tryz.prog w #[⟨.mark (.extern f),false,true⟩]:=by
 rw [execOp_call_func hop,ha,events_callFunc_extern hf hname hb hn he];rfl
theorem ev_parts {t:Nat} {b:Addr} {fl:Int} {es:Array Event} (ht:t=71 ∨ t=73) (hf:fl=150 ∨ fl=409 ∨ fl=153):(ReflectliteValue.parts (rv t b fl)).events Go.Proofs.Tryz.prog w es=es:=by
 rcases ht with rfl | rfl <;> rcases hf with rfl | rfl | rfl <;> kernel_rfl
theorem ev_mk {p:Addr} {es:Array Event}:(ReflectliteValue.mk 71 p ReflectliteValue.flagAddr).events Go.Proofs.Tryz.prog w es=es:=by kernel_rfl
theorem ev_elem {A p:Addr} {es:Array Event} (h:w.cell? A=some (.pointer (some p))):(ReflectliteValue.method (ReflectliteValue.valueError "reflectlite.Value.Elem" 0) ReflectliteValue.elem #[rv 73 A 150]).events Go.Proofs.Tryz.prog w es=es.push ⟨.cell A,false,false⟩:=by
 rw [NoNode.met]
 simp only [Sem.events_bind,pa_ptr,ev_parts (.inr rfl) (.inl rfl),Result.evThen_ok]
 simp [ReflectliteValue.elem,loadVar,isAgg,underlying,Go.Proofs.Tryz.underlying73,h,Result.andThen,of_ptr,mk_node,ev_mk]
 rfl
theorem ev_dir {es:Array Event}:(Rtype.directlyAssignable 71 71).events Go.Proofs.Tryz.prog w es=es:=by kernel_rfl
theorem ev_set (p b:Addr) (n:Int) (old:Value) {es:Array Event} (hs:b.spot=none) (hs':p.spot=none) (hb:w.cell? b=some (.int .i64 n)) (hp:w.cell? p=some old) (hf:w.frozen? p=false) :
 (ReflectliteValue.set #[rv 71 p 409,rv 71 b 153]).events Go.Proofs.Tryz.prog w es=(es.push ⟨.cell b,false,false⟩).push ⟨.cell p,true,false⟩:=by
 rw [set_eq]
 simp only [Sem.events_bind,pa_dst,pa_src,ev_parts (.inl rfl) (.inr (.inl rfl)),ev_parts (.inl rfl) (.inr (.inr rfl)),Result.evThen_ok]
 have hb0:b.add 0=b:=by cases b;cases hs;rfl
 have hp0:p.add 0=p:=by cases p;cases hs';rfl
 simp [ReflectliteValue.flagAddr,loadVar,isAgg,underlying,Go.Proofs.Tryz.underlying71,Go.Proofs.Tryz.sizeOf71,loadCells,loadCellsFrom,hb0,hb,Result.andThen,dir_node,ev_dir,storeVar,Value.cells,storeCells,hp0]
 rw [events_store (a:=p) (hv:=rfl),hp,hf]
 rfl
theorem ev_nil {A p:Addr} {es:Array Event} (h:w.cell? A=some (.pointer (some p))):(ReflectliteValue.method (ReflectliteValue.valueError "reflectlite.Value.IsNil" 0) ReflectliteValue.isNil #[rv 73 A 150]).events Go.Proofs.Tryz.prog w es=es.push ⟨.cell A,false,false⟩:=by
 rw [NoNode.met]
 simp only [Sem.events_bind,pa_ptr,ev_parts (.inr rfl) (.inl rfl),Result.evThen_ok]
 simp [ReflectliteValue.isNil,loadVar,isAgg,underlying,Go.Proofs.Tryz.underlying73,h,Result.andThen]
 rfl
set_option maxHeartbeats 4000000 in
theorem cof_as {n m:Int} {V B1:Nat} (G:Gr ι h s0 w0 ((B1, #[.pointer (some ⟨V,0,none⟩)],73)::(V, #[.int .i64 m],71)::L) s w):CoF Go.Proofs.Tryz.prog tW Post main 67 #[(.iface 71 (.agg #[.int .i64 n])),(.iface 73 (.pointer (some ⟨V,0,none⟩))),(.agg #[(.pointer (some ⟨2,73,none⟩)),.pointer (some ⟨B1,0,none⟩),.int .u64 150]),(.iface 122 (.agg #[(.pointer (some ⟨2,71,none⟩))]))] (fun v s' w'=>v = .bool true ∧ Gr ι h s0 w0 [] s' w') s w:=by
 refine co_fn Go.Proofs.Tryz.func67 body_S ?_
 have e0:(#[(.iface 71 (.agg #[.int .i64 n])),(.iface 73 (.pointer (some ⟨V,0,none⟩))),(.agg #[(.pointer (some ⟨2,73,none⟩)),.pointer (some ⟨B1,0,none⟩),.int .u64 150]),(.iface 122 (.agg #[(.pointer (some ⟨2,71,none⟩))]))]:Array Value)++Array.replicate (Go.Proofs.Tryz.f67.ntmps - (#[(.iface 71 (.agg #[.int .i64 n])),(.iface 73 (.pointer (some ⟨V,0,none⟩))),(.agg #[(.pointer (some ⟨2,73,none⟩)),.pointer (some ⟨B1,0,none⟩),.int .u64 150]),(.iface 122 (.agg #[(.pointer (some ⟨2,71,none⟩))]))]:Array Value).size) undef = #[(.iface 71 (.agg #[.int .i64 n])),(.iface 73 (.pointer (some ⟨V,0,none⟩))),(.agg #[(.pointer (some ⟨2,73,none⟩)),.pointer (some ⟨B1,0,none⟩),.int .u64 150]),(.iface 122 (.agg #[(.pointer (some ⟨2,71,none⟩))])),undef,undef,undef,undef,undef,undef,undef,undef,undef,undef,undef,undef,undef,undef,undef,undef,undef,undef,undef,undef,undef,undef,undef,undef,undef,undef,undef,undef,undef,undef,undef,undef,undef,undef,undef,undef,undef,undef,undef,undef,undef,undef,undef,undef,undef,undef,undef,undef,undef,undef,undef,undef,undef,undef,undef,undef,undef,undef]:=by rw [Go.Proofs.Tryz.ntmps67];kernel_rfl
 show CoC _ _ _ _ _ _ _ { tmps:=(#[(.iface 71 (.agg #[.int .i64 n])),(.iface 73 (.pointer (some ⟨V,0,none⟩))),(.agg #[(.pointer (some ⟨2,73,none⟩)),.pointer (some ⟨B1,0,none⟩),.int .u64 150]),(.iface 122 (.agg #[(.pointer (some ⟨2,71,none⟩))]))]:Array Value)++Array.replicate (Go.Proofs.Tryz.f67.ntmps - (#[(.iface 71 (.agg #[.int .i64 n])),(.iface 73 (.pointer (some ⟨V,0,none⟩))),(.agg #[(.pointer (some ⟨2,73,none⟩)),.pointer (some ⟨B1,0,none⟩),.int .u64 150]),(.iface 122 (.agg #[(.pointer (some ⟨2,71,none⟩))]))]:Array Value).size) undef,defers:=[] } _ _
 rw [e0]
 refine co_seq (zaav ?_)
 refine zaik (ops:=RS0) (O:=.cells #[(.pointer (some ⟨2,73,none⟩)),.pointer (some ⟨B1,0,none⟩),.int .u64 150] 90) (v:=fun k=>.pointer (some ⟨k,0,none⟩)) rfl (by kernel_rfl) (fun w=>by kernel_rfl) (fun w=>by kernel_rfl) G.fit.lt fun w r=>?_
 replace G:=(G.rely r).made #[(.pointer (some ⟨2,73,none⟩)),.pointer (some ⟨B1,0,none⟩),.int .u64 150] 90;clear r
 generalize w.heap.size=B2 at G ⊢
 refine zadt (ops:=RS0) (v:=.bool false) rfl (by kernel_rfl) (fun w=>by kernel_rfl) (fun w=>by kernel_rfl) fun w r=>?_
 replace G:=G.rely r;clear r
 refine co_nil ?_
 refine zadq (co_loop1 (zadq (co_seq (co_seq (zaav ?_)))))
 refine zadt (ops:=RS1) (v:=(.iface 71 (.agg #[.int .i64 n]))) rfl (by kernel_rfl) (fun w=>by kernel_rfl) (fun w=>by kernel_rfl) fun w r=>?_
 replace G:=G.rely r;clear r
 refine co_ext (ops:=RS1) (f:=83) (v:=.iface 122 (.agg #[(.pointer (some ⟨2,71,none⟩))])) rfl (by kernel_rfl) (fun w=>by kernel_rfl) (fun w=>by kernel_rfl) fun w r=>?_
 replace G:=G.rely r;clear r
 refine zadt (ops:=RS1) (v:=(.iface 122 (.agg #[(.pointer (some ⟨2,71,none⟩))]))) rfl (by kernel_rfl) (fun w=>by kernel_rfl) (fun w=>by kernel_rfl) fun w r=>?_
 replace G:=G.rely r;clear r
 refine co_ext (ops:=RS1) (f:=152) (v:=.bool true) rfl (by kernel_rfl) (fun w=>by kernel_rfl) (fun w=>by kernel_rfl) fun w r=>?_
 replace G:=G.rely r;clear r
 refine co_nil ?_
 refine zagl (t:=true) (by kernel_rfl) ?_
 refine co_seq (zaav ?_)
 refine co_load3 (ops:=RS2) G (List.mem_cons_self ..) rfl (by kernel_rfl) rfl (by kernel_rfl) fun w G=>?_
 refine co_look (ops:=RS2) (v:=(.agg #[(.pointer (some ⟨2,71,none⟩)),.pointer (some ⟨V,0,none⟩),.int .u64 409])) rfl (by kernel_rfl) G.fit.busy (fun w r=>by
  obtain ⟨ow,_,hB⟩:=(G.rely r).has _ (List.mem_cons_of_mem _ (List.mem_cons_self ..))
  have hc:=cell_has (q:=0) hB rfl
  refine ⟨entry_run rfl Go.Proofs.Tryz.func84 (by kernel_rfl) (by kernel_rfl) (by kernel_rfl) (e:=(ReflectliteValue.method (ReflectliteValue.valueError "reflectlite.Value.Elem" 0) ReflectliteValue.elem)) (by kernel_rfl) (args:= #[rv 73 ⟨B1,0,none⟩ 150]) (by kernel_rfl) (elem_ptr _ _ w hc),fun e he=>?_⟩
  rw [entry_ev rfl Go.Proofs.Tryz.func84 (by kernel_rfl) (by kernel_rfl) (by kernel_rfl) (e:=(ReflectliteValue.method (ReflectliteValue.valueError "reflectlite.Value.Elem" 0) ReflectliteValue.elem)) (by kernel_rfl) (args:= #[rv 73 ⟨B1,0,none⟩ 150]) (by kernel_rfl),ev_elem hc] at he
  simp only [Array.mem_push,List.push_toArray,List.mem_toArray,List.mem_cons,List.not_mem_nil,or_false,List.cons_append,List.nil_append] at he
  exact he.elim (fun k=>.inl ⟨_,by rw [k]⟩) fun k=>.inr (by rw [k];exact ⟨rfl,.inl ow⟩)) fun w r=>?_
 replace G:=G.rely r;clear r
 refine zadt (ops:=RS2) (v:=(.iface 71 (.agg #[.int .i64 n]))) rfl (by kernel_rfl) (fun w=>by kernel_rfl) (fun w=>by kernel_rfl) fun w r=>?_
 replace G:=G.rely r;clear r
 refine co_extM (ops:=RS2) (f:=64) (O:=.cells #[.int .i64 n] 71) (v:=fun k=>rv 71 ⟨k,0,none⟩ 153) rfl (by kernel_rfl) (fun w=>by kernel_rfl) (fun w=>by kernel_rfl) G.fit.lt fun w r=>?_
 replace G:=(G.rely r).made #[.int .i64 n] 71;clear r
 generalize w.heap.size=B3 at G ⊢
 refine co_val (ops:=RS2) rfl (by kernel_rfl) fun w₁ r=>?_
 replace G:=G.rely r;clear r
 obtain ⟨o3,_,h3⟩:=G.has _ (List.mem_cons_self ..)
 obtain ⟨oV,bV,hV⟩:=G.has (V, #[.int .i64 m],71) (List.mem_cons_of_mem _ (List.mem_cons_of_mem _ (List.mem_cons_of_mem _ (List.mem_cons_self ..))))
 have c3:=cell_has (q:=0) h3 rfl
 have cV:=cell_has (q:=0) hV rfl
 have fV:w₁.frozen? ⟨V,0,none⟩=false:=by
  have hV:w₁.heap[V]?=some (.cells #[.int .i64 m] 71):=hV
  simp [World.frozen?,hV]
 have hkk:∀k,k≠V → (w₁.setCell ⟨V,0,none⟩ (.int .i64 n)).heap[k]?=w₁.heap[k]?:=fun k hk=>Below.heap_setCell _ _ _ _ hk
 have hsz:(w₁.setCell ⟨V,0,none⟩ (.int .i64 n)).heap.size=w₁.heap.size:=by simp [World.setCell]
 have hVV:(w₁.setCell ⟨V,0,none⟩ (.int .i64 n)).heap[V]?=some (.cells #[.int .i64 n] 71):=by
  have hV:w₁.heap[V]?=some (.cells #[.int .i64 m] 71):=hV
  show (w₁.heap.modify V _)[V]?=_
  rw [Array.getElem?_modify];simp [hV]
 have G2:=((G.only (List.mem_cons_of_mem _ (List.mem_cons_of_mem _ (List.mem_cons_of_mem _ (List.mem_cons_self ..))))).turn (w':=w₁.setCell ⟨V,0,none⟩ (.int .i64 n)) rfl rfl rfl hsz hkk hVV).nil
 refine ⟨.tuple #[],_,w₁.setCell ⟨V,0,none⟩ (.int .i64 n),entry_run rfl Go.Proofs.Tryz.func85 (by kernel_rfl) (by kernel_rfl) (by kernel_rfl) (e:=ReflectliteValue.set) (by kernel_rfl) (args:= #[rv 71 ⟨V,0,none⟩ 409,rv 71 ⟨B3,0,none⟩ 153]) (by kernel_rfl) (set_node ⟨V,0,none⟩ ⟨B3,0,none⟩ n _ w₁ rfl rfl c3 cV fV),{ tape:=rfl,os:=rfl,output:=rfl,size:=Nat.le_of_eq hsz.symm,frame:=fun b hb hn=>hkk b (by rintro rfl;exact hn oV),own:=fun b hb=>.inl hb,ro:=fun b hb=>.inl hb,apart:=fun ha _=>ha,kid:=rfl,fk:=.inl rfl,ev:=fun e he=>zar7 (?_:EvG _ e) _ _,mute:=fun k hk h2=>by have:=G.fit.busy k hk;omega },?_⟩
 · have h1:=mem_listed he
   have h2:=no_mark he
   rw [entry_ev rfl Go.Proofs.Tryz.func85 (by kernel_rfl) (by kernel_rfl) (by kernel_rfl) (e:=ReflectliteValue.set) (by kernel_rfl) (args:= #[rv 71 ⟨V,0,none⟩ 409,rv 71 ⟨B3,0,none⟩ 153]) (by kernel_rfl),ev_set ⟨V,0,none⟩ ⟨B3,0,none⟩ n _ rfl rfl c3 cV fV] at h1
   simp only [Array.mem_push,List.push_toArray,List.mem_toArray,List.mem_cons,List.not_mem_nil,or_false,List.cons_append,List.nil_append] at h1
   rcases h1 with h1 | h1 | h1
   · exact absurd (by rw [h1]) (h2 85)
   · rw [h1];exact ⟨rfl,.inl o3⟩
   · rw [h1];exact ⟨rfl,.inl oV⟩
 clear c3 cV fV hkk hsz hVV hV h3
 refine co_nil ?_
 refine co_seq (zaav ?_)
 refine zadt (ops:=RS3) (v:=.bool true) rfl (by kernel_rfl) (fun w=>by kernel_rfl) (fun w=>by kernel_rfl) fun w r=>?_
 replace G:=G2.rely r;clear r
 refine co_nil ?_
 refine co_ret ⟨.inr rfl,rfl,fun w₁ r=>⟨_,zab7 (ts:=[8]) rfl,zacn (A:=fun _=>False) (zadk (ts:=[8]) rfl) (fun _ h=>h.elim) (zab7 (ts:=[8]) rfl) G.fit.busy (fun _ h=>h.elim),?_,G.rely r⟩⟩
 kernel_rfl
set_option maxHeartbeats 4000000 in
theorem cof_As {n m:Int} {V:Nat} (G:Gr ι h s0 w0 [(V, #[.int .i64 m],71)] s w) (hp:(h.get 0).pins 131194 40):CoF Go.Proofs.Tryz.prog tW Post main 45 #[(.iface 71 (.agg #[.int .i64 n])),(.iface 73 (.pointer (some ⟨V,0,none⟩)))] (fun v s' w'=>v = .bool true ∧ Gr ι h s0 w0 [] s' w') s w:=by
 refine co_fn Go.Proofs.Tryz.func45 body_E ?_
 have e0:(#[(.iface 71 (.agg #[.int .i64 n])),(.iface 73 (.pointer (some ⟨V,0,none⟩)))]:Array Value)++Array.replicate (Go.Proofs.Tryz.f45.ntmps - (#[(.iface 71 (.agg #[.int .i64 n])),(.iface 73 (.pointer (some ⟨V,0,none⟩)))]:Array Value).size) undef = #[(.iface 71 (.agg #[.int .i64 n])),(.iface 73 (.pointer (some ⟨V,0,none⟩))),undef,undef,undef,undef,undef,undef,undef,undef,undef,undef,undef,undef,undef,undef,undef,undef,undef,undef,undef,undef,undef,undef,undef,undef,undef,undef,undef,undef,undef,undef,undef,undef,undef,undef,undef,undef,undef,undef,undef,undef]:=by rw [Go.Proofs.Tryz.ntmps45];kernel_rfl
 show CoC _ _ _ _ _ _ _ { tmps:=(#[(.iface 71 (.agg #[.int .i64 n])),(.iface 73 (.pointer (some ⟨V,0,none⟩)))]:Array Value)++Array.replicate (Go.Proofs.Tryz.f45.ntmps - (#[(.iface 71 (.agg #[.int .i64 n])),(.iface 73 (.pointer (some ⟨V,0,none⟩)))]:Array Value).size) undef,defers:=[] } _ _
 rw [e0]
 refine co_seq (zaav ?_)
 refine zadt (ops:=RE0) (v:=.bool false) rfl (by kernel_rfl) (fun w=>by kernel_rfl) (fun w=>by kernel_rfl) fun w r=>?_
 replace G:=G.rely r;clear r
 refine co_nil ?_
 refine co_seq (co_seq (zaav ?_))
 refine zadt (ops:=RE1) (v:=(.iface 71 (.agg #[.int .i64 n]))) rfl (by kernel_rfl) (fun w=>by kernel_rfl) (fun w=>by kernel_rfl) fun w r=>?_
 replace G:=G.rely r;clear r
 refine zadt (ops:=RE1) (v:=.bool false) rfl (by kernel_rfl) (fun w=>by kernel_rfl) (fun w=>by kernel_rfl) fun w r=>?_
 replace G:=G.rely r;clear r
 refine co_nil ?_
 refine zagl (t:=false) (by kernel_rfl) (zait ?_)
 refine co_seq (co_seq (zaav ?_))
 refine zadt (ops:=RE3) (v:=(.iface 73 (.pointer (some ⟨V,0,none⟩)))) rfl (by kernel_rfl) (fun w=>by kernel_rfl) (fun w=>by kernel_rfl) fun w r=>?_
 replace G:=G.rely r;clear r
 refine zadt (ops:=RE3) (v:=.bool false) rfl (by kernel_rfl) (fun w=>by kernel_rfl) (fun w=>by kernel_rfl) fun w r=>?_
 replace G:=G.rely r;clear r
 refine co_nil ?_
 refine zagl (t:=false) (by kernel_rfl) (zait ?_)
 refine co_seq (zaav ?_)
 refine zadt (ops:=RE5) (v:=(.iface 73 (.pointer (some ⟨V,0,none⟩)))) rfl (by kernel_rfl) (fun w=>by kernel_rfl) (fun w=>by kernel_rfl) fun w r=>?_
 replace G:=G.rely r;clear r
 refine co_extM (ops:=RE5) (f:=64) (O:=.cells #[.pointer (some ⟨V,0,none⟩)] 73) (v:=fun k=>rv 73 ⟨k,0,none⟩ 150) rfl (by kernel_rfl) (fun w=>by kernel_rfl) (fun w=>by kernel_rfl) G.fit.lt fun w r=>?_
 replace G:=(G.rely r).made #[.pointer (some ⟨V,0,none⟩)] 73;clear r
 generalize w.heap.size=B1 at G ⊢
 refine zaik (ops:=RE5) (O:=.cells #[.pointer none,.pointer none,.int .u64 0] 90) (v:=fun k=>.pointer (some ⟨k,0,none⟩)) rfl (by kernel_rfl) (fun w=>by kernel_rfl) (fun w=>by kernel_rfl) G.fit.lt fun w r=>?_
 replace G:=(G.rely r).made #[.pointer none,.pointer none,.int .u64 0] 90;clear r
 generalize w.heap.size=B2 at G ⊢
 refine co_store3 (ops:=RE5) (x:=(.pointer (some ⟨2,73,none⟩))) (y:=.pointer (some ⟨B1,0,none⟩)) (z:=.int .u64 150) G rfl (by kernel_rfl) rfl (by kernel_rfl) (by kernel_rfl) rfl rfl rfl rfl rfl rfl fun w G=>?_
 refine co_nil ?_
 refine co_seq (zaav ?_)
 refine co_load3 (ops:=RE6) G (List.mem_cons_self ..) rfl (by kernel_rfl) rfl (by kernel_rfl) fun w G=>?_
 refine co_ext (ops:=RE6) (f:=65) (v:=(.iface 122 (.agg #[(.pointer (some ⟨2,73,none⟩))]))) rfl (by kernel_rfl) (fun w=>by kernel_rfl) (fun w=>by kernel_rfl) fun w r=>?_
 replace G:=G.rely r;clear r
 refine zadt (ops:=RE6) (v:=(.iface 122 (.agg #[(.pointer (some ⟨2,73,none⟩))]))) rfl (by kernel_rfl) (fun w=>by kernel_rfl) (fun w=>by kernel_rfl) fun w r=>?_
 replace G:=G.rely r;clear r
 refine co_nil ?_
 refine co_seq (co_seq (zaav ?_))
 refine zadt (ops:=RE7) (v:=(.iface 122 (.agg #[(.pointer (some ⟨2,73,none⟩))]))) rfl (by kernel_rfl) (fun w=>by kernel_rfl) (fun w=>by kernel_rfl) fun w r=>?_
 replace G:=G.rely r;clear r
 refine co_ext (ops:=RE7) (f:=144) (v:=.int .u8 22) rfl (by kernel_rfl) (fun w=>by kernel_rfl) (fun w=>by kernel_rfl) fun w r=>?_
 replace G:=G.rely r;clear r
 refine zadt (ops:=RE7) (v:=.bool false) rfl (by kernel_rfl) (fun w=>by kernel_rfl) (fun w=>by kernel_rfl) fun w r=>?_
 replace G:=G.rely r;clear r
 refine zadt (ops:=RE7) (v:=.bool false) rfl (by kernel_rfl) (fun w=>by kernel_rfl) (fun w=>by kernel_rfl) fun w r=>?_
 replace G:=G.rely r;clear r
 refine co_load3 (ops:=RE7) G (List.mem_cons_self ..) rfl (by kernel_rfl) rfl (by kernel_rfl) fun w G=>?_
 refine co_look (ops:=RE7) (v:=.bool false) rfl (by kernel_rfl) G.fit.busy (fun w r=>by
  obtain ⟨ow,_,hB⟩:=(G.rely r).has _ (List.mem_cons_of_mem _ (List.mem_cons_self ..))
  have hc:=cell_has (q:=0) hB rfl
  refine ⟨entry_run rfl Go.Proofs.Tryz.func66 (by kernel_rfl) (by kernel_rfl) (by kernel_rfl) (e:=(ReflectliteValue.method (ReflectliteValue.valueError "reflectlite.Value.IsNil" 0) ReflectliteValue.isNil)) (by kernel_rfl) (args:= #[rv 73 ⟨B1,0,none⟩ 150]) (by kernel_rfl) (nil_ptr _ _ w hc),fun e he=>?_⟩
  rw [entry_ev rfl Go.Proofs.Tryz.func66 (by kernel_rfl) (by kernel_rfl) (by kernel_rfl) (e:=(ReflectliteValue.method (ReflectliteValue.valueError "reflectlite.Value.IsNil" 0) ReflectliteValue.isNil)) (by kernel_rfl) (args:= #[rv 73 ⟨B1,0,none⟩ 150]) (by kernel_rfl),ev_nil hc] at he
  simp only [Array.mem_push,List.push_toArray,List.mem_toArray,List.mem_cons,List.not_mem_nil,or_false,List.cons_append,List.nil_append] at he
  exact he.elim (fun k=>.inl ⟨_,by rw [k]⟩) fun k=>.inr (by rw [k];exact ⟨rfl,.inl ow⟩)) fun w r=>?_
 replace G:=G.rely r;clear r
 refine zadt (ops:=RE7) (v:=.bool false) rfl (by kernel_rfl) (fun w=>by kernel_rfl) (fun w=>by kernel_rfl) fun w r=>?_
 replace G:=G.rely r;clear r
 refine co_nil ?_
 refine zagl (t:=false) (by kernel_rfl) (zait ?_)
 refine co_seq (zaav ?_)
 refine zadt (ops:=RE9) (v:=(.iface 122 (.agg #[(.pointer (some ⟨2,73,none⟩))]))) rfl (by kernel_rfl) (fun w=>by kernel_rfl) (fun w=>by kernel_rfl) fun w r=>?_
 replace G:=G.rely r;clear r
 refine co_ext (ops:=RE9) (f:=154) (v:=(.iface 122 (.agg #[(.pointer (some ⟨2,71,none⟩))]))) rfl (by kernel_rfl) (fun w=>by kernel_rfl) (fun w=>by kernel_rfl) fun w r=>?_
 replace G:=G.rely r;clear r
 refine zadt (ops:=RE9) (v:=(.iface 122 (.agg #[(.pointer (some ⟨2,71,none⟩))]))) rfl (by kernel_rfl) (fun w=>by kernel_rfl) (fun w=>by kernel_rfl) fun w r=>?_
 replace G:=G.rely r;clear r
 refine co_nil ?_
 refine co_seq (co_seq (zaav ?_))
 refine zadt (ops:=RE10) (v:=(.iface 122 (.agg #[(.pointer (some ⟨2,71,none⟩))]))) rfl (by kernel_rfl) (fun w=>by kernel_rfl) (fun w=>by kernel_rfl) fun w r=>?_
 replace G:=G.rely r;clear r
 refine co_ext (ops:=RE10) (f:=144) (v:=.int .u8 25) rfl (by kernel_rfl) (fun w=>by kernel_rfl) (fun w=>by kernel_rfl) fun w r=>?_
 replace G:=G.rely r;clear r
 refine zadt (ops:=RE10) (v:=.bool true) rfl (by kernel_rfl) (fun w=>by kernel_rfl) (fun w=>by kernel_rfl) fun w r=>?_
 replace G:=G.rely r;clear r
 refine zadt (ops:=RE10) (v:=.bool true) rfl (by kernel_rfl) (fun w=>by kernel_rfl) (fun w=>by kernel_rfl) fun w r=>?_
 replace G:=G.rely r;clear r
 refine zadt (ops:=RE10) (v:=(.iface 122 (.agg #[(.pointer (some ⟨2,71,none⟩))]))) rfl (by kernel_rfl) (fun w=>by kernel_rfl) (fun w=>by kernel_rfl) fun w r=>?_
 replace G:=G.rely r;clear r
 refine co_val (ops:=RE10) rfl (by kernel_rfl) fun w r=>?_
 replace G:=G.rely r;clear r
 obtain ⟨⟨sz,ib⟩,hc⟩:=G.rel.pin 0 _ _ hp
 have hc:w.cell? ⟨0,0,none⟩=some (.iface 122 (.agg #[(.pointer (some ⟨2,40,none⟩))])):=hc
 have hag:isAggT Go.Proofs.Tryz.prog 93=some false:=by kernel_rfl
 have hrun:∀a:Act,(execOp a.eval (⟨some 32,.load 93 (.global 0),93, "wrap.go:115", #[⟨3,.guard⟩],some (3,true)⟩:Oper)).run Go.Proofs.Tryz.prog w = .ok (.value (.iface 122 (.agg #[(.pointer (some ⟨2,40,none⟩))]))) w:=fun a=>by
  simp [execOp,Act.eval,Instr.loadAt,Instr.sureAddr,loadVar,zabm hag,hc]
 have hcf:∀a:Act,Cf Go.Proofs.Tryz.prog (fun b=>b=0) (fun _=>False) (execOp a.eval (⟨some 32,.load 93 (.global 0),93, "wrap.go:115", #[⟨3,.guard⟩],some (3,true)⟩:Oper)):=fun a=>by
  unfold execOp
  exact Cf.val (zaff (fun ad e=>by cases e;rfl) fun _=>trivial)
 have htm:Tame (fun b=>b=0) w:=by
  rintro b rfl
  simp only [World.cell?] at hc
  cases hx:w.heap[0]? with
  | none=>rw [hx] at hc;cases hc
  | some x=>
   refine ⟨(Array.getElem?_eq_some_iff.1 hx).1,fun y hy=>?_⟩
   cases hy
   rw [hx] at hc
   cases x <;> first | rfl | cases hc
 refine ⟨(.iface 122 (.agg #[(.pointer (some ⟨2,40,none⟩))])),_,w,hrun _,Own1.reads (zac3 (hcf _) htm (fun _ h=>h.elim) (hrun _) G.fit.busy (fun b e=>by subst e;exact G.cov.all 0 0 0 sz ib) (fun _ h=>h.elim)) w,?_⟩
 clear hrun hcf htm hc ib
 refine co_ext (ops:=RE10) (f:=155) (v:=.bool true) rfl (by kernel_rfl) (fun w=>by kernel_rfl) (fun w=>by kernel_rfl) fun w r=>?_
 replace G:=G.rely r;clear r
 refine zadt (ops:=RE10) (v:=.bool false) rfl (by kernel_rfl) (fun w=>by kernel_rfl) (fun w=>by kernel_rfl) fun w r=>?_
 replace G:=G.rely r;clear r
 refine zadt (ops:=RE10) (v:=.bool false) rfl (by kernel_rfl) (fun w=>by kernel_rfl) (fun w=>by kernel_rfl) fun w r=>?_
 replace G:=G.rely r;clear r
 refine co_nil ?_
 refine zagl (t:=false) (by kernel_rfl) (zait ?_)
 refine co_seq (zaav ?_)
 refine zadt (ops:=RE12) (v:=(.iface 71 (.agg #[.int .i64 n]))) rfl (by kernel_rfl) (fun w=>by kernel_rfl) (fun w=>by kernel_rfl) fun w r=>?_
 replace G:=G.rely r;clear r
 refine zadt (ops:=RE12) (v:=(.iface 73 (.pointer (some ⟨V,0,none⟩)))) rfl (by kernel_rfl) (fun w=>by kernel_rfl) (fun w=>by kernel_rfl) fun w r=>?_
 replace G:=G.rely r;clear r
 refine co_load3 (ops:=RE12) G (List.mem_cons_self ..) rfl (by kernel_rfl) rfl (by kernel_rfl) fun w G=>?_
 refine zadt (ops:=RE12) (v:=(.iface 122 (.agg #[(.pointer (some ⟨2,71,none⟩))]))) rfl (by kernel_rfl) (fun w=>by kernel_rfl) (fun w=>by kernel_rfl) fun w r=>?_
 replace G:=G.rely r;clear r
 refine zapl (ops:=RE12) rfl (by kernel_rfl) rfl rfl (args:= #[(.iface 71 (.agg #[.int .i64 n])),(.iface 73 (.pointer (some ⟨V,0,none⟩))),(.agg #[(.pointer (some ⟨2,73,none⟩)),.pointer (some ⟨B1,0,none⟩),.int .u64 150]),(.iface 122 (.agg #[(.pointer (some ⟨2,71,none⟩))]))]) (by kernel_rfl) ⟨_,Go.Proofs.Tryz.func67,by kernel_rfl,by kernel_rfl⟩ G.fit.busy fun w r=>?_
 replace G:=G.rely r;clear r
 refine (cof_as (L:=[]) (G.tail)).mono fun v s w hq=>?_
 obtain ⟨rfl,G⟩:=hq
 refine zadt (ops:=RE12) (v:=.bool true) rfl (by kernel_rfl) (fun w=>by kernel_rfl) (fun w=>by kernel_rfl) fun w r=>?_
 replace G:=G.rely r;clear r
 refine co_nil ?_
 refine co_ret ⟨.inr rfl,rfl,fun w₁ r=>⟨_,zab7 (ts:=[4]) rfl,zacn (A:=fun _=>False) (zadk (ts:=[4]) rfl) (fun _ h=>h.elim) (zab7 (ts:=[4]) rfl) G.fit.busy (fun _ h=>h.elim),?_,G.rely r⟩⟩
 kernel_rfl
theorem cof_nil {t1:Value} (G:Gr ι h s0 w0 L s w):CoF Go.Proofs.Tryz.prog tW Post main 45 #[.nilIface,t1] (fun v s' w'=>v = .bool false ∧ Gr ι h s0 w0 L s' w') s w:=by
 refine co_fn Go.Proofs.Tryz.func45 body_E ?_
 have e0:(#[.nilIface,t1]:Array Value)++Array.replicate (Go.Proofs.Tryz.f45.ntmps - (#[.nilIface,t1]:Array Value).size) undef = #[.nilIface,t1,undef,undef,undef,undef,undef,undef,undef,undef,undef,undef,undef,undef,undef,undef,undef,undef,undef,undef,undef,undef,undef,undef,undef,undef,undef,undef,undef,undef,undef,undef,undef,undef,undef,undef,undef,undef,undef,undef,undef,undef]:=by rw [Go.Proofs.Tryz.ntmps45];kernel_rfl
 show CoC _ _ _ _ _ _ _ { tmps:=(#[.nilIface,t1]:Array Value)++Array.replicate (Go.Proofs.Tryz.f45.ntmps - (#[.nilIface,t1]:Array Value).size) undef,defers:=[] } _ _
 rw [e0]
 refine co_seq (zaav ?_)
 refine zadt (ops:=RE0) (v:=.bool false) rfl (by kernel_rfl) (fun w=>by kernel_rfl) (fun w=>by kernel_rfl) fun w r=>?_
 replace G:=G.rely r;clear r
 refine co_nil ?_
 refine co_seq (co_seq (zaav ?_))
 refine zadt (ops:=RE1) (v:=.nilIface) rfl (by kernel_rfl) (fun w=>by kernel_rfl) (fun w=>by kernel_rfl) fun w r=>?_
 replace G:=G.rely r;clear r
 refine zadt (ops:=RE1) (v:=.bool true) rfl (by kernel_rfl) (fun w=>by kernel_rfl) (fun w=>by kernel_rfl) fun w r=>?_
 replace G:=G.rely r;clear r
 refine co_nil ?_
 refine zagl (t:=true) (by kernel_rfl) ?_
 refine co_seq (zaav ?_)
 refine zadt (ops:=RE2) (v:=.bool false) rfl (by kernel_rfl) (fun w=>by kernel_rfl) (fun w=>by kernel_rfl) fun w r=>?_
 replace G:=G.rely r;clear r
 refine co_nil ?_
 refine co_ret ⟨.inr rfl,rfl,fun w₁ r=>⟨_,zab7 (ts:=[4]) rfl,zacn (A:=fun _=>False) (zadk (ts:=[4]) rfl) (fun _ h=>h.elim) (zab7 (ts:=[4]) rfl) G.fit.busy (fun _ h=>h.elim),?_,G.rely r⟩⟩
 kernel_rfl
end
end Go.Co.Cnt
namespace Go.AI.T
open Go Go.RowKit Go.AI Go.Conc Go.Co Go.Co.Cnt
noncomputable section
def pinOk (h:H):Bool:=@Blk.rec (fun _=>Bool) false (fun fl _=>Nat.beq fl 8597930028) (fun _ _=>false) (h.get 0)
theorem pinOk_spec {h:H} (e:pinOk h=true):(h.get 0).pins 131194 40:=by
 unfold pinOk at e
 generalize h.get 0=x at e ⊢
 cases x with
 | dead=>cases e
 | map _ _=>cases e
 | cells fl l=>have:=Nat.eq_of_beq_eq_true e;subst this;exact ⟨by decide,l,rfl⟩
def c_impl_isNoNode (F g:Nat) (a0:AV) (h:H):Option R:=match a0 with
 | .leaf .nili=>some (.bool false,h)
 | .one (.iface t) (.one .agg (.cons (.int k _) (.leaf .nil)))=>bc (Nat.beq t 71) (bc (Nat.beq k 3) (bc (pinOk h) (some (.bool true,h)) none) none) none
 | _=>none
theorem no_some {F g:Nat} {a0:AV} {h:H} {r:R} (e:c_impl_isNoNode F g a0 h=some r):(a0 = .leaf .nili ∧ r=(.bool false,h)) ∨ (∃n,a0 = .one (.iface 71) (.one .agg (.cons (.int 3 n) (.leaf .nil))) ∧ pinOk h=true ∧ r=(.bool true,h)):=by
 unfold c_impl_isNoNode at e
 split at e
 · cases e;exact .inl ⟨rfl,rfl⟩
 · rename_i t k n
   obtain ⟨h1,e2⟩:=zaac e
   obtain ⟨h2,e3⟩:=zaac e2
   obtain ⟨h3,e4⟩:=zaac e3
   have h1:=Nat.eq_of_beq_eq_true h1
   have h2:=Nat.eq_of_beq_eq_true h2
   cases e4
   subst h1;subst h2
   exact .inr ⟨n,rfl,h3,rfl⟩
 · cases e
set_option maxHeartbeats 4000000 in
theorem co_impl_isNoNode {Post:Value → World → Prop} {main:Bool} {fk:Option Fk} (F g:Nat):∀args h r,u1 (c_impl_isNoNode F g) args h=some r → CoTri Go.Proofs.Tryz.prog tW Post main (fk,true) 23 args h r:=by
 intro args h r e
 obtain ⟨a0,rfl,e1⟩:=zae6 e
 refine ⟨⟨_,Go.Proofs.Tryz.func23,by kernel_rfl,by kernel_rfl⟩,fun ι w vs s hR hC hV hF hfk=>?_⟩
 have G:=Gr.start hR hC hF
 rcases no_some e1 with ⟨rfl,rfl⟩ | ⟨n,rfl,hp,rfl⟩
 · cases hV with
   | @cons _ v0 _ _ h1 hV=>
    cases hV
    obtain rfl:v0=Value.nilIface:=(List.cons.inj (show [v0]=[Value.nilIface] from h1)).1
    refine ⟨?_,.bool false,s,w,G.post rfl⟩
    refine co_fn Go.Proofs.Tryz.func23 body_N ?_
    have e0:(#[.nilIface]:Array Value)++Array.replicate (Go.Proofs.Tryz.f23.ntmps - (#[.nilIface]:Array Value).size) undef = #[.nilIface,undef,undef,undef,undef,undef,undef]:=by rw [Go.Proofs.Tryz.ntmps23];kernel_rfl
    show CoC _ _ _ _ _ _ _ { tmps:=(#[.nilIface]:Array Value)++Array.replicate (Go.Proofs.Tryz.f23.ntmps - (#[.nilIface]:Array Value).size) undef,defers:=[] } _ _
    rw [e0]
    refine co_seq (zaav ?_)
    refine zadt (ops:=RN0) (v:=.bool false) rfl (by kernel_rfl) (fun w=>by kernel_rfl) (fun w=>by kernel_rfl) fun w r=>?_
    replace G:=G.rely r;clear r
    refine co_nil ?_
    refine co_seq (zaav ?_)
    refine zaik (ops:=RN1) (O:=.cells #[.int .i64 0] 71) (v:=fun k=>.pointer (some ⟨k,0,none⟩)) rfl (by kernel_rfl) (fun w=>by kernel_rfl) (fun w=>by kernel_rfl) G.fit.lt fun w r=>?_
    replace G:=(G.rely r).made #[.int .i64 0] 71;clear r
    generalize w.heap.size=V at G ⊢
    refine co_nil ?_
    refine co_seq (zaav ?_)
    refine zadt (ops:=RN2) (v:=.nilIface) rfl (by kernel_rfl) (fun w=>by kernel_rfl) (fun w=>by kernel_rfl) fun w r=>?_
    replace G:=G.rely r;clear r
    refine zadt (ops:=RN2) (v:=(.iface 73 (.pointer (some ⟨V,0,none⟩)))) rfl (by kernel_rfl) (fun w=>by kernel_rfl) (fun w=>by kernel_rfl) fun w r=>?_
    replace G:=G.rely r;clear r
    refine zapl (ops:=RN2) rfl (by kernel_rfl) rfl rfl (args:= #[.nilIface,(.iface 73 (.pointer (some ⟨V,0,none⟩)))]) (by kernel_rfl) ⟨_,Go.Proofs.Tryz.func45,by kernel_rfl,by kernel_rfl⟩ G.fit.busy fun w r=>?_
    replace G:=G.rely r;clear r
    refine (cof_nil G).mono fun v s w hq=>?_
    obtain ⟨rfl,G⟩:=hq
    refine zadt (ops:=RN2) (v:=.bool false) rfl (by kernel_rfl) (fun w=>by kernel_rfl) (fun w=>by kernel_rfl) fun w r=>?_
    replace G:=G.rely r;clear r
    refine co_nil ?_
    refine co_ret ⟨.inr rfl,rfl,fun w₁ r=>⟨_,zab7 (ts:=[2]) rfl,zacn (A:=fun _=>False) (zadk (ts:=[2]) rfl) (fun _ h=>h.elim) (zab7 (ts:=[2]) rfl) G.fit.busy (fun _ h=>h.elim),?_⟩⟩
    generalize hg:resV _ [2]=x
    obtain rfl:Value.bool false=x:=by rw [← hg];kernel_rfl
    exact (G.rely r).post rfl
 · cases hV with
   | @cons _ v0 _ _ h1 hV=>
    cases hV
    obtain rfl:v0=(.iface 71 (.agg #[.int .i64 n])):=by
     obtain ⟨y,hy,cs,hcs,z,zs,hz,h3,h4⟩:=h1
     have h4:zs=[]:=h4
     have h3:[z]=[Value.int (kd 3) n]:=h3
     subst h4
     injection h3 with h3 _
     subst h3
     injection hy with hy _
     injection hcs with hcs _
     subst hcs
     have:cs = #[.int .i64 n]:=by apply Array.ext';rw [hz];rfl
     subst this
     exact hy
    refine ⟨?_,.bool true,s,w,G.post rfl⟩
    refine co_fn Go.Proofs.Tryz.func23 body_N ?_
    have e0:(#[(.iface 71 (.agg #[.int .i64 n]))]:Array Value)++Array.replicate (Go.Proofs.Tryz.f23.ntmps - (#[(.iface 71 (.agg #[.int .i64 n]))]:Array Value).size) undef = #[(.iface 71 (.agg #[.int .i64 n])),undef,undef,undef,undef,undef,undef]:=by rw [Go.Proofs.Tryz.ntmps23];kernel_rfl
    show CoC _ _ _ _ _ _ _ { tmps:=(#[(.iface 71 (.agg #[.int .i64 n]))]:Array Value)++Array.replicate (Go.Proofs.Tryz.f23.ntmps - (#[(.iface 71 (.agg #[.int .i64 n]))]:Array Value).size) undef,defers:=[] } _ _
    rw [e0]
    refine co_seq (zaav ?_)
    refine zadt (ops:=RN0) (v:=.bool false) rfl (by kernel_rfl) (fun w=>by kernel_rfl) (fun w=>by kernel_rfl) fun w r=>?_
    replace G:=G.rely r;clear r
    refine co_nil ?_
    refine co_seq (zaav ?_)
    refine zaik (ops:=RN1) (O:=.cells #[.int .i64 0] 71) (v:=fun k=>.pointer (some ⟨k,0,none⟩)) rfl (by kernel_rfl) (fun w=>by kernel_rfl) (fun w=>by kernel_rfl) G.fit.lt fun w r=>?_
    replace G:=(G.rely r).made #[.int .i64 0] 71;clear r
    generalize w.heap.size=V at G ⊢
    refine co_nil ?_
    refine co_seq (zaav ?_)
    refine zadt (ops:=RN2) (v:=(.iface 71 (.agg #[.int .i64 n]))) rfl (by kernel_rfl) (fun w=>by kernel_rfl) (fun w=>by kernel_rfl) fun w r=>?_
    replace G:=G.rely r;clear r
    refine zadt (ops:=RN2) (v:=(.iface 73 (.pointer (some ⟨V,0,none⟩)))) rfl (by kernel_rfl) (fun w=>by kernel_rfl) (fun w=>by kernel_rfl) fun w r=>?_
    replace G:=G.rely r;clear r
    refine zapl (ops:=RN2) rfl (by kernel_rfl) rfl rfl (args:= #[(.iface 71 (.agg #[.int .i64 n])),(.iface 73 (.pointer (some ⟨V,0,none⟩)))]) (by kernel_rfl) ⟨_,Go.Proofs.Tryz.func45,by kernel_rfl,by kernel_rfl⟩ G.fit.busy fun w r=>?_
    replace G:=G.rely r;clear r
    refine (cof_As G (pinOk_spec hp)).mono fun v s w hq=>?_
    obtain ⟨rfl,G⟩:=hq
    refine zadt (ops:=RN2) (v:=.bool true) rfl (by kernel_rfl) (fun w=>by kernel_rfl) (fun w=>by kernel_rfl) fun w r=>?_
    replace G:=G.rely r;clear r
    refine co_nil ?_
    refine co_ret ⟨.inr rfl,rfl,fun w₁ r=>⟨_,zab7 (ts:=[2]) rfl,zacn (A:=fun _=>False) (zadk (ts:=[2]) rfl) (fun _ h=>h.elim) (zab7 (ts:=[2]) rfl) G.fit.busy (fun _ h=>h.elim),?_⟩⟩
    generalize hg:resV _ [2]=x
    obtain rfl:Value.bool true=x:=by rw [← hg];kernel_rfl
    exact (G.rely r).post rfl
end
end Go.AI.T
