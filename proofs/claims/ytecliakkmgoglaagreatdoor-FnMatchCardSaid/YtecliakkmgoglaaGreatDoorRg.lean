/- A range over slices.Backward, in company. -/
import Derived.Test.YtecliakkmgoglaaGreatDoorCo6
import Derived.RangeFuncOwn
import Derived.RangeFuncCalls
import Derived.KernelRfl
import Derived.RangeFuncRecord
set_option linter.unusedVariables false
set_option linter.unusedSimpArgs false
set_option maxRecDepth 100000
namespace Go.Co
open Go Go.Conc Go.AI Go.RowKit
def rf (l:Nat) (fn:FuncId) (a:Act) (todo:List Item):Frame:={ fn:=fn,tmps:=a.tmps,todo,defers:=a.defers,mode:=.run,kind:=.normal,roundOf:=some l }
section
variable {P:Program} {ty:TypeId} {Post:Value->World->Prop} {main:Bool} {fn:FuncId} {ops:Array Oper} {i:Nat} {rest:List Nat} {o:Oper} {Q:Out} {a:Act} {s:LG} {w w':World} {k:List Item} {cs:List Frame} {l:Nat} {x y c:Code}
theorem eval_rf (todo:List Item):(rf l fn a todo).eval=a.eval:=by funext x;cases x <;> rfl
theorem sR_skip:stepG P main (G (rf l fn a (.code .skip::k)) cs) w = .go (G (rf l fn a k) cs) w:=by simp [G,stepG,stepG.exec,rf]
theorem sR_seq:stepG P main (G (rf l fn a (.code (.seq x y)::k)) cs) w = .go (G (rf l fn a (.code x::.code y::k)) cs) w:=by simp [G,stepG,stepG.exec,rf]
theorem sR_block {id:Nat}:stepG P main (G (rf l fn a (.code (.block id c)::k)) cs) w = .go (G (rf l fn a (.code c::.inBlock id::k)) cs) w:=by simp [G,stepG,stepG.exec,rf]
theorem sR_inBlock {id:Nat}:stepG P main (G (rf l fn a (.inBlock id::k)) cs) w = .go (G (rf l fn a k) cs) w:=by simp [G,stepG,stepG.exec,rf]
theorem sR_exit {id:Nat} {k':List Item} (h:exitTo id k=some k'):stepG P main (G (rf l fn a (.code (.exit id)::k)) cs) w = .go (G (rf l fn a k') cs) w:=by simp [G,stepG,stepG.exec,rf,h]
theorem sR_cond {d:Operand} {t:Bool} (h:a.eval d = .bool t):stepG P main (G (rf l fn a (.code (.cond d x y)::k)) cs) w = .go (G (rf l fn a (.code (if t then x else y)::k)) cs) w:=by
 have e:(rf l fn a (.code (.cond d x y)::k)).eval d = .bool t:=by rw [eval_rf];exact h
 simp only [rf] at e
 simp [G,stepG,stepG.exec,rf,e]
theorem sR_region {id:Nat}:stepG P main (G (rf l fn a (.code (.region id ops false)::k)) cs) w = .go (G (rf l fn a (.inRegion ops (List.range ops.size)::k)) cs) w:=by simp [G,stepG,stepG.exec,rf]
theorem sR_nil:stepG P main (G (rf l fn a (.inRegion ops []::k)) cs) w = .go (G (rf l fn a k) cs) w:=by simp [G,stepG,stepG.exec,rf]
theorem finish_rf (ho:ops[i]?=some o) (v:Value):(rf l fn a (.inRegion ops (i::rest)::k)).finish v=rf l fn (a.put o.dst v) (.inRegion ops rest::k):=by
 unfold rf Act.put
 simp only [Frame.finish,ho,Option.bind_some]
 cases o.dst <;> rfl
theorem sR_unwanted (ho:ops[i]?=some o) (hw:Region.wanted o (yielded ops a.tmps)=false):stepG P main (G (rf l fn a (.inRegion ops (i::rest)::k)) cs) w = .go (G (rf l fn (a.put o.dst undef) (.inRegion ops rest::k)) cs) w:=by
 rw [<- finish_rf ho]
 simp [G,stepG,stepG.exec,rf,ho,hw]
theorem sR_oper (ho:ops[i]?=some o) (hw:Region.wanted o (yielded ops a.tmps)=true) (hd:∀c,o.op≠.defer c):stepG P main (G (rf l fn a (.inRegion ops (i::rest)::k)) cs) w=stepG.apply P true (rf l fn a (.inRegion ops (i::rest)::k)) cs none (execOp a.eval o) w:=by
 have e:(rf l fn a (.inRegion ops (i::rest)::k)).eval=a.eval:=eval_rf _
 simp only [rf] at e
 have hop:Frame.oper? (rf l fn a (.inRegion ops (i::rest)::k))=some o:=by simp [rf,Frame.oper?,ho]
 simp only [rf] at hop
 simp only [G,stepG,stepG.exec,rf,ho,Option.map_some,Option.getD_some,hw,if_true,stepG.oper,hop,e]
 split
 · rename_i c h1 h2
   first | exact absurd h2 (hd _) | exact absurd h1 (hd _) | skip
 · rfl
theorem sR_value {v:Value} (ho:ops[i]?=some o) (hw:Region.wanted o (yielded ops a.tmps)=true) (hd:∀c,o.op≠.defer c) (hr:(execOp a.eval o).run P w = .ok (.value v) w'):stepG P main (G (rf l fn a (.inRegion ops (i::rest)::k)) cs) w = .go (G (rf l fn (a.put o.dst v) (.inRegion ops rest::k)) cs) w' (listed P fn a o w):=by
 rw [sR_oper ho hw hd, <- finish_rf ho]
 simp [stepG.apply,hr,G,rf,GStep.after,listed]
theorem sR_none (ho:ops[i]?=some o) (hw:Region.wanted o (yielded ops a.tmps)=true) (hd:∀c,o.op≠.defer c) (hr:(execOp a.eval o).run P w = .ok .skip w'):stepG P main (G (rf l fn a (.inRegion ops (i::rest)::k)) cs) w = .go (G (rf l fn (a.put o.dst undef) (.inRegion ops rest::k)) cs) w' (listed P fn a o w):=by
 rw [sR_oper ho hw hd, <- finish_rf ho]
 simp [stepG.apply,hr,G,rf,GStep.after,listed]
theorem sR_enter {f:FuncId} {args:Array Value} (ho:ops[i]?=some o) (hw:Region.wanted o (yielded ops a.tmps)=true) (hd:∀c,o.op≠.defer c) (hr:(execOp a.eval o).run P w = .ok (.enter f args) w'):stepG P main (G (rf l fn a (.inRegion ops (i::rest)::k)) cs) w = .go (G (Frame.enter P f args .normal) (rf l fn a (.inRegion ops (i::rest)::k)::cs)) w' (listed P fn a o w):=by
 rw [sR_oper ho hw hd]
 simp [stepG.apply,hr,G,rf,GStep.after,listed]
theorem stepG_round {b:Frame} {f:FuncId} {tmps:Array Value} {asg bdy:Code} (ho:ops[i]?=some o) (hw:Region.wanted o (yielded ops a.tmps)=true) (hk:b.kind≠.early) (hr:(execOp a.eval o).run P w = .ok (.round l f tmps asg bdy) w'):stepG P main (G (b.at a (.inRegion ops (i::rest)::k)) cs) w = .go (G (rf l f ⟨tmps,[]⟩ [.code asg,.beginRound,.code bdy]) (b.at a (.inRegion ops (i::rest)::k)::cs)) w' (listed P b.fn a o w):=by
 have hk':(b.kind == CallKind.early)=false:=by simpa using hk
 rw [stepG_oper ho hw]
 simp [stepG.apply,hr,G,Frame.at,hk',GStep.after,listed,Frame.round,rf]
theorem sR_begin (hr:(Instr.beginRound l).run P w = .ok () w'):stepG P main (G (rf l fn a (.beginRound::k)) cs) w = .go (G (rf l fn a k) cs) w' (seen P fn ((Instr.beginRound l).events P w #[])):=by
 simp [G,stepG,stepG.exec,stepG.apply,rf,hr,GStep.after,Frame.finish]
theorem sR_end {b:Frame} (hr:(Instr.endRound l none).run P w = .ok (.bool true) w'):stepG P main (G (rf l fn a []) (b::cs)) w = .go (G (b.finish (.bool true)) cs) w' (seen P fn ((Instr.endRound l none).events P w #[])):=by
 simp [G,stepG,stepG.exec,rf,hr,GStep.after,doReturn]
theorem stepG_endRange {b:Frame} (hr:(Instr.endLoop l).run P w = .ok none w'):stepG P main (G (b.at a (.endRangeFunc l::k)) cs) w = .go (G (b.at a k) cs) w' (seen P b.fn ((Instr.endLoop l).events P w #[])):=by
 simp [G,stepG,stepG.exec,Frame.at,hr,GStep.after]
theorem stepG_collected {b:Frame} {D:Nat} {todo:List Item} {ds:List Deferred} {mm:Bool} (hd:a.defers={ target:=.collected D,args:= #[] }::ds) (hr:(Instr.takeDeferred D).run P w = .ok [] w'):stepG P mm (G { b.at a todo with mode:=.returning } cs) w = .go (G { b.at ⟨a.tmps,ds⟩ todo with mode:=.returning } cs) w' (seen P b.fn ((Instr.takeDeferred D).events P w #[])):=by
 simp [G,stepG,unwind,Frame.at,hd,hr,GStep.after]
theorem stepG_range {b:Frame} {g:Operand} {ps:Array Tmp} {mark:List Deferred} {f:FuncId} {args:Array Value} {lb:Array Value} (hg:a.eval g = .func (.func f) #[] lb) (hk:b.kind≠.early)
 (h1:(Instr.enterLoop b.fn a.tmps ps x y none).run P w = .ok (l,mark) w') (e1:(Instr.enterLoop b.fn a.tmps ps x y none).events P w #[] = #[]) (h2:∀u,(invoke (.fn (.func f) lb) #[.func (.yield l) #[] #[]]).run P u = .ok (.enter f args) u) (e2:∀u,(invoke (.fn (.func f) lb) #[.func (.yield l) #[] #[]]).events P u #[] = #[]) :
 stepG P main (G (b.at a (.code (.rangeFunc g ps x y)::k)) cs) w = .go (G (Frame.enter P f args .normal) (b.at ⟨a.tmps,mark++a.defers⟩ (.inRangeFunc l::k)::cs)) w' #[]:=by
 have hk':(b.kind == CallKind.early)=false:=by simpa using hk
 have ev:∀z,({ fn:=b.fn,tmps:=a.tmps,todo:=.inRangeFunc l::k,defers:=mark++a.defers,mode:=.run,kind:=b.kind }:Frame).eval z=a.eval z:=fun z=>by cases z <;> rfl
 have ec:a.eval (.const (.func (.yield l) #[] #[])) = .func (.yield l) #[] #[]:=rfl
 have h3:=h2 w'
 simp [G,stepG,stepG.exec,stepG.apply,Frame.at,h1,hk',GStep.after,resolve,ev,hg,ec,Deferred.ofValue,h3,e1,e2,seen_none]
end
end Go.Co
namespace Go.Co
open Go Go.Conc Go.AI Go.RowKit
section
variable {P:Program} {ty:TypeId} {Post:Value->World->Prop} {main:Bool}
variable (P ty Post main) in
def BehR (l:Nat) (fn:FuncId) (k:List Item) (cs:List Frame):Exit->Act->LG->World->Prop
 | .normal,a,s,w=>Walk P ty Post main s (G (rf l fn a k) cs) w
 | .exit id,a,s,w=>∃k',exitTo id k=some k'/\Walk P ty Post main s (G (rf l fn a k') cs) w
 | _,_,_,_=>False
variable (P ty Post main) in
def CoCR (l:Nat) (fn:FuncId) (c:Code) (Q:Out) (a:Act) (s:LG) (w:World):Prop:=
 ∀(k:List Item) (cs:List Frame),(∀e a' s' w',Q e a' s' w'->BehR P ty Post main l fn k cs e a' s' w')->Walk P ty Post main s (G (rf l fn a (.code c::k)) cs) w
variable (P ty Post main) in
def CoOR (l:Nat) (fn:FuncId) (ops:Array Oper) (todo:List Nat) (Q:Out) (a:Act) (s:LG) (w:World):Prop:=
 ∀(k:List Item) (cs:List Frame),(∀e a' s' w',Q e a' s' w'->BehR P ty Post main l fn k cs e a' s' w')->Walk P ty Post main s (G (rf l fn a (.inRegion ops todo::k)) cs) w
variable {fn:FuncId} {ops:Array Oper} {i l:Nat} {rest:List Nat} {o:Oper} {Q:Out} {a:Act} {s:LG} {w:World} {x y c:Code}
theorem BehR.push {z:Item} {k:List Item} {cs:List Frame} {e:Exit} (hz:z.plain=true) (he:e≠.normal) (h:BehR P ty Post main l fn k cs e a s w):BehR P ty Post main l fn (z::k) cs e a s w:=by
 cases e with
 | normal=>exact absurd rfl he
 | exit id=>obtain ⟨k',hk,hg⟩:=h;exact ⟨k',by cases z <;> simp_all [exitTo,Item.plain],hg⟩
 | ret=>exact h
 | goto l=>exact h
 | panic ch=>exact h
 | outgrown=>exact h
theorem CoCR.mono {Q':Out} (h:CoCR P ty Post main l fn c Q a s w) (hq:∀e a s w,Q e a s w->Q' e a s w):CoCR P ty Post main l fn c Q' a s w:=fun k cs hc=>h k cs fun e a' s' w' q=>hc e a' s' w' (hq e a' s' w' q)
theorem cr_skip (h:Q .normal a s w):CoCR P ty Post main l fn .skip Q a s w:=fun k cs hc=>.idle rfl (fun _=>sR_skip) (hc _ _ _ _ h)
theorem cr_exit {id:Nat} (h:Q (.exit id) a s w):CoCR P ty Post main l fn (.exit id) Q a s w:=fun k cs hc=>by
 obtain ⟨k',hk',hg⟩:=hc _ _ _ _ h
 exact .idle rfl (fun _=>sR_exit hk') hg
theorem cr_seq (h:CoCR P ty Post main l fn x (Out.seq (fun a s w=>CoCR P ty Post main l fn y Q a s w) Q) a s w):CoCR P ty Post main l fn (.seq x y) Q a s w:=fun k cs hc=>
 .idle rfl (fun _=>sR_seq) <| h (.code y::k) cs fun e a' s' w' q=>by
  cases e with
  | normal=>exact q k cs hc
  | exit id=>exact (hc _ _ _ _ q).push rfl (by simp)
  | ret=>exact hc .ret _ _ _ q
  | goto l=>exact hc _ _ _ _ q
  | panic ch=>exact hc _ _ _ _ q
  | outgrown=>exact hc _ _ _ _ q
theorem cr_cond {d:Operand} {t:Bool} (hc:a.eval d = .bool t) (h:CoCR P ty Post main l fn (if t then x else y) Q a s w):CoCR P ty Post main l fn (.cond d x y) Q a s w:=fun k cs hq=>.idle rfl (fun _=>sR_cond hc) (h k cs hq)
theorem cr_block {id:Nat} (h:CoCR P ty Post main l fn c (Out.block id Q) a s w):CoCR P ty Post main l fn (.block id c) Q a s w:=fun k cs hc=>
 .idle rfl (fun _=>sR_block) <| h (.inBlock id::k) cs fun e a' s' w' q=>by
  cases e with
  | normal=>exact .idle rfl (fun _=>sR_inBlock) (hc .normal _ _ _ q)
  | exit i=>
   by_cases hi:i=id
   · simp only [Out.block,hi,if_true] at q
     exact ⟨k,by simp [exitTo,hi],hc _ _ _ _ q⟩
   · simp only [Out.block,hi,if_false] at q
     obtain ⟨k',hk',hg⟩:=hc _ _ _ _ q
     have:(id == i)=false:=by simp;exact fun h=>hi h.symm
     exact ⟨k',by simp [exitTo,this,hk'],hg⟩
  | ret=>exact hc .ret _ _ _ q
  | goto l=>exact hc _ _ _ _ q
  | panic ch=>exact hc _ _ _ _ q
  | outgrown=>exact hc _ _ _ _ q
theorem cr_region {id:Nat} (h:CoOR P ty Post main l fn ops (List.range ops.size) Q a s w):CoCR P ty Post main l fn (.region id ops false) Q a s w:=fun k cs hc=>.idle rfl (fun _=>sR_region) (h k cs hc)
theorem cr_nil (h:Q .normal a s w):CoOR P ty Post main l fn ops [] Q a s w:=fun k cs hc=>.idle rfl (fun _=>sR_nil) (hc _ _ _ _ h)
theorem coe_noR (ho:ops[i]?=some o) (hw:Region.wanted o (yielded ops a.tmps)=false) (h:CoOR P ty Post main l fn ops rest Q (a.put o.dst undef) s w):CoOR P ty Post main l fn ops (i::rest) Q a s w:=fun k cs hc=>.idle rfl (fun _=>sR_unwanted ho hw) (h k cs hc)
theorem no_defer {q:World->LG->Prop} {n:Act->LG->World->Prop} (h:goodC P ty Post main fn o a s w n):∀c,o.op≠.defer c:=fun c hc=>by
 unfold goodC execOp at h
 rw [hc] at h
 simp only [Sem.run_bind] at h
 cases hr:(resolve a.eval c o.type).run P w with
 | ok d w'=>rw [hr] at h;exact h
 | halt x w'=>rw [hr] at h;exact h
theorem cr_upon (ho:ops[i]?=some o) (hw:Region.wanted o (yielded ops a.tmps)=true)
 (h:∀w₁,Rely ty s w w₁->goodC P ty Post main fn o a s w₁ (fun a' s' w'=>CoOR P ty Post main l fn ops rest Q a' s' w')):CoOR P ty Post main l fn ops (i::rest) Q a s w:=by
 intro k cs hc
 refine .mk rfl fun w₁ r=>?_
 have h1:=h w₁ r
 have hd:=no_defer (q:=fun _ _=>True) h1
 unfold goodC at h1
 have hk:((rf l fn a (.inRegion ops (i::rest)::k)).kind == CallKind.early)=false:=rfl
 generalize hr:(execOp a.eval o).run P w₁=res at h1
 match res,h1 with
 | .ok (.value v) w',⟨s',h2,h3⟩=>
  exact .own s' _ w' _ (sR_value ho hw hd hr) h2 (h3 k cs hc)
 | .ok .skip w',⟨s',h2,h3⟩=>
  exact .own s' _ w' _ (sR_none ho hw hd hr) h2 (h3 k cs hc)
 | .ok (.enter f args) w',⟨s',h2,h3,_⟩=>
  refine .own s' _ w' _ (sR_enter ho hw hd hr) h2 (h3 _ cs fun v s' w' q=>?_)
  rw [finish_rf ho];exact q k cs hc
end
end Go.Co
namespace Go.Co
open Go Go.Conc Go.AI Go.RowKit
section
variable {P:Program} {ty:TypeId} {Post:Value->World->Prop} {main:Bool} {fk0:Option Fk×Bool} {fn:FuncId} {Γ:Env} {N m lr:Nat} {ops:Array Oper} {r:R}
theorem cor_op (hΓ:CoSound P ty Post main fk0 Γ) {i:Nat} {rest:List Nat} {o:Oper} {Q:Out} {ι:Inj} {h:H} {a:Act} {s:LG} {w:World} {st:St} {k:AV->H->Option R} (ho:ops[i]?=some o) (hpo:plainOp o=true) (hw:Region.wanted o (yielded ops a.tmps)=true)
 (hR:Rel ι h w) (hC:Cov ι h s) (hF:Fit s w) (hfk:s.fk=fk0.1) (hS:StR ι N st a) (e:dOp P Γ o st h k=some r)
 (hk:∀x v ι' h' s' w',ExtC fk0.2 ι h s w ι' h' s' w'->Rel ι' h' w'->Cov ι' h' s'->Fit s' w'->VR ι' x v->k x h'=some r->CoOR P ty Post main lr fn ops rest Q (a.put o.dst v) s' w'):CoOR P ty Post main lr fn ops (i::rest) Q a s w:=cr_upon ho hw fun w₁ rl=>by
 have hR1:=zadm hR hC rl
 refine zabs rfl ?_ (zaj7 hΓ hpo hR1 hC (hF.rely rl) hfk hS e)
 rintro v s' w' ⟨x,v',ι',h',hput,hE,hR',hC',hF',hV,hk'⟩
 rw [hput]
 exact hk x v' ι' h' s' w' ((ExtC.rely hR hC rl).trans hE) hR' hC' hF' hV hk'
theorem runAllR (hΓ:CoSound P ty Post main fk0 Γ) (hpl:∀(i:Nat) (o:Oper),ops[i]?=some o->plainOp o=true) {j d:Nat} {want:Bool} (rest:List Oper) (Q:Out):∀(pre:List Oper) (i:Nat) (ι:Inj) (st:St) (h:H) (a:Act) (s:LG) (w:World) (kn:K),
 (∀q,(pre++rest)[q]?=ops[i+q]?)->Rel ι h w->Cov ι h s->Fit s w->s.fk=fk0.1->StR ι N st a->(∀o∈pre,o.guard=some (j,want)/\o.dst≠some d)->
 (∀(o:Oper),o.guard=some (j,want)->∀a':Act,a'.tmps.getD d undef=a.tmps.getD d undef->Region.wanted o (yielded ops a'.tmps)=true)->runAll P Γ N pre st h kn=some r->
 (∀ι' st' h' a' s' w',ExtC fk0.2 ι h s w ι' h' s' w'->a'.defers=a.defers->Rel ι' h' w'->Cov ι' h' s'->Fit s' w'->StR ι' N st' a'->kn st' h'=some r->CoOR P ty Post main lr fn ops (List.range' (i+pre.length) rest.length) Q a' s' w')->
 CoOR P ty Post main lr fn ops (List.range' i (pre++rest).length) Q a s w:=by
 intro pre
 induction pre with
 | nil=>intro i ι st h a s w kn _ hR hC hF hfk hS _ _ e hk;exact hk ι st h a s w (ExtC.rely hR hC (Rely.refl (ty:=ty) _ _)) rfl hR hC hF hS e
 | cons o pre ih=>
  intro i ι st h a s w kn hl hR hC hF hfk hS hg hw e hk
  obtain ⟨hg1,hd1⟩:=hg o (by simp)
  have ho:ops[i]?=some o:=by simpa using (hl 0).symm
  rw [List.cons_append,List.length_cons,List.range'_succ]
  refine cor_op hΓ ho (hpl i o ho) (hw o hg1 a rfl) hR hC hF hfk hS e fun x v ι' h' s' w' hE hR' hC' hF' hV hk'=>?_
  obtain ⟨st',hk2,hput⟩:=zaed hk'
  refine ih (i+1) ι' st' h' _ s' w' kn (fun q=>by have:=hl (q+1);simpa [Nat.add_assoc,Nat.add_comm 1 q] using this) hR' hC' hF' (hE.fk.trans hfk) (hput (hS.mono hE.le) hV) (fun o ho=>hg o (by simp [ho])) (fun o ho a' ha'=>hw o ho a' (ha'.trans (zaii hd1))) hk2 fun ι2 st2 h2 a2 s2 w2 hE2 hd2 hR2 hC2 hF2 hS2 hk3=>?_
  have:=hk ι2 st2 h2 a2 s2 w2 (hE.trans hE2) (hd2.trans (zabb _ _ _)) hR2 hC2 hF2 hS2 hk3
  simpa [Nat.add_assoc,Nat.add_comm 1 pre.length] using this
theorem skipAllR {j d:Nat} {want:Bool} (rest:List Oper) (Q:Out):∀(pre:List Oper) (i:Nat) (ι:Inj) (st:St) (a:Act) (s:LG) (w:World) (f:St->Option R),
 (∀q,(pre++rest)[q]?=ops[i+q]?)->StR ι N st a->(∀o∈pre,o.guard=some (j,want)/\o.dst≠some d)->
 (∀(o:Oper),o.guard=some (j,want)->∀a':Act,a'.tmps.getD d undef=a.tmps.getD d undef->Region.wanted o (yielded ops a'.tmps)=false)->skipAll N pre st f=some r->
 (∀st' a',a'.defers=a.defers->StR ι N st' a'->f st'=some r->CoOR P ty Post main lr fn ops (List.range' (i+pre.length) rest.length) Q a' s w)->CoOR P ty Post main lr fn ops (List.range' i (pre++rest).length) Q a s w:=by
 intro pre
 induction pre with
 | nil=>intro i ι st a s w f _ hS _ _ e hk;exact hk st a rfl hS e
 | cons o pre ih=>
  intro i ι st a s w f hl hS hg hw e hk
  obtain ⟨hg1,hd1⟩:=hg o (by simp)
  have ho:ops[i]?=some o:=by simpa using (hl 0).symm
  rw [List.cons_append,List.length_cons,List.range'_succ]
  refine coe_noR ho (hw o hg1 a rfl) ?_
  obtain ⟨st',hk2,hput⟩:=zaed e
  refine ih (i+1) ι st' _ s w f (fun q=>by have:=hl (q+1);simpa [Nat.add_assoc,Nat.add_comm 1 q] using this) (hput hS ⟨#[],rfl,rfl⟩) (fun o ho=>hg o (by simp [ho])) (fun o ho a' ha'=>hw o ho a' (ha'.trans (zaii hd1))) hk2 fun st2 a2 hd2 hS2 hk3=>?_
  have:=hk st2 a2 (hd2.trans (zabb _ _ _)) hS2 hk3
  simpa [Nat.add_assoc,Nat.add_comm 1 pre.length] using this
theorem dOpsR (hΓ:CoSound P ty Post main fk0 Γ) (hpl:∀(i:Nat) (o:Oper),ops[i]?=some o->plainOp o=true) {kn:K} {ke:Nat->K} {kr:K} {all:List Oper} (hall:ops.toList=all) :
 ∀(n:Nat) (an:An) (l:List Oper) (i:Nat) (ι0:Inj) (h0:H) (a0:Act) (s0:LG) (w0:World) (ι:Inj) (st:St) (h:H) (a:Act) (s:LG) (w:World),(∀q,l[q]?=ops[i+q]?)->ExtC fk0.2 ι0 h0 s0 w0 ι h s w->a.defers=a0.defers->Rel ι h w->Cov ι h s->Fit s w->s.fk=fk0.1->StR ι N st a->
  dOps P Γ N all n an l st h kn=some r->CoOR P ty Post main lr fn ops (List.range' i l.length) (PostD fk0.2 ι0 h0 a0 s0 w0 N kn ke kr r) a s w:=by
 have nil:∀{ι0:Inj} {h0:H} {a0:Act} {s0:LG} {w0:World} {ι:Inj} {st:St} {h:H} {a:Act} {s:LG} {w:World},ExtC fk0.2 ι0 h0 s0 w0 ι h s w->a.defers=a0.defers->Rel ι h w->Cov ι h s->Fit s w->StR ι N st a->kn st h=some r->CoOR P ty Post main lr fn ops [] (PostD fk0.2 ι0 h0 a0 s0 w0 N kn ke kr r) a s w:=
  fun {ι0 h0 a0 s0 w0 ι st h a s w} hE hd hR hC hF hS e=>have q:PostD fk0.2 ι0 h0 a0 s0 w0 N kn ke kr r .normal a s w:=⟨ι,st,h,hE,hR,hC,hF,hS,hd,e⟩;cr_nil q
 intro n
 induction n with
 | zero=>
  intro an l i ι0 h0 a0 s0 w0 ι st h a s w hl hE hd hR hC hF hfk hS e
  cases l with
  | nil=>exact nil hE hd hR hC hF hS e
  | cons o rest=>cases e
 | succ n ih=>
  intro an l i ι0 h0 a0 s0 w0 ι st h a s w hl hE hd hR hC hF hfk hS e
  cases l with
  | nil=>exact nil hE hd hR hC hF hS e
  | cons o rest=>
   have ho:ops[i]?=some o:=by simpa using (hl 0).symm
   simp only [dOps] at e
   split at e
   · rename_i hg
     obtain ⟨st2,hS2,e⟩:∃st2,StR ι N st2 a/\(dOp P Γ o st2 h fun a h'=>putO N o.dst a st2 fun st'=>dOps P Γ N all n an.next rest st' h' kn)=some r:=by
      cases hc:an.cutK with
      | none=>rw [hc] at e;exact ⟨st,hS,e⟩
      | some ks=>rw [hc] at e;exact ⟨_,zaao hS ks,e⟩
     rw [List.length_cons,List.range'_succ]
     refine cor_op hΓ ho (hpl i o ho) (by simp [Region.wanted,hg]) hR hC hF hfk hS2 e fun x v ι' h' s' w' hE' hR' hC' hF' hV hk=>?_
     obtain ⟨st',hk',hput⟩:=zaed hk
     exact ih an.next rest (i+1) ι0 h0 a0 s0 w0 ι' st' h' _ s' w' (fun q=>by have:=hl (q+1);simpa [Nat.add_assoc,Nat.add_comm 1 q] using this) (hE.trans hE') ((zabb _ _ _).trans hd) hR' hC' hF' (hE'.fk.trans hfk) (hput (hS2.mono hE'.le) hV) hk'
   · rename_i j want hg
     split at e
     · cases e
     rename_i d hdst
     obtain ⟨hall',e1⟩:=zaac e
     have hj:(ops[j]?).bind (·.dst)=some d:=by rw [<- hdst];subst hall;simp
     have hpre:∀o'∈(o::rest).takeWhile (sameG j want),o'.guard=some (j,want)/\o'.dst≠some d:=fun o' ho'=>by
      refine ⟨zani (zad8 _ _ _ ho'),fun hd'=>?_⟩
      have:=List.all_eq_true.1 hall' o' ho'
      rw [hd'] at this
      simp at this
     have hsplit:(o::rest).takeWhile (sameG j want)++(o::rest).dropWhile (sameG j want)=o::rest:=List.takeWhile_append_dropWhile
     have hl2:∀q,((o::rest).takeWhile (sameG j want)++(o::rest).dropWhile (sameG j want))[q]?=ops[i+q]?:=fun q=>by rw [hsplit];exact hl q
     have hl3:∀q,((o::rest).dropWhile (sameG j want))[q]?=ops[i+((o::rest).takeWhile (sameG j want)).length+q]?:=fun q=>by
      have:=hl2 (((o::rest).takeWhile (sameG j want)).length+q)
      rw [List.getElem?_append_right (by omega)] at this
      rw [Nat.add_assoc, <- this];congr 1;omega
     rw [<- hsplit]
     split at e1
     · rcases zafe hj hS e1 with ⟨hw,e2⟩ | ⟨hw,e2⟩
       · refine runAllR hΓ hpl _ _ _ i ι st h a s w _ hl2 hR hC hF hfk hS hpre hw e2 fun ι' st' h' a' s' w' hE' hd' hR' hC' hF' hS' hk=>?_
         exact ih an.r _ _ ι0 h0 a0 s0 w0 ι' st' h' a' s' w' hl3 (hE.trans hE') (hd'.trans hd) hR' hC' hF' (hE'.fk.trans hfk) hS' hk
       · refine skipAllR _ _ _ i ι st a s w _ hl2 hS hpre hw e2 fun st' a' hd' hS' hk=>?_
         exact ih an.r _ _ ι0 h0 a0 s0 w0 ι st' h a' s w hl3 hE (hd'.trans hd) hR hC hF hfk hS' hk
     · rcases zafe hj hS e1 with ⟨hw,e2⟩ | ⟨hw,e2⟩
       · refine runAllR hΓ hpl _ _ _ i ι st h a s w _ hl2 hR hC hF hfk hS hpre hw e2 fun ι' st' h' a' s' w' hE' hd' hR' hC' hF' hS' hk=>?_
         exact ih an.r _ _ ι0 h0 a0 s0 w0 ι' _ h' a' s' w' hl3 (hE.trans hE') (hd'.trans hd) hR' hC' hF' (hE'.fk.trans hfk) (zaao hS' _) hk
       · refine skipAllR _ _ _ i ι st a s w _ hl2 hS hpre hw e2 fun st' a' hd' hS' hk=>?_
         exact ih an.r _ _ ι0 h0 a0 s0 w0 ι _ h a' s w hl3 hE (hd'.trans hd) hR hC hF hfk (zaao hS' _) hk
def flatC:Code->Bool
 | .skip=>true
 | .region _ ops d=>!d && ops.toList.all plainOp
 | .seq a b=>flatC a && flatC b
 | .cond _ a b=>flatC a && flatC b
 | .block _ a=>flatC a
 | .exit _=>true
 | _=>false
theorem den_R {F:Nat} (hΓ:CoSound P ty Post main fk0 Γ):∀(c:Code) (an:An) (st:St) (h:H) (kn:K) (ke:Nat->K) (kr:K) (r:R),flatC c=true->den P Γ N F c an st h kn ke kr=some r->
 ∀(ι:Inj) (a:Act) (s:LG) (w:World),Rel ι h w->Cov ι h s->Fit s w->s.fk=fk0.1->StR ι N st a->CoCR P ty Post main lr fn c (PostD fk0.2 ι h a s w N kn ke kr r) a s w:=by
 intro c
 induction c with
 | skip=>
  intro an st h kn ke kr r _ e ι a s w hR hC hF hfk hS
  exact cr_skip ⟨ι,st,h,ExtC.same hR hC,hR,hC,hF,hS,rfl,e⟩
 | region id ops draw=>
  intro an st h kn ke kr r hf e ι a s w hR hC hF hfk hS
  cases draw with
  | true=>cases hf
  | false=>
   have hpl:∀(i:Nat) (o:Oper),ops[i]?=some o->plainOp o=true:=zarx (by simpa [flatC] using hf)
   have h1:=dOpsR (lr:=lr) (ty:=ty) (Post:=Post) (main:=main) (fn:=fn) (ke:=ke) (kr:=kr) hΓ hpl rfl _ _ ops.toList 0 ι h a s w ι st h a s w (fun q=>by simp) (ExtC.same hR hC) rfl hR hC hF hfk hS e
   rw [Array.length_toList, <- List.range_eq_range'] at h1
   exact cr_region h1
 | seq x y ihx ihy=>
  intro an st h kn ke kr r hf e ι a s w hR hC hF hfk hS
  simp only [flatC,Bool.and_eq_true] at hf
  refine cr_seq ?_
  simp only [den] at e
  split at e
  · refine (ihx _ _ _ _ _ _ _ hf.1 e ι a s w hR hC hF hfk hS).mono fun ex a1 s1 w1 hp=>?_
    obtain ⟨ι1,st1,h1,hE,hR1,hC1,hF1,hS1,hd,hk⟩:=hp
    cases ex with
    | normal=>exact (ihy _ _ _ _ _ _ _ hf.2 hk ι1 a1 s1 w1 hR1 hC1 hF1 (hE.fk.trans hfk) hS1).mono fun ex2 a2 s2 w2 hp2=>PostD.trans hE hd hp2
    | exit i=>exact ⟨ι1,st1,h1,hE,hR1,hC1,hF1,hS1,hd,hk⟩
    | ret=>exact ⟨ι1,st1,h1,hE,hR1,hC1,hF1,hS1,hd,hk⟩
    | goto l=>exact hk.elim
    | panic c=>exact hk.elim
    | outgrown=>exact hk.elim
  · refine (ihx _ _ _ _ _ _ _ hf.1 e ι a s w hR hC hF hfk hS).mono fun ex a1 s1 w1 hp=>?_
    obtain ⟨ι1,st1,h1,hE,hR1,hC1,hF1,hS1,hd,hk⟩:=hp
    cases ex with
    | normal=>exact (ihy _ _ _ _ _ _ _ hf.2 hk ι1 a1 s1 w1 hR1 hC1 hF1 (hE.fk.trans hfk) (zaao hS1 _)).mono fun ex2 a2 s2 w2 hp2=>PostD.trans hE hd hp2
    | exit i=>exact ⟨ι1,st1,h1,hE,hR1,hC1,hF1,hS1,hd,hk⟩
    | ret=>exact ⟨ι1,st1,h1,hE,hR1,hC1,hF1,hS1,hd,hk⟩
    | goto l=>exact hk.elim
    | panic c=>exact hk.elim
    | outgrown=>exact hk.elim
 | cond c x y ihx ihy=>
  intro an st h kn ke kr r hf e ι a s w hR hC hF hfk hS
  simp only [flatC,Bool.and_eq_true] at hf
  obtain ⟨t,ht,e1⟩:=zad6 e
  have hv:=hS.ev c
  rw [ht] at hv
  cases t with
  | true=>exact cr_cond hv.bool (ihx _ _ _ _ _ _ _ hf.1 e1 ι a s w hR hC hF hfk hS)
  | false=>exact cr_cond hv.bool (ihy _ _ _ _ _ _ _ hf.2 e1 ι a s w hR hC hF hfk hS)
 | block id x ih=>
  intro an st h kn ke kr r hf e ι a s w hR hC hF hfk hS
  refine cr_block ((ih _ _ _ _ _ _ _ hf e ι a s w hR hC hF hfk hS).mono fun ex a1 s1 w1 hp=>?_)
  obtain ⟨ι1,st1,h1,hE,hR1,hC1,hF1,hS1,hd,hk⟩:=hp
  cases ex with
  | normal=>exact ⟨ι1,st1,h1,hE,hR1,hC1,hF1,hS1,hd,hk⟩
  | exit i=>
   simp only [Out.block]
   by_cases hi:i=id
   · subst hi
     rw [if_pos rfl]
     simp only [Nat.beq_refl,bc_true] at hk
     exact ⟨ι1,st1,h1,hE,hR1,hC1,hF1,hS1,hd,hk⟩
   · rw [if_neg hi]
     have:Nat.beq i id=false:=by rw [beq_decide];simpa using hi
     simp only [this,zaag] at hk
     exact ⟨ι1,st1,h1,hE,hR1,hC1,hF1,hS1,hd,hk⟩
  | ret=>exact ⟨ι1,st1,h1,hE,hR1,hC1,hF1,hS1,hd,hk⟩
  | goto l=>exact hk.elim
  | panic c=>exact hk.elim
  | outgrown=>exact hk.elim
 | exit id=>
  intro an st h kn ke kr r _ e ι a s w hR hC hF hfk hS
  exact cr_exit ⟨ι,st,h,ExtC.same hR hC,hR,hC,hF,hS,rfl,e⟩
 | _=>intro an st h kn ke kr r hf;cases hf
end
end Go.Co
namespace Go.Co
open Go Go.Conc Go.AI Go.RowKit
section
variable {P:Program} {a:Act} {o:Oper} {w:World} {l:Nat} {rc:Loop}
theorem ev_getL (h:w.heap[l]?=some (.loop rc)) (es:Array Event):(getObj l:Sem Obj).events P w es=es.push ⟨.obj l,false,false⟩:=by
 simp [getObj,Sem.events,Sem.runT,h,Obj.isChan, -Sem.runT_eq]
theorem rn_getL (h:w.heap[l]?=some (.loop rc)):(getObj l:Sem Obj).run P w = .ok (.loop rc) w:=by
 simp [getObj,Sem.run,h]
theorem ev_setL (h:w.heap[l]?=some (.loop rc)) (rd:Loop) (es:Array Event):(setObj l (.loop rd):Sem Unit).events P w es=es.push ⟨.obj l,true,false⟩:=by
 simp [setObj,Sem.events,Sem.runT,h,Obj.isChan, -Sem.runT_eq]
theorem rn_setL (h:w.heap[l]?=some (.loop rc)) (x:Obj):(setObj l x:Sem Unit).run P w = .ok () { w with heap:=w.heap.setIfInBounds l x }:=by
 simp [setObj,Sem.run,h]
theorem ev_getLoop (h:w.heap[l]?=some (.loop rc)) (es:Array Event):(Instr.getLoop l).events P w es=es.push ⟨.obj l,false,false⟩:=by
 unfold Instr.getLoop
 simp [Sem.events_bind,rn_getL h,ev_getL h]
theorem ev_yield (h:w.heap[l]?=some (.loop rc)) {args:Array Value} (hs:args.size=rc.params.size) (es:Array Event):(Instr.yield l args).events P w es=es.push ⟨.obj l,false,false⟩:=by
 unfold Instr.yield
 simp [Sem.events_bind,run_getLoop h,ev_getLoop h,hs]
theorem ev_begin (h:w.heap[l]?=some (.loop rc)) (hr:rc.state = .ready) (es:Array Event):(Instr.beginRound l).events P w es=(es.push ⟨.obj l,false,false⟩).push ⟨.obj l,true,false⟩:=by
 unfold Instr.beginRound
 simp [Sem.events_bind,run_getLoop h,ev_getLoop h,hr,ev_setL h,rn_setL h]
theorem ev_endR (h:w.heap[l]?=some (.loop rc)) (es:Array Event):(Instr.endRound l none).events P w es=(es.push ⟨.obj l,false,false⟩).push ⟨.obj l,true,false⟩:=by
 unfold Instr.endRound
 simp [Sem.events_bind,run_getLoop h,ev_getLoop h,ev_setL h,rn_setL h]
theorem ev_endL (h:w.heap[l]?=some (.loop rc)) (hr:rc.state≠.busy) (es:Array Event):(Instr.endLoop l).events P w es=(es.push ⟨.obj l,false,false⟩).push ⟨.obj l,true,false⟩:=by
 unfold Instr.endLoop
 simp [Sem.events_bind,run_getLoop h,ev_getLoop h,hr,ev_setL h,rn_setL h]
theorem ev_take {ds:List Deferred} (h:w.heap[l]?=some (.deferred (some ds))) (es:Array Event):(Instr.takeDeferred l).events P w es=(es.push ⟨.obj l,false,false⟩).push ⟨.obj l,true,false⟩:=by
 have e1:∀es:Array Event,(getObj l:Sem Obj).events P w es=es.push ⟨.obj l,false,false⟩:=fun es=>by simp [getObj,Sem.events,Sem.runT,h,Obj.isChan, -Sem.runT_eq]
 have e2:(getObj l:Sem Obj).run P w = .ok (.deferred (some ds)) w:=by simp [getObj,Sem.run,h]
 have e3:∀es:Array Event,(setObj l (.deferred none):Sem Unit).events P w es=es.push ⟨.obj l,true,false⟩:=fun es=>by simp [setObj,Sem.events,Sem.runT,h,Obj.isChan, -Sem.runT_eq]
 have e4:(setObj l (.deferred none):Sem Unit).run P w = .ok () { w with heap:=w.heap.setIfInBounds l (.deferred none) }:=by simp [setObj,Sem.run,h]
 unfold Instr.takeDeferred
 simp [Sem.events_bind,e1,e2,e3,e4]
theorem ev_new (x:Obj) (es:Array Event):(newObj x:Sem Nat).events P w es=es:=by
 simp [newObj,Sem.events,Sem.runT, -Sem.runT_eq]
theorem ev_enter (fn:FuncId) (tmps:Array Value) (ps:Array Tmp) (x y:Code):(Instr.enterLoop fn tmps ps x y none).events P w #[] = #[]:=by
 unfold Instr.enterLoop
 simp [Sem.events_bind,ev_new,run_newObj_alloc]
theorem own1_put {ty:TypeId} {s:LG} {B:Nat} {fn:FuncId} {E es:Array Event} (hb:Busy s) (ho:s.own B) (hlt:B<w.heap.size) (x:Obj) (hE:E=seen P fn es) (hes:∀e∈es,e=⟨.obj B,false,false⟩\/e=⟨.obj B,true,false⟩):Own1 ty s w s (w.putObj B x) E:=by
 subst hE
 exact { tape:=rfl,os:=rfl,output:=rfl,size:=by simp,frame:=fun b hb' hn=>World.putObj_heap_other (by rintro rfl;exact hn ho),own:=fun b hb=>.inl hb,ro:=fun b hb=>.inl hb,apart:=fun ha _=>ha,kid:=rfl,fk:=.inl rfl,ev:=fun e he=>zar7 (by
  rcases hes e (mem_seen he) with rfl | rfl
  · exact ⟨rfl,.inl ho⟩
  · exact ⟨rfl,.inl ho⟩) _ _,mute:=fun k hk h2=>by have:=hb k hk;omega }
theorem wrap64 {z:Int} (h : -9223372036854775808<=z/\z<9223372036854775808):IntKind.i64.wrap z=z:=zafo z h.1 (by omega)
theorem run_subO {x y:Int} {u v:Operand} {t q:TypeId} (hop:o.op = .binOp .sub t u v q) (hx:a.eval u = .int .i64 x) (hy:a.eval v = .int .i64 y) (h : -9223372036854775808<=x - y/\x - y<9223372036854775808) (w:World):(execOp a.eval o).run P w = .ok (.value (.int .i64 (x - y))) w:=by
 simp [execOp,hop,hx,hy,eqGuard,binOp,Op.intArith,wrap64 h]
theorem ev_subO {x y:Int} {u v:Operand} {t q:TypeId} (hop:o.op = .binOp .sub t u v q) (hx:a.eval u = .int .i64 x) (hy:a.eval v = .int .i64 y) (w:World):(execOp a.eval o).events P w #[] = #[]:=by
 simp [execOp,hop,hx,hy,eqGuard,binOp,Op.intArith]
theorem run_geqO {x y:Int} {u v:Operand} {t q:TypeId} (hop:o.op = .binOp .geq t u v q) (hx:a.eval u = .int .i64 x) (hy:a.eval v = .int .i64 y) (w:World):(execOp a.eval o).run P w = .ok (.value (.bool (decide (y<=x)))) w:=by
 simp [execOp,hop,hx,hy,eqGuard,binOp,Op.intCmp]
theorem ev_geqO {x y:Int} {u v:Operand} {t q:TypeId} (hop:o.op = .binOp .geq t u v q) (hx:a.eval u = .int .i64 x) (hy:a.eval v = .int .i64 y) (w:World):(execOp a.eval o).events P w #[] = #[]:=by
 simp [execOp,hop,hx,hy,eqGuard,binOp,Op.intCmp]
theorem run_idxO {B q n c k:Nat} {u v:Operand} {t el:TypeId} (ht:P.underlying t=some (.slice el)) (hs:sizeT P el=some 1) (hop:o.op = .indexAddr t u v) (hx:a.eval u = .slice (some ⟨B,q,none⟩) n c) (hy:a.eval v = .int .i64 (k:Int)) (hk:k<n) (w:World):(execOp a.eval o).run P w = .ok (.value (.pointer (some ⟨B,q+k,none⟩))) w:=by
 simp [execOp,hop,hx,hy,Instr.indexAt,asIntOf,run_underlying ht,hk,zaa0 hs,addr_add]
theorem ev_idxO {B q n c k:Nat} {u v:Operand} {t el:TypeId} (ht:P.underlying t=some (.slice el)) (hs:sizeT P el=some 1) (hop:o.op = .indexAddr t u v) (hx:a.eval u = .slice (some ⟨B,q,none⟩) n c) (hy:a.eval v = .int .i64 (k:Int)) (hk:k<n) (w:World):(execOp a.eval o).events P w #[] = #[]:=by
 simp [execOp,hop,hx,hy,Instr.indexAt,asIntOf,underlying,ht,hk,zaa0 hs,addr_add]
 trace_state
end
end Go.Co
namespace Go.Co
open Go Go.Conc Go.AI Go.RowKit
section
variable {P:Program} {ty:TypeId} {Post:Value->World->Prop} {main:Bool} {fn:FuncId} {ops:Array Oper} {i:Nat} {rest:List Nat} {o:Oper} {Q:Out} {a:Act} {s:LG} {w:World} {l:Nat} {rc:Loop}
theorem exec_yield {cc:Call} {f:Operand} {args:Array Value} (hop:o.op = .call cc) (hc:cc.callee = .value f) (ef:a.eval f = .func (.yield l) #[] #[]) (ha:cc.args.map a.eval=args):execOp a.eval o=Instr.yield l args:=by
 subst ha
 simp [execOp,hop,resolve,hc,ef,Deferred.ofValue,invoke]
theorem co_yield {cc:Call} {f:Operand} {args:Array Value} {K:LG->World->Prop} (ho:ops[i]?=some o) (hw:Region.wanted o (yielded ops a.tmps)=true) (hop:o.op = .call cc) (hc:cc.callee = .value f) (ef:a.eval f = .func (.yield l) #[] #[]) (ha:cc.args.map a.eval=args) (hs:args.size=rc.params.size) (hb:Busy s)
 (hl:∀w₁,Rely ty s w w₁->s.own l/\w₁.heap[l]?=some (.loop rc))
 (h:∀w₁,Rely ty s w w₁->∀(fb:Frame) (cs:List Frame),(∀s' w',K s' w'->Walk P ty Post main s' (G (fb.finish (.bool true)) cs) w')->Walk P ty Post main s (G (rf l rc.fn ⟨(rc.params.zip args).foldl (fun tmps (t,a)=>tmps.setIfInBounds t a) rc.tmps,[]⟩ [.code rc.assign,.beginRound,.code rc.body]) (fb::cs)) w₁)
 (hk:∀s' w',K s' w'->CoO P ty Post main fn ops rest Q (a.put o.dst (.bool true)) s' w'):CoO P ty Post main fn ops (i::rest) Q a s w:=by
 intro b k cs hbf hke hq
 subst hbf
 refine .mk rfl fun w₁ r=>?_
 obtain ⟨hol,hl1⟩:=hl w₁ r
 have hx:=exec_yield (a:=a) hop hc ef ha
 have hrun:(execOp a.eval o).run P w₁ = .ok (.round l rc.fn ((rc.params.zip args).foldl (fun tmps (t,a)=>tmps.setIfInBounds t a) rc.tmps) rc.assign rc.body) w₁:=by rw [hx];exact run_yield hl1 hs
 refine .own s _ w₁ _ (stepG_round ho hw hke hrun) (Own1.reads ⟨fun e he=>?_,fun k hk h2=>by have:=hb k hk;omega⟩ w₁) (h w₁ r _ cs fun s' w' q=>?_)
 · have h1:=mem_listed he
   rw [hx,ev_yield hl1 hs] at h1
   simp only [Array.mem_push,Array.not_mem_empty,false_or] at h1
   rw [h1];exact ⟨rfl,.inl hol⟩
 · have hfin:(b.at a (.inRegion ops (i::rest)::k)).finish (.bool true)=b.at (a.put o.dst (.bool true)) (.inRegion ops rest::k):=by rw [Frame.finish_at,ho];rfl
   rw [hfin]
   exact hk s' w' q b k cs rfl hke hq
end
end Go.Co
namespace Go.Co.Cnt
open Go Go.Conc Go.AI Go.RowKit Go.Proofs.Tryz
noncomputable section
def RB0:Array Oper:=#[.mk (some 4) (.load 62 (.tmp 1)) 62 "iter.go:28" #[] none,.mk (some 5) (.call (.mk (.builtin .len) (#[.tmp 4]) (#[62]))) 3 "iter.go:28" (#[.mk 0 .data]) none,.mk (some 6) (.binOp .sub 3 (.tmp 5) (.const (.int .i64 1)) 3) 3 "iter.go:28" (#[.mk 1 .data]) none,.mk (some 3) (.assign (.tmp 6)) 3 "iter.go:28" (#[.mk 2 .data,.mk 0 .phase,.mk 1 .phase,.mk 2 .phase]) none]
def RB1:Array Oper:=#[.mk (some 7) (.move (.tmp 3)) 3 "iter.go:28" #[] none,.mk (some 8) (.binOp .geq 3 (.tmp 7) (.const (.int .i64 0)) 3) 4 "iter.go:28" (#[.mk 0 .data]) none]
def RB2:Array Oper:=#[.mk (some 9) (.move (.tmp 3)) 3 "iter.go:28" #[] none,.mk (some 10) (.binOp .sub 3 (.tmp 9) (.const (.int .i64 1)) 3) 3 "iter.go:28" (#[.mk 0 .data]) none,.mk (some 3) (.assign (.tmp 10)) 3 "iter.go:28" (#[.mk 1 .data,.mk 0 .phase,.mk 1 .phase]) none]
def RB3:Array Oper:=#[.mk (some 11) (.move (.tmp 0)) 86 "iter.go:29" #[] none,.mk (some 12) (.move (.tmp 3)) 3 "iter.go:29" #[] none,.mk (some 13) (.load 62 (.tmp 1)) 62 "iter.go:29" #[] none,.mk (some 14) (.move (.tmp 3)) 3 "iter.go:29" #[] none,.mk (some 15) (.indexAddr 62 (.tmp 13) (.tmp 14)) 0 "iter.go:29" (#[.mk 2 .data,.mk 3 .data]) none,.mk (some 16) (.load 38 (.tmp 15)) 38 "iter.go:29" (#[.mk 4 .data]) none,.mk (some 17) (.call (.mk (.value (.tmp 11)) (#[.tmp 12,.tmp 16]) (#[3,38]))) 4 "iter.go:29" (#[.mk 0 .data,.mk 1 .data,.mk 5 .data]) none,.mk (some 18) (.unOp .not 4 (.tmp 17)) 4 "iter.go:29" (#[.mk 6 .data]) none]
def BB:Code:=Code.seq (Code.region 0 RB0 false) (Code.block 0 (Code.loop (Code.seq (Code.seq (Code.region 1 RB1 false) (Code.cond (.tmp 8) .skip (.exit 0))) (Code.seq (Code.block 1 (Code.seq (Code.region 3 RB3 false) (Code.cond (.tmp 18) .ret .skip))) (Code.region 2 RB2 false)))))
theorem body_BB:f60.body=some BB:=by kernel_rfl
theorem kInts {n i:Nat} (h:i<n):(n:Int) - 1 - (i:Int)=((n - 1 - i:Nat):Int):=by omega
set_option maxHeartbeats 4000000 in
theorem back_co {Post:Value->World->Prop} {main:Bool} {l bx ob B q n:Nat} (hn:n<1000000) (J:Nat->LG->World->Prop) (rc:Loop) (hps:rc.params.size=2)
 (hrel:∀{i s w w₁},J i s w->Rely tW s w w₁->J i s w₁) (hJ:∀{i s w},J i s w->Busy s/\s.own l/\w.heap[l]?=some (.loop rc))
 (hbox:∀{i s w},J i s w->∃c e fr cap A,(s.own bx\/s.ro bx)/\w.heap[bx]?=some (.cells c e fr)/\c[ob]?=some (.slice (some A) n cap)/\(1<=n->A=⟨B,q,none⟩))
 (hel:∀{i s w},i<n->J i s w->∃c e fr v,(s.own B\/s.ro B)/\w.heap[B]?=some (.cells c e fr)/\c[q+(n - 1 - i)]?=some v/\∀(fb:Frame) (cs:List Frame),(∀s' w',J (i+1) s' w'->Walk prog tW Post main s' (G (fb.finish (.bool true)) cs) w')->Walk prog tW Post main s (G (rf l rc.fn ⟨(rc.params.zip #[.int .i64 ((n - 1 - i:Nat):Int),v]).foldl (fun tmps (t,a)=>tmps.setIfInBounds t a) rc.tmps,[]⟩ [.code rc.assign,.beginRound,.code rc.body]) (fb::cs)) w)
 {s:LG} {w:World} (hJi:J 0 s w):CoF prog tW Post main 60 #[(.func (.yield l) #[] #[]),(.pointer (some ⟨bx,ob,none⟩))] (fun v s' w'=>J n s' w') s w:=by
 refine co_fn func60 body_BB ?_
 have e0:(#[(.func (.yield l) #[] #[]),(.pointer (some ⟨bx,ob,none⟩))]:Array Value)++Array.replicate (f60.ntmps - (#[(.func (.yield l) #[] #[]),(.pointer (some ⟨bx,ob,none⟩))]:Array Value).size) undef = #[(.func (.yield l) #[] #[]),(.pointer (some ⟨bx,ob,none⟩)),undef,undef,undef,undef,undef,undef,undef,undef,undef,undef,undef,undef,undef,undef,undef,undef,undef]:=by rw [ntmps60];kernel_rfl
 show CoC _ _ _ _ _ _ _ { tmps:=(#[(.func (.yield l) #[] #[]),(.pointer (some ⟨bx,ob,none⟩))]:Array Value)++Array.replicate (f60.ntmps - (#[(.func (.yield l) #[] #[]),(.pointer (some ⟨bx,ob,none⟩))]:Array Value).size) undef,defers:=[] } _ _
 rw [e0];clear e0
 refine co_seq (zaav ?_)
 obtain ⟨c,e,fr,cap,A,hw,hb,hc,hA⟩:=hbox hJi
 refine zair (ops:=RB0) (t:=62) rfl (by kernel_rfl) rfl (by kernel_rfl) (by kernel_rfl) hw hb hc (hJ hJi).1 fun w r=>?_
 replace hJi:=hrel hJi r;clear r
 refine zadt (ops:=RB0) (v:=.int .i64 (n:Int)) rfl (by kernel_rfl) (fun w=>by kernel_rfl) (fun w=>by kernel_rfl) fun w r=>?_
 replace hJi:=hrel hJi r;clear r
 refine zadt (ops:=RB0) (v:=.int .i64 ((n:Int) - 1 - ((0:Nat):Int))) rfl (by kernel_rfl) (fun w=>(run_subO (x:=(n:Int)) (y:=1) rfl (by kernel_rfl) (by kernel_rfl) (by omega) w).trans (by congr 3;omega)) (fun w=>ev_subO (x:=(n:Int)) (y:=1) rfl (by kernel_rfl) (by kernel_rfl) w) fun w r=>?_
 replace hJi:=hrel hJi r;clear r
 refine zadt (ops:=RB0) (v:=.int .i64 ((n:Int) - 1 - ((0:Nat):Int))) rfl (by kernel_rfl) (fun w=>by kernel_rfl) (fun w=>by kernel_rfl) fun w r=>?_
 replace hJi:=hrel hJi r;clear r
 refine co_nil ?_
 clear hw hb hc hA
 refine zadq (zaj0 (n:=n) (fun m a s w=>∃i,i<=n/\m=n - i/\J i s w/\∃t2 t4 t5 t6 t7 t8 t9 t10 t11 t12 t13 t14 t15 t16 t17 t18,a=⟨#[(.func (.yield l) #[] #[]),(.pointer (some ⟨bx,ob,none⟩)),t2,(.int .i64 ((n:Int) - 1 - (i:Int))),t4,t5,t6,t7,t8,t9,t10,t11,t12,t13,t14,t15,t16,t17,t18],[]⟩) ?_ ⟨0,Nat.zero_le _,rfl,hJi,undef,.slice (some A) n cap,.int .i64 (n:Int),.int .i64 ((n:Int) - 1 - ((0:Nat):Int)),undef,undef,undef,undef,undef,undef,undef,undef,undef,undef,undef,undef,by kernel_rfl⟩)
 rintro m a s w ⟨i,hi,rfl,hJi,t2,t4,t5,t6,t7,t8,t9,t10,t11,t12,t13,t14,t15,t16,t17,t18,rfl⟩
 by_cases hin:i<n
 · have hd:decide ((0:Int)<=(n:Int) - 1 - (i:Int))=true:=decide_eq_true (by omega)
   refine co_seq (co_seq (zaav ?_))
   refine zadt (ops:=RB1) (v:=.int .i64 ((n:Int) - 1 - (i:Int))) rfl (by kernel_rfl) (fun w=>by kernel_rfl) (fun w=>by kernel_rfl) fun w r=>?_
   replace hJi:=hrel hJi r;clear r
   refine zadt (ops:=RB1) (v:=.bool true) rfl (by kernel_rfl) (fun w=>(run_geqO (x:=((n:Int) - 1 - (i:Int))) (y:=0) rfl (by kernel_rfl) (by kernel_rfl) w).trans (by rw [hd])) (fun w=>ev_geqO (x:=((n:Int) - 1 - (i:Int))) (y:=0) rfl (by kernel_rfl) (by kernel_rfl) w) fun w r=>?_
   replace hJi:=hrel hJi r;clear r
   refine co_nil ?_
   refine zagl (t:=true) (by kernel_rfl) (zait ?_)
   refine co_seq (zadq (co_seq (zaav ?_)))
   refine zadt (ops:=RB3) (v:=(.func (.yield l) #[] #[])) rfl (by kernel_rfl) (fun w=>by kernel_rfl) (fun w=>by kernel_rfl) fun w r=>?_
   replace hJi:=hrel hJi r;clear r
   refine zadt (ops:=RB3) (v:=.int .i64 ((n:Int) - 1 - (i:Int))) rfl (by kernel_rfl) (fun w=>by kernel_rfl) (fun w=>by kernel_rfl) fun w r=>?_
   replace hJi:=hrel hJi r;clear r
   obtain ⟨c,e,fr,cap,A,hw,hb,hc,hA⟩:=hbox hJi
   obtain rfl:=hA (by omega)
   refine zair (ops:=RB3) (t:=62) rfl (by kernel_rfl) rfl (by kernel_rfl) (by kernel_rfl) hw hb hc (hJ hJi).1 fun w r=>?_
   replace hJi:=hrel hJi r;clear r
   refine zadt (ops:=RB3) (v:=.int .i64 ((n:Int) - 1 - (i:Int))) rfl (by kernel_rfl) (fun w=>by kernel_rfl) (fun w=>by kernel_rfl) fun w r=>?_
   replace hJi:=hrel hJi r;clear r
   refine zadt (ops:=RB3) (v:=.pointer (some ⟨B,q+(n - 1 - i),none⟩)) rfl (by kernel_rfl) (fun w=>run_idxO (B:=B) (q:=q) (n:=n) (c:=cap) (k:=n - 1 - i) (el:=38) (by kernel_rfl) (by kernel_rfl) rfl (by kernel_rfl) (by rw [<- kInts hin];kernel_rfl) (by omega) w) (fun w=>ev_idxO (B:=B) (q:=q) (n:=n) (c:=cap) (k:=n - 1 - i) (el:=38) (by kernel_rfl) (by kernel_rfl) rfl (by kernel_rfl) (by rw [<- kInts hin];kernel_rfl) (by omega) w) fun w r=>?_
   replace hJi:=hrel hJi r;clear r
   clear hw hb hc
   obtain ⟨c,e,fr,v,hw,hb,hc,hgo⟩:=hel hin hJi
   refine zair (ops:=RB3) (t:=38) rfl (by kernel_rfl) rfl (by kernel_rfl) (by kernel_rfl) hw hb hc (hJ hJi).1 fun w r=>?_
   replace hgo:=fun fb cs hk=>(hgo fb cs hk).rely r
   replace hJi:=hrel hJi r;clear r
   clear hw hb hc
   refine co_yield (ops:=RB3) (l:=l) (rc:=rc) (args:= #[.int .i64 ((n - 1 - i:Nat):Int),v]) (K:=J (i+1)) rfl (by kernel_rfl) rfl rfl (by kernel_rfl) (by rw [<- kInts hin];kernel_rfl) (by rw [hps];rfl) (hJ hJi).1 (fun w r=>(hJ (hrel hJi r)).2) (fun w r fb cs hk=>(hgo fb cs hk).rely r) fun s w hJi=>?_
   clear hgo
   refine zadt (ops:=RB3) (v:=.bool false) rfl (by kernel_rfl) (fun w=>by kernel_rfl) (fun w=>by kernel_rfl) fun w r=>?_
   replace hJi:=hrel hJi r;clear r
   refine co_nil ?_
   refine zagl (t:=false) (by kernel_rfl) (zait ?_)
   show CoC _ _ _ _ _ _ _ _ _ _
   refine zaav ?_
   refine zadt (ops:=RB2) (v:=.int .i64 ((n:Int) - 1 - (i:Int))) rfl (by kernel_rfl) (fun w=>by kernel_rfl) (fun w=>by kernel_rfl) fun w r=>?_
   replace hJi:=hrel hJi r;clear r
   refine zadt (ops:=RB2) (v:=.int .i64 ((n:Int) - 1 - ((i+1:Nat):Int))) rfl (by kernel_rfl) (fun w=>(run_subO (x:=((n:Int) - 1 - (i:Int))) (y:=1) rfl (by kernel_rfl) (by kernel_rfl) (by omega) w).trans (by congr 3;omega)) (fun w=>ev_subO (x:=((n:Int) - 1 - (i:Int))) (y:=1) rfl (by kernel_rfl) (by kernel_rfl) w) fun w r=>?_
   replace hJi:=hrel hJi r;clear r
   refine zadt (ops:=RB2) (v:=.int .i64 ((n:Int) - 1 - ((i+1:Nat):Int))) rfl (by kernel_rfl) (fun w=>by kernel_rfl) (fun w=>by kernel_rfl) fun w r=>?_
   replace hJi:=hrel hJi r;clear r
   refine co_nil ?_
   refine ⟨n - (i+1),by omega,i+1,by omega,rfl,hJi,t2,t4,t5,t6,.int .i64 ((n:Int) - 1 - (i:Int)),.bool true,.int .i64 ((n:Int) - 1 - (i:Int)),.int .i64 ((n:Int) - 1 - ((i+1:Nat):Int)),(.func (.yield l) #[] #[]),.int .i64 ((n:Int) - 1 - (i:Int)),.slice (some ⟨B,q,none⟩) n cap,.int .i64 ((n:Int) - 1 - (i:Int)),.pointer (some ⟨B,q+(n - 1 - i),none⟩),v,.bool true,.bool false,by kernel_rfl⟩
 · have hd:decide ((0:Int)<=(n:Int) - 1 - (i:Int))=false:=decide_eq_false (by omega)
   obtain rfl:i=n:=by omega
   refine co_seq (co_seq (zaav ?_))
   refine zadt (ops:=RB1) (v:=.int .i64 ((i:Int) - 1 - (i:Int))) rfl (by kernel_rfl) (fun w=>by kernel_rfl) (fun w=>by kernel_rfl) fun w r=>?_
   replace hJi:=hrel hJi r;clear r
   refine zadt (ops:=RB1) (v:=.bool false) rfl (by kernel_rfl) (fun w=>(run_geqO (x:=((i:Int) - 1 - (i:Int))) (y:=0) rfl (by kernel_rfl) (by kernel_rfl) w).trans (by rw [hd])) (fun w=>ev_geqO (x:=((i:Int) - 1 - (i:Int))) (y:=0) rfl (by kernel_rfl) (by kernel_rfl) w) fun w r=>?_
   replace hJi:=hrel hJi r;clear r
   refine co_nil ?_
   refine zagl (t:=false) (by kernel_rfl) (zajz ?_)
   show bodyOut _ _ _ _ .normal _ _ _
   exact ⟨.inl rfl,rfl,fun w₁ r=>⟨_,zab7 (ts:=[]) rfl,zacn (A:=fun _=>False) (zadk (ts:=[]) rfl) (fun _ h=>h.elim) (zab7 (ts:=[]) rfl) (hJ hJi).1 (fun _ h=>h.elim),hrel hJi r⟩⟩
end
end Go.Co.Cnt
