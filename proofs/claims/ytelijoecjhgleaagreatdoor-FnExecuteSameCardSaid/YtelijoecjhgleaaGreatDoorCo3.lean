/- Goroutines in company, part 3. -/
import Derived.Test.YtelijoecjhgleaaGreatDoorCo2
import Derived.Conc.CompanyDraw
import Derived.Test.YtelijoecjhgleaaGreatDoorAi2
import Derived.Test.YtelijoecjhgleaaGreatDoorCo1
import Derived.Conc.LeavingOf
import Derived.KernelRfl
set_option linter.unusedVariables false
set_option linter.unusedSimpArgs false
set_option maxRecDepth 100000
namespace Go.Co
open Go Go.Conc Go.AI Go.RowKit
structure SitD where
 w:World
 U:Nat->Prop
 s:LG
def LG.add (s:LG) (N:Nat->Prop):LG:=⟨fun b=>s.own b\/N b,s.ro,s.kid,s.fk⟩
theorem LG.add_add (s:LG) (N M:Nat->Prop):(s.add N).add M=s.add fun b=>N b\/M b:=by unfold LG.add;congr 1;funext b;apply propext;simp only [or_assoc]
theorem LG.add_none (s:LG):s.add (fun _=>False)=s:=by unfold LG.add;simp
theorem LG.add_congr (s:LG) {N M:Nat->Prop} (h:∀b,N b↔M b):s.add N=s.add M:=by rw [funext fun b=>propext (h b)]
structure GrC (σ σ':SitD):Prop where
 os:σ'.w.os=σ.w.os
 tape:σ'.w.tape=σ.w.tape
 output:σ'.w.output=σ.w.output
 size:σ.w.heap.size<=σ'.w.heap.size
 keep:∀b,σ.s.own b\/σ.s.ro b->σ'.w.heap[b]?=σ.w.heap[b]?
 new:∃N:Nat->Prop,(∀b,N b->σ.w.heap.size<=b/\b<σ'.w.heap.size)/\σ'.U=(fun b=>σ.U b\/N b)/\σ'.s=σ.s.add N
theorem orF {p:Nat->Prop}:(fun b=>p b\/False)=p:=by funext b;simp
theorem GrC.refl (σ:SitD):GrC σ σ:=⟨rfl,rfl,rfl,Nat.le_refl _,fun _ _=>rfl,fun _=>False,fun _ h=>h.elim,orF.symm,(LG.add_none _).symm⟩
theorem GrC.trans {a b c:SitD} (h:GrC a b) (k:GrC b c):GrC a c:=by
 obtain ⟨N,h1,h2,h3⟩:=h.new
 obtain ⟨M,k1,k2,k3⟩:=k.new
 have hs:=h.size
 have ks:=k.size
 refine ⟨k.os.trans h.os,k.tape.trans h.tape,k.output.trans h.output,Nat.le_trans hs ks,fun x hx=>?_,fun x=>N x\/M x,?_,?_,?_⟩
 · refine (k.keep x ?_).trans (h.keep x hx)
   rw [h3];exact hx.imp .inl id
 · rintro x (hx | hx)
   · have:=h1 x hx;omega
   · have:=k1 x hx;omega
 · rw [k2,h2];funext x;apply propext;simp only [or_assoc]
 · rw [k3,h3,LG.add_add]
theorem GrC.rely {ty:TypeId} {s:LG} {w w₁:World} (U:Nat->Prop) (r:Rely ty s w w₁):GrC ⟨w,U,s⟩ ⟨w₁,U,s⟩:=
 ⟨r.os,r.tape,r.output,r.size,fun b hb=>hb.elim (r.own b) (r.ro b),fun _=>False,fun _ h=>h.elim,orF.symm,(LG.add_none _).symm⟩
theorem GrC.new' (σ:SitD) (X:Obj) (hlt:∀b,σ.s.own b\/σ.s.ro b->b<σ.w.heap.size):GrC σ ⟨σ.w.alloc X,AI.plus σ.U σ.w.heap.size,σ.s.plus σ.w.heap.size (σ.w.heap.size+1)⟩:=by
 refine ⟨rfl,rfl,rfl,by simp,fun b hb=>Below.heap_alloc σ.w X b (hlt b hb),fun b=>b=σ.w.heap.size,fun b hb=>by subst hb;simp,rfl,?_⟩
 exact LG.add_congr _ fun b=>by omega
abbrev AdmC:={S:World->LG->Prop // ∀σ σ',S σ.w σ.s->GrC σ σ'->S σ'.w σ'.s}
def AdmC.all:AdmC:=⟨fun _ _=>True,fun _ _ _ _=>trivial⟩
structure OkS (S:AdmC) (σ:SitD):Prop where
 U:∀b,σ.U b->σ.s.own b
 apart:∀b,σ.s.own b->¬ σ.s.ro b
 lt:∀b,σ.s.own b\/σ.s.ro b->b<σ.w.heap.size
 busy:Busy σ.s
 S:S.1 σ.w σ.s
theorem OkS.gr {S:AdmC} {σ σ':SitD} (h:OkS S σ) (g:GrC σ σ'):OkS S σ':=by
 obtain ⟨N,h1,h2,h3⟩:=g.new
 refine ⟨fun b hb=>?_,fun b hb=>?_,fun b hb=>?_,?_,S.2 _ _ h.S g⟩
 · rw [h2] at hb;rw [h3];exact hb.imp (h.U b) id
 · rw [h3] at hb ⊢
   rcases hb with hb | hb
   · exact h.apart b hb
   · intro hr;have:=h.lt b (.inr hr);have:=h1 b hb;omega
 · rw [h3] at hb
   rcases hb with (hb | hb) | hb
   · exact Nat.lt_of_lt_of_le (h.lt b (.inl hb)) g.size
   · exact (h1 b hb).2
   · exact Nat.lt_of_lt_of_le (h.lt b (.inr hb)) g.size
 · rw [h3];exact h.busy
theorem OkS.less {S:AdmC} {σ:SitD} {B:Nat} (h:OkS S σ):OkS S ⟨σ.w,less σ.U B,σ.s⟩:=⟨fun b hb=>h.U b hb.1,h.apart,h.lt,h.busy,h.S⟩
theorem zarr {σ σ':SitD} {B:Nat} (hB:σ.U B) (hlt:B<σ.w.heap.size) (g:GrC ⟨σ.w,less σ.U B,σ.s⟩ σ'):GrC σ ⟨σ'.w,AI.plus σ'.U B,σ'.s⟩/\¬ σ'.U B:=by
 obtain ⟨N,h1,h2,h3⟩:=g.new
 refine ⟨⟨g.os,g.tape,g.output,g.size,g.keep,N,h1,?_,h3⟩,?_⟩
 · show AI.plus σ'.U B=_
   rw [h2];funext C;apply propext;unfold AI.plus less
   constructor
   · rintro ((⟨h4,_⟩ | h4) | rfl);exact .inl h4;exact .inr h4;exact .inl hB
   · rintro (h4 | h4)
     · by_cases e:C=B
       · exact .inr e
       · exact .inl (.inl ⟨h4,e⟩)
     · exact .inl (.inr h4)
 · rw [h2]
   rintro (⟨_,h4⟩ | h4)
   · exact h4 rfl
   · have:=(h1 B h4).1
     have:σ.w.heap.size<=B:=this
     omega
section
variable {P:Program} {ty:TypeId} {Post:Value->World->Prop} {main:Bool} {fn:FuncId} {ops:Array Oper} {md:Region.Mode} {S:AdmC}
variable (P ty Post main fn) in
def goodU (o:Oper) (a:Act) (s:LG) (w:World) (next:Act->LG->World->Prop):Result Next->Prop
 | .ok (.value v) w'=>∃s',Own1 ty s w s' w' (listed P fn a o w)/\next (a.put o.dst v) s' w'
 | .ok .skip w'=>∃s',Own1 ty s w s' w' (listed P fn a o w)/\next (a.put o.dst undef) s' w'
 | .ok (.enter f args) w'=>∃s',Own1 ty s w s' w' (listed P fn a o w)/\CoF P ty Post main f args (fun v s w=>next (a.put o.dst v) s w) s' w'/\∃v s w,next (a.put o.dst v) s w
 | _=>False
variable (P ty Post main fn) in
def goodC (o:Oper) (a:Act) (s:LG) (w:World) (next:Act->LG->World->Prop):Prop:=goodU P ty Post main fn o a s w next ((execOp a.eval o).run P w)
theorem zabr {o:Oper} {a a':Act} {s:LG} {w:World} {n n':Act->LG->World->Prop} (he:(execOp a'.eval o)=execOp a.eval o) (h:∀v s w,n (a.put o.dst v) s w->n' (a'.put o.dst v) s w) (hh:goodC P ty Post main fn o a s w n):goodC P ty Post main fn o a' s w n':=by
 unfold goodC at hh ⊢
 have hl:listed P fn a' o w=listed P fn a o w:=by unfold listed;rw [he]
 rw [he]
 generalize (execOp a.eval o).run P w=r at hh
 cases r with
 | ok x w'=>
  cases x <;> simp only [goodU] at hh ⊢
  · obtain ⟨s',h1,h2⟩:=hh;exact ⟨s',by rw [hl];exact h1,h _ _ _ h2⟩
  · obtain ⟨s',h1,h2⟩:=hh;exact ⟨s',by rw [hl];exact h1,h _ _ _ h2⟩
  · obtain ⟨s',h1,h2,v,s2,w2,h3⟩:=hh;exact ⟨s',by rw [hl];exact h1,h2.mono fun _ _ _=>h _ _ _,v,s2,w2,h _ _ _ h3⟩
 | halt x w'=>simp only [goodU] at hh
theorem zajy {o:Oper} {a:Act} {s:LG} {w:World} {n:Act->LG->World->Prop} (hh:goodC P ty Post main fn o a s w n):∃v s w,n (a.put o.dst v) s w:=by
 unfold goodC at hh
 generalize (execOp a.eval o).run P w=r at hh
 cases r with
 | ok x w'=>
  cases x <;> simp only [goodU] at hh
  · obtain ⟨s',h1,h2⟩:=hh;exact ⟨_,_,_,h2⟩
  · obtain ⟨s',h1,h2⟩:=hh;exact ⟨_,_,_,h2⟩
  · obtain ⟨s',h1,h2,v,s2,w2,h3⟩:=hh;exact ⟨v,s2,w2,h3⟩
 | halt x w'=>simp only [goodU] at hh
theorem zafn {rest:List Nat} {Q:Out} {o:Oper} {a:Act} {s:LG} {w:World} (h:goodC P ty Post main fn o a s w (fun a' s' w'=>CoO P ty Post main fn ops rest Q a' s' w')):Upon P ty Post main fn ops rest Q o a s w ((execOp a.eval o).run P w):=by
 unfold goodC at h
 generalize (execOp a.eval o).run P w=r at h
 cases r with
 | ok x w'=>
  cases x <;> simp only [goodU] at h <;> simp only [Upon]
  · exact h
  · exact h
  · obtain ⟨s',h1,h2,_⟩:=h;exact ⟨s',h1,h2⟩
 | halt x w'=>simp only [goodU] at h
def yPC (S:AdmC) (P:Program) (fn:FuncId) (ops:Array Oper) (o:Oper) (v:Value) (a:Act):Prop:=
 (Region.wanted o (yielded ops a.tmps)=true/\∀w s,S.1 w s->Busy s->(execOp a.eval o).run P w = .ok (.value v) w/\Reads s (listed P fn a o w))\/(Region.wanted o (yielded ops a.tmps)=false/\v=undef)
variable (P ty Post main fn) in
def quietU (o:Oper) (a:Act) (σ:SitD) (v:Value):Result Next->Prop
 | .ok (.value u) w'=>u=v/\w'=σ.w/\Reads σ.s (listed P fn a o σ.w)
 | .ok .skip w'=>v=undef/\w'=σ.w/\Reads σ.s (listed P fn a o σ.w)
 | .ok (.enter f args) w'=>w'=σ.w/\Reads σ.s (listed P fn a o σ.w)/\CoF P ty Post main f args (fun u s w=>u=v/\∃U,GrC σ ⟨w,U,s⟩) σ.s σ.w
 | _=>False
variable (P ty Post main fn) in
def quietC (o:Oper) (a:Act) (σ:SitD) (v:Value):Prop:=quietU P ty Post main fn o a σ v ((execOp a.eval o).run P σ.w)
variable (P ty Post main fn ops) in
def yRC (o:Oper) (v:Value) (a:Act) (σ:SitD):Prop:=
 (Region.wanted o (yielded ops a.tmps)=true/\∀σ',GrC σ σ'->quietC P ty Post main fn o a σ' v)\/(Region.wanted o (yielded ops a.tmps)=false/\v=undef)
def yAC (P:Program) (fn:FuncId) (o:Oper) (n:Nat) (X:Obj) (a:Act):Prop:=∀w,(execOp a.eval o).run P w = .ok (.value (mkA n w.heap.size)) (w.alloc X)/\∀e∈listed P fn a o w,okEv (fun _=>False) (fun _=>False) w.heap.size (w.heap.size+1) e
variable (P ty Post main fn ops) in
def stepC (S:AdmC) (c:Nat) (o:Oper) (K:Act->SitD->Prop) (a:Act) (σ:SitD):Prop:=
 if c=0 then ∃v,yPC S P fn ops o v a/\∀σ',GrC σ σ'->K (a.put o.dst v) σ'
 else if c=1 then ∃v,yRC P ty Post main fn ops o v a σ/\∀σ',GrC σ σ'->K (a.put o.dst v) σ'
 else if c=3 then (Region.wanted o (yielded ops a.tmps)=true/\∃n X,yAC P fn o n X a/\∀σ' B,GrC σ σ'->σ'.U B->σ'.w.heap[B]?=some X->K (a.put o.dst (mkA n B)) ⟨σ'.w,less σ'.U B,σ'.s⟩) \/
  (Region.wanted o (yielded ops a.tmps)=false/\∀σ',GrC σ σ'->K (a.put o.dst undef) σ')
 else (Region.wanted o (yielded ops a.tmps)=true/\∀σ',GrC σ σ'->goodC P ty Post main fn o a σ'.s σ'.w fun a' s' w'=>K a' ⟨w',σ'.U,s'⟩/\(∀B,σ'.U B->w'.heap[B]?=σ'.w.heap[B]?)/\OkS S ⟨w',σ'.U,s'⟩) \/
  (Region.wanted o (yielded ops a.tmps)=false/\∀σ',GrC σ σ'->K (a.put o.dst undef) σ')
theorem yRC.later {o:Oper} {v:Value} {a:Act} {σ σ':SitD} (g:GrC σ σ') (h:yRC P ty Post main fn ops o v a σ):yRC P ty Post main fn ops o v a σ':=by
 rcases h with ⟨h1,h2⟩ | h
 · exact .inl ⟨h1,fun σ2 h3=>h2 σ2 (g.trans h3)⟩
 · exact .inr h
theorem zakp {c:Nat} {o:Oper} {K:Act->SitD->Prop} {a:Act} {σ σ':SitD} (g:GrC σ σ') (h:stepC P ty Post main fn ops S c o K a σ):stepC P ty Post main fn ops S c o K a σ':=by
 unfold stepC at *
 split
 · rename_i h0;rw [if_pos h0] at h;obtain ⟨v,y,k⟩:=h;exact ⟨v,y,fun σ2 g2=>k σ2 (g.trans g2)⟩
 · rename_i h0;rw [if_neg h0] at h
   split
   · rename_i h1;rw [if_pos h1] at h;obtain ⟨v,y,k⟩:=h;exact ⟨v,y.later g,fun σ2 g2=>k σ2 (g.trans g2)⟩
   · rename_i h1;rw [if_neg h1] at h
     split
     · rename_i h3;rw [if_pos h3] at h
       rcases h with ⟨hw,n,X,y,k⟩ | ⟨hw,k⟩
       · exact .inl ⟨hw,n,X,y,fun σ2 B g2 hu hx=>k σ2 B (g.trans g2) hu hx⟩
       · exact .inr ⟨hw,fun σ2 g2=>k σ2 (g.trans g2)⟩
     · rename_i h3;rw [if_neg h3] at h
       rcases h with ⟨hw,k⟩ | ⟨hw,k⟩
       · exact .inl ⟨hw,fun σ2 g2=>k σ2 (g.trans g2)⟩
       · exact .inr ⟨hw,fun σ2 g2=>k σ2 (g.trans g2)⟩
theorem zapm {c:Nat} {o:Oper} {a:Act} {σ:SitD} {K K':Act->SitD->Prop} (h:∀v σ',K (a.put o.dst v) σ'->K' (a.put o.dst v) σ') (hh:stepC P ty Post main fn ops S c o K a σ):stepC P ty Post main fn ops S c o K' a σ:=by
 unfold stepC at *
 split
 · rename_i h0;rw [if_pos h0] at hh;obtain ⟨v,y,k⟩:=hh;exact ⟨v,y,fun σ' g=>h _ _ (k σ' g)⟩
 · rename_i h0;rw [if_neg h0] at hh
   split
   · rename_i h1;rw [if_pos h1] at hh;obtain ⟨v,y,k⟩:=hh;exact ⟨v,y,fun σ' g=>h _ _ (k σ' g)⟩
   · rename_i h1;rw [if_neg h1] at hh
     split
     · rename_i h3;rw [if_pos h3] at hh
       rcases hh with ⟨hw,n,X,y,k⟩ | ⟨hw,k⟩
       · exact .inl ⟨hw,n,X,y,fun σ' B g hu hx=>h _ _ (k σ' B g hu hx)⟩
       · exact .inr ⟨hw,fun σ' g=>h _ _ (k σ' g)⟩
     · rename_i h3;rw [if_neg h3] at hh
       rcases hh with ⟨hw,k⟩ | ⟨hw,k⟩
       · exact .inl ⟨hw,fun σ' g=>zabr rfl (fun v s w=>fun ⟨h1,h2,h3⟩=>⟨h _ _ h1,h2,h3⟩) (k σ' g)⟩
       · exact .inr ⟨hw,fun σ' g=>h _ _ (k σ' g)⟩
theorem zaez {c:Nat} {o:Oper} {a:Act} {σ:SitD} (hU:OkS S σ) {K:Act->SitD->Prop} (h:stepC P ty Post main fn ops S c o K a σ):∃v σ',K (a.put o.dst v) σ'/\OkS S σ':=by
 unfold stepC at h
 split at h
 · obtain ⟨v,_,k⟩:=h;exact ⟨v,σ,k σ (.refl _),hU⟩
 · split at h
   · obtain ⟨v,_,k⟩:=h;exact ⟨v,σ,k σ (.refl _),hU⟩
   · split at h
     · rcases h with ⟨hw,n,X,y,k⟩ | ⟨hw,k⟩
       · have g:=GrC.new' σ X hU.lt
         exact ⟨_,_,k _ σ.w.heap.size g (.inr rfl) (zaf0 σ.w X),(hU.gr g).less⟩
       · exact ⟨undef,σ,k σ (.refl _),hU⟩
     · rcases h with ⟨hw,k⟩ | ⟨hw,k⟩
       · obtain ⟨v,s',w',h1,h2,h3⟩:=zajy (k σ (.refl _))
         exact ⟨v,_,h1,h3⟩
       · exact ⟨undef,σ,k σ (.refl _),hU⟩
theorem zahe {c:Nat} {o:Oper} {a:Act} {σ:SitD} (hU:OkS S σ) {K:Act->SitD->Prop} (k:stepC P ty Post main fn ops S c o K a σ):stepC P ty Post main fn ops S c o (fun a' σ'=>OkS S σ'/\K a' σ') a σ:=by
 unfold stepC at k ⊢
 split
 · rename_i h0;rw [if_pos h0] at k;obtain ⟨u,yu,k⟩:=k;exact ⟨u,yu,fun σ' g=>⟨hU.gr g,k σ' g⟩⟩
 · rename_i h0;rw [if_neg h0] at k
   split
   · rename_i h1;rw [if_pos h1] at k;obtain ⟨u,yu,k⟩:=k;exact ⟨u,yu,fun σ' g=>⟨hU.gr g,k σ' g⟩⟩
   · rename_i h1;rw [if_neg h1] at k
     split
     · rename_i h3;rw [if_pos h3] at k
       rcases k with ⟨hw,n,X,yu,k⟩ | ⟨hw,k⟩
       · exact .inl ⟨hw,n,X,yu,fun σ' B g hu hx=>⟨(hU.gr g).less,k σ' B g hu hx⟩⟩
       · exact .inr ⟨hw,fun σ' g=>⟨hU.gr g,k σ' g⟩⟩
     · rename_i h3;rw [if_neg h3] at k
       rcases k with ⟨hw,k⟩ | ⟨hw,k⟩
       · exact .inl ⟨hw,fun σ' g=>zabr rfl (fun v s w=>fun ⟨h1,h2,h3⟩=>⟨⟨h3,h1⟩,h2,h3⟩) (k σ' g)⟩
       · exact .inr ⟨hw,fun σ' g=>⟨hU.gr g,k σ' g⟩⟩
end
end Go.Co
namespace Go.Co
open Go Go.Conc Go.AI Go.RowKit
section
variable {P:Program} {ty:TypeId} {Post:Value->World->Prop} {main:Bool} {fn:FuncId} {ops:Array Oper} {md:Region.Mode} {S:AdmC}
variable (P ty Post main fn ops md) in
def anyC (S:AdmC) (cls:Nat->Nat) (Q:Act->SitD->Prop):Nat->Array Bool->Act->SitD->Prop
 | 0,listed,a,σ=>Region.ready md ops listed=[]/\Q a σ
 | fuel+1,listed,a,σ=>
  (Region.ready md ops listed=[]->Q a σ)/\∀i∈Region.ready md ops listed,∀o,ops[i]?=some o->stepC P ty Post main fn ops S (cls i) o (anyC S cls Q fuel (listed.setIfInBounds i true)) a σ
variable (cls:Nat->Nat) {Q:Act->SitD->Prop}
theorem zaua (hQ:∀a σ σ',Q a σ->GrC σ σ'->Q a σ') {fuel:Nat} {listed:Array Bool} {a:Act} {σ σ':SitD} (g:GrC σ σ') (h:anyC P ty Post main fn ops md S cls Q fuel listed a σ):anyC P ty Post main fn ops md S cls Q fuel listed a σ':=by
 cases fuel with
 | zero=>exact ⟨h.1,hQ _ _ _ h.2 g⟩
 | succ fuel=>exact ⟨fun e=>hQ _ _ _ (h.1 e) g,fun i hi o ho=>zakp g (h.2 i hi o ho)⟩
theorem Own1.made {s:LG} {w:World} {X:Obj} {es:Array Event} (hlt:∀b,s.own b\/s.ro b->b<w.heap.size) (hb:Busy s) (he:∀e∈es,okEv (fun _=>False) (fun _=>False) w.heap.size (w.heap.size+1) e) :
 Own1 ty s w (s.plus w.heap.size (w.heap.size+1)) (w.alloc X) es where
 tape:=rfl
 os:=rfl
 output:=rfl
 size:=by simp
 frame:=fun b hb _=>Below.heap_alloc w X b hb
 own:=fun b hb=>by
  have hs:(w.alloc X).heap.size=w.heap.size+1:=by simp
  rw [hs];exact hb
 ro:=fun b hb=>.inl hb
 apart:=fun h1 h2 b hb hr=>hb.elim (fun hb=>h1 b hb hr) (fun hb=>by have:=h2 b (.inr hr);omega)
 kid:=rfl
 fk:=.inl rfl
 ev:=fun e h1=>by
  have h2:=he e h1
  have hs:(w.alloc X).heap.size=w.heap.size+1:=by simp
  rw [hs]
  unfold okEv at h2
  unfold EvG
  cases hl:e.loc with
  | cell a=>rw [hl] at h2;exact ⟨h2.1,.inl (.inr (by rcases h2.2 with h3 | h3 | ⟨h3,_⟩;exact h3.elim;exact h3;exact h3.elim))⟩
  | obj r=>rw [hl] at h2;exact ⟨h2.1,.inl (.inr (by rcases h2.2 with h3 | h3 | ⟨h3,_⟩;exact h3.elim;exact h3;exact h3.elim))⟩
  | mark m=>rw [hl] at h2;have h2:Neutral m:=h2;unfold Neutral at h2;subst h2;rfl
  | output=>trivial
  | goroutines=>trivial
 mute:=fun k hk h2=>by have:=hb k hk;omega
theorem zaih {rest:List Nat} {Q':Out} {i:Nat} {o:Oper} {a:Act} {s:LG} {w:World} (ho:ops[i]?=some o) (hw:Region.wanted o (yielded ops a.tmps)=true)
 (h:∀w₁,Rely ty s w w₁->goodC P ty Post main fn o a s w₁ (fun a' s' w'=>CoO P ty Post main fn ops rest Q' a' s' w')):CoO P ty Post main fn ops (i::rest) Q' a s w:=co_op ho hw fun w₁ r=>zafn (h w₁ r)
theorem zamh (hQ:∀a σ σ',Q a σ->GrC σ σ'->Q a σ') {Q':Out} (hQ':∀a σ,OkS S σ->Q a σ->Q' .normal a σ.s σ.w):∀(fuel t:Nat) (listed:Array Bool) (a:Act) (σ:SitD),OkS S σ->anyC P ty Post main fn ops md S cls Q fuel listed a σ->
 CoO P ty Post main fn ops (Region.linearise.go md ops fuel t listed []) Q' a σ.s σ.w:=by
 intro fuel
 induction fuel with
 | zero=>intro t listed a σ hU h;simpa [Region.linearise.go] using co_nil (hQ' _ _ hU h.2)
 | succ fuel ih=>
  intro t listed a σ hU h
  obtain ⟨h₀,h₁⟩:=h
  simp only [Region.linearise.go]
  change CoO P ty Post main fn ops (match (Region.ready md ops listed)[t % (Region.ready md ops listed).length]? with
   | some i=>Region.linearise.go md ops fuel (t / (Region.ready md ops listed).length) (listed.setIfInBounds i true) [i]
   | none=>[].reverse) Q' a σ.s σ.w
  cases hi:(Region.ready md ops listed)[t % (Region.ready md ops listed).length]? with
  | none=>
   have hnil:Region.ready md ops listed=[]:=by
    cases hr:Region.ready md ops listed with
    | nil=>rfl
    | cons x xs=>
     rw [hr] at hi
     have hlt:t % (x::xs).length<(x::xs).length:=Nat.mod_lt _ (by simp)
     simp at hi
     simp at hlt
     omega
   simpa using co_nil (hQ' _ _ hU (h₀ hnil))
  | some i=>
   simp only []
   rw [linearise_go_acc,List.reverse_singleton,List.singleton_append]
   have him:=List.mem_of_getElem? hi
   obtain ⟨_,o,ho,_⟩:=mem_ready.1 him
   have hs:=h₁ i him o ho
   have ih':=fun t=>ih t (listed.setIfInBounds i true)
   generalize t / (Region.ready md ops listed).length=t'
   unfold stepC at hs
   split at hs
   · obtain ⟨v,y,k⟩:=hs
     rcases y with ⟨hw,y⟩ | ⟨hw,rfl⟩
     · refine zaih ho hw fun w₁ r=>?_
       have g:=GrC.rely σ.U r
       have hU1:=hU.gr g
       obtain ⟨h1,h2⟩:=y w₁ σ.s hU1.S hU1.busy
       unfold goodC
       rw [h1]
       exact ⟨σ.s,Own1.reads h2 w₁,ih' t' _ _ hU1 (k _ g)⟩
     · exact zac5 ho hw (ih' t' _ _ hU (k _ (.refl _)))
   · split at hs
     · obtain ⟨v,y,k⟩:=hs
       rcases y with ⟨hw,y⟩ | ⟨hw,rfl⟩
       · refine zaih ho hw fun w₁ r=>?_
         have g:=GrC.rely σ.U r
         have hU1:=hU.gr g
         have y:=y _ g
         unfold quietC at y
         unfold goodC
         generalize (execOp a.eval o).run P w₁=res at y
         cases res with
         | ok n w'=>
          cases n <;> simp only [quietU] at y <;> simp only [goodU]
          · obtain ⟨rfl,rfl,h2⟩:=y
            exact ⟨σ.s,Own1.reads h2 w',ih' t' _ _ hU1 (k _ g)⟩
          · obtain ⟨rfl,rfl,h2⟩:=y
            exact ⟨σ.s,Own1.reads h2 w',ih' t' _ _ hU1 (k _ g)⟩
          · obtain ⟨rfl,h2,h3⟩:=y
            refine ⟨σ.s,Own1.reads h2 w',h3.mono fun u s2 w2 ⟨hu,U,g2⟩=>?_,v,σ.s,w',ih' t' _ _ hU1 (k _ g)⟩
            subst hu
            exact ih' t' _ ⟨w2,U,s2⟩ (hU1.gr g2) (k _ (g.trans g2))
         | halt x w'=>simp only [quietU] at y
       · exact zac5 ho hw (ih' t' _ _ hU (k _ (.refl _)))
     · split at hs
       · rcases hs with ⟨hw,n,X,y,k⟩ | ⟨hw,k⟩
         · refine zaih ho hw fun w₁ r=>?_
           have g:=GrC.rely σ.U r
           have hU1:=hU.gr g
           obtain ⟨h1,h2⟩:=y w₁
           unfold goodC
           rw [h1]
           have g2:=GrC.new' ⟨w₁,σ.U,σ.s⟩ X hU1.lt
           have hn:=(hU1.gr g2).less (B:=w₁.heap.size)
           have:=k _ w₁.heap.size (g.trans g2) (.inr rfl) (zaf0 w₁ X)
           exact ⟨_,Own1.made hU1.lt hU1.busy h2,ih' t' _ _ hn this⟩
         · exact zac5 ho hw (ih' t' _ _ hU (k _ (.refl _)))
       · rcases hs with ⟨hw,k⟩ | ⟨hw,k⟩
         · refine zaih ho hw fun w₁ r=>?_
           have g:=GrC.rely σ.U r
           exact zabr rfl (fun v s' w' ⟨h1,h2,h3⟩=>ih' t' _ ⟨w',σ.U,s'⟩ h3 h1) (k _ g)
         · exact zac5 ho hw (ih' t' _ _ hU (k _ (.refl _)))
theorem zag0 {o:Oper} (hs:∀cs b,o.op≠.select cs b) {a:Act} {d:Option Tmp} {u:Value} (h:∀t,d=some t->t ∉ o.looksAt ops) (w:World):listed P fn (a.put d u) o w=listed P fn a o w:=by
 unfold listed;rw [execOp_put o hs a d u h]
theorem zalu {o:Oper} (hs:∀cs b,o.op≠.select cs b) {a:Act} {d:Option Tmp} {u v:Value} (h:∀t,d=some t->t ∉ o.looksAt ops):yPC S P fn ops o v (a.put d u)↔yPC S P fn ops o v a:=by
 unfold yPC;simp only [execOp_put o hs a d u h,wanted_put o a d u h,zag0 hs h]
theorem zahi {o:Oper} (hs:∀cs b,o.op≠.select cs b) {a:Act} {d:Option Tmp} {u v:Value} {σ:SitD} (h:∀t,d=some t->t ∉ o.looksAt ops):yRC P ty Post main fn ops o v (a.put d u) σ↔yRC P ty Post main fn ops o v a σ:=by
 have e:∀σ',quietC P ty Post main fn o (a.put d u) σ' v↔quietC P ty Post main fn o a σ' v:=fun σ'=>by
  unfold quietC
  rw [execOp_put o hs a d u h]
  generalize (execOp a.eval o).run P σ'.w=r
  cases r with
  | ok n w'=>cases n <;> simp only [quietU,zag0 hs h]
  | halt x w'=>simp only [quietU]
 unfold yRC;rw [wanted_put o a d u h]
 simp only [e]
theorem zaha {o:Oper} (hs:∀cs b,o.op≠.select cs b) {a:Act} {d:Option Tmp} {u:Value} {n:Nat} {X:Obj} (h:∀t,d=some t->t ∉ o.looksAt ops):yAC P fn o n X (a.put d u)↔yAC P fn o n X a:=by
 unfold yAC;simp only [execOp_put o hs a d u h,zag0 hs h]
theorem zata {o:Oper} {u v:Value} {a:Act} {σ:SitD} (hU:OkS S σ) (h1:yPC S P fn ops o u a) (h2:yPC S P fn ops o v a):u=v:=by
 rcases h1 with ⟨w1,e1⟩ | ⟨w1,rfl⟩ <;> rcases h2 with ⟨w2,e2⟩ | ⟨w2,rfl⟩
 · have:=(e1 σ.w σ.s hU.S hU.busy).1.symm.trans (e2 σ.w σ.s hU.S hU.busy).1;cases this;rfl
 · rw [w1] at w2;cases w2
 · rw [w1] at w2;cases w2
 · rfl
theorem zat9 {o:Oper} {n m:Nat} {X Y:Obj} {a:Act} (h1:yAC P fn o n X a) (h2:yAC P fn o m Y a):n=m/\X=Y:=by
 have e:=(h1 default).1.symm.trans (h2 default).1
 simp only [Result.ok.injEq,Next.value.injEq,mkA,Value.slice.injEq] at e
 refine ⟨e.1.2.1,?_⟩
 have hx:=zaf0 (default:World) X
 rw [e.2,zaf0] at hx
 exact (Option.some.inj hx).symm
theorem zaps {c:Nat} {o:Oper} (hs:∀cs b,o.op≠.select cs b) {a:Act} {d:Option Tmp} {u:Value} {σ:SitD} {K K':Act->SitD->Prop} (h:∀t,d=some t->t ∉ o.looksAt ops)
 (hk:∀v σ',K ((a.put d u).put o.dst v) σ'->K' (a.put o.dst v) σ') (hh:stepC P ty Post main fn ops S c o K (a.put d u) σ):stepC P ty Post main fn ops S c o K' a σ:=by
 unfold stepC at *
 rw [wanted_put o a d u h] at hh
 split
 · rename_i h0;rw [if_pos h0] at hh;obtain ⟨v,y,k⟩:=hh;exact ⟨v,(zalu hs h).1 y,fun σ' g=>hk _ _ (k σ' g)⟩
 · rename_i h0;rw [if_neg h0] at hh
   split
   · rename_i h1;rw [if_pos h1] at hh;obtain ⟨v,y,k⟩:=hh;exact ⟨v,(zahi hs h).1 y,fun σ' g=>hk _ _ (k σ' g)⟩
   · rename_i h1;rw [if_neg h1] at hh
     split
     · rename_i h3;rw [if_pos h3] at hh
       rcases hh with ⟨hw,n,X,y,k⟩ | ⟨hw,k⟩
       · exact .inl ⟨hw,n,X,(zaha hs h).1 y,fun σ' B g hu hx=>hk _ _ (k σ' B g hu hx)⟩
       · exact .inr ⟨hw,fun σ' g=>hk _ _ (k σ' g)⟩
     · rename_i h3;rw [if_neg h3] at hh
       rcases hh with ⟨hw,k⟩ | ⟨hw,k⟩
       · exact .inl ⟨hw,fun σ' g=>zabr (execOp_put o hs a d u h).symm (fun v s w=>fun ⟨h1,h2,h3⟩=>⟨hk _ _ h1,h2,h3⟩) (k σ' g)⟩
       · exact .inr ⟨hw,fun σ' g=>hk _ _ (k σ' g)⟩
end
end Go.Co
namespace Go.Co
open Go Go.Conc Go.AI Go.RowKit
section
variable {P:Program} {ty:TypeId} {Post:Value->World->Prop} {main:Bool} {fn:FuncId} {ops:Array Oper} {md:Region.Mode} {S:AdmC}
variable (cls:Nat->Nat) {Q:Act->SitD->Prop}
theorem zanw (hQ:∀a σ σ',Q a σ->GrC σ σ'->Q a σ') {i:Nat} {oi:Oper} (hi:ops[i]?=some oi) (hsel:∀(j:Nat) (o:Oper) cs b,ops[j]?=some o->o.op≠.select cs b) :
 ∀(fuel:Nat) (listed:Array Bool) (a:Act) (σ:SitD),OkS S σ->
  Closed md ops listed->(∀j oj,ops[j]?=some oj->j≠i->listed.getD j true=false->reachB (masks md ops.toList []) j i=false->oi.apart ops oj=true/\freeC (cls i) (cls j))->
  i∈Region.ready md ops listed->(stepC P ty Post main fn ops S) (cls i) oi ((anyC P ty Post main fn ops md S cls Q) fuel (listed.setIfInBounds i true)) a σ->(anyC P ty Post main fn ops md S cls Q) (fuel+1) listed a σ:=by
 intro fuel
 induction fuel with
 | zero=>
  intro listed a σ hU _ _ hr H
  refine ⟨fun h=>(by rw [h] at hr;cases hr),fun j hj o ho=>?_⟩
  by_cases hji:j=i
  · subst hji;rw [hi] at ho;cases ho;exact H
  · have:=ready_mono hj hji
    obtain ⟨v,σ',k,_⟩:=zaez hU H
    rw [k.1] at this;cases this
 | succ fuel ih=>
  intro listed a σ hU hcl hfree hr H
  refine ⟨fun h=>(by rw [h] at hr;cases hr),fun j hj o ho=>?_⟩
  by_cases hji:j=i
  · subst hji;rw [hi] at ho;cases ho;exact H
  obtain ⟨hjun,oj,hoj,hall⟩:=mem_ready.1 hj
  rw [ho] at hoj;cases hoj
  have hnot:reachB (masks md ops.toList []) j i=false:=by
   cases hq:reachB (masks md ops.toList []) j i with
   | false=>rfl
   | true=>
    have h1:=(zaii (md:=md) (ops:=ops) ops.toList [] (fun q=>by simp) (fun k i h=>by simp at h) j i hq).2 listed hcl o ho hall
    have h0:=(mem_ready.1 hr).1
    rcases Nat.lt_or_ge i listed.size with h' | h'
    · simp [h'] at h0 h1;rw [h0] at h1;cases h1
    · simp [Array.getElem?_eq_none h'] at h1
  have hcl':=hcl.set hj
  obtain ⟨hap,hcls⟩:=hfree j o ho hji hjun hnot
  obtain ⟨h1,h2,h3⟩:=Oper.apart_spec hap
  have hrj:=ready_mono hj hji
  have hri:i∈Region.ready md ops (listed.setIfInBounds j true):=ready_mono hr (Ne.symm hji)
  have hso:=fun cs b=>hsel j o cs b ho
  have hsi:=fun cs b=>hsel i oi cs b hi
  have hfree':∀k ok,ops[k]?=some ok->k≠i->(listed.setIfInBounds j true).getD k true=false->
   reachB (masks md ops.toList []) k i=false->oi.apart ops ok=true/\freeC (cls i) (cls k):=by
   intro k ok hk hki hun hno
   refine hfree k ok hk hki ?_ hno
   by_cases hjk:j=k
   · subst hjk;exact hjun
   · rw [getD_set_ne true hjk] at hun;exact hun
  have hcomm:(listed.setIfInBounds i true).setIfInBounds j true=(listed.setIfInBounds j true).setIfInBounds i true:=Array.setIfInBounds_comm _ _ (Ne.symm hji)
  have comm:∀u v,((a.put oi.dst v).put o.dst u)=((a.put o.dst u).put oi.dst v):=fun u v=>Act.put_comm a v u h2
  have wj:∀v,Region.wanted o (yielded ops (a.put oi.dst v).tmps)=Region.wanted o (yielded ops a.tmps):=fun v=>wanted_put o a oi.dst v h1
  have wi:∀u,Region.wanted oi (yielded ops (a.put o.dst u).tmps)=Region.wanted oi (yielded ops a.tmps):=fun u=>wanted_put oi a o.dst u h3
  have J:∀{a1:Act} {σ1:SitD},(anyC P ty Post main fn ops md S cls Q) (fuel+1) (listed.setIfInBounds i true) a1 σ1->(stepC P ty Post main fn ops S) (cls j) o ((anyC P ty Post main fn ops md S cls Q) fuel ((listed.setIfInBounds j true).setIfInBounds i true)) a1 σ1:=fun {a1 σ1} hK=>by
   have:=hK.2 j hrj o ho
   rw [hcomm] at this;exact this
  by_cases hi0:cls i=0
  · rw [hi0] at H
    unfold stepC at H
    rw [if_pos rfl] at H
    obtain ⟨v,y,k⟩:=H
    have bound:=zahe hU (J (k σ (.refl _)))
    refine zaps hso h1 (fun u σ' hK=>?_) bound
    refine ih (listed.setIfInBounds j true) (a.put o.dst u) σ' hK.1 hcl' hfree' hri ?_
    rw [hi0]
    unfold stepC
    rw [if_pos rfl]
    refine ⟨v,(zalu hsi h3).2 y,fun σ'' g=>?_⟩
    rw [<- comm];exact zaua cls hQ g hK.2
  by_cases hj0:cls j=0
  · -- j only computes
    obtain ⟨v0,σ0,k0,_⟩:=zaez hU H
    have k0:=J k0
    rw [hj0] at k0 ⊢
    unfold stepC at k0
    rw [if_pos rfl] at k0
    obtain ⟨u,yu,_⟩:=k0
    have yu:=(zalu hso h1).1 yu
    have use:∀{v:Value} {σ1:SitD},(anyC P ty Post main fn ops md S cls Q) (fuel+1) (listed.setIfInBounds i true) (a.put oi.dst v) σ1->(anyC P ty Post main fn ops md S cls Q) fuel ((listed.setIfInBounds j true).setIfInBounds i true) ((a.put o.dst u).put oi.dst v) σ1:=fun {v σ1} hK=>by
     have k1:=J hK
     rw [hj0] at k1
     unfold stepC at k1
     rw [if_pos rfl] at k1
     obtain ⟨u1,yu1,k2⟩:=k1
     obtain rfl:=zata hU yu ((zalu hso h1).1 yu1)
     rw [<- comm];exact k2 σ1 (.refl _)
    have goal:(stepC P ty Post main fn ops S) (cls i) oi ((anyC P ty Post main fn ops md S cls Q) fuel ((listed.setIfInBounds j true).setIfInBounds i true)) (a.put o.dst u) σ:=by
     unfold stepC at H ⊢
     rw [wi u]
     rw [if_neg hi0] at H ⊢
     split
     · rename_i hc;rw [if_pos hc] at H;obtain ⟨v,y,k⟩:=H;exact ⟨v,(zahi hsi h3).2 y,fun σ' hg=>use (k σ' hg)⟩
     · rename_i hc;rw [if_neg hc] at H
       split
       · rename_i hc3;rw [if_pos hc3] at H
         rcases H with ⟨hw,n,X,y,k⟩ | ⟨hw,k⟩
         · exact .inl ⟨hw,n,X,(zaha hsi h3).2 y,fun σ' B hg hu hx=>use (k σ' B hg hu hx)⟩
         · exact .inr ⟨hw,fun σ' hg=>use (k σ' hg)⟩
       · rename_i hc3;rw [if_neg hc3] at H
         rcases H with ⟨hw,k⟩ | ⟨hw,k⟩
         · exact .inl ⟨hw,fun σ' hg=>zabr (execOp_put oi hsi a o.dst u h3) (fun v s w=>fun ⟨h1,h2,h3⟩=>⟨use h1,h2,h3⟩) (k σ' hg)⟩
         · exact .inr ⟨hw,fun σ' hg=>use (k σ' hg)⟩
    unfold stepC
    rw [if_pos rfl]
    exact ⟨u,yu,fun σ' g=>ih (listed.setIfInBounds j true) (a.put o.dst u) σ' (hU.gr g) hcl' hfree' hri (zakp g goal)⟩
  by_cases hj3:cls j=3
  · -- j makes a row
    obtain ⟨v0,σ0,k0,hU0⟩:=zaez hU H
    have k0:=J k0
    rw [hj3] at k0 ⊢
    unfold stepC at k0
    rw [if_neg (by omega),if_neg (by omega),if_pos rfl,wj] at k0
    unfold stepC
    rw [if_neg (by omega),if_neg (by omega),if_pos rfl]
    rcases k0 with ⟨hw,n,X,yj,_⟩ | ⟨hw,_⟩
    · have yj:=(zaha hso h1).1 yj
      refine .inl ⟨hw,n,X,yj,fun σ1 B hg1 hB hX=>?_⟩
      have hU1:=hU.gr hg1
      have hBown:=hU1.U B hB
      have hBlt:B<σ1.w.heap.size:=hU1.lt B (.inl hBown)
      have use:∀{v:Value} {σ3:SitD},σ3.U B->σ3.w.heap[B]?=some X->(anyC P ty Post main fn ops md S cls Q) (fuel+1) (listed.setIfInBounds i true) (a.put oi.dst v) σ3->
       (anyC P ty Post main fn ops md S cls Q) fuel ((listed.setIfInBounds j true).setIfInBounds i true) ((a.put o.dst (mkA n B)).put oi.dst v) ⟨σ3.w,less σ3.U B,σ3.s⟩:=fun {v σ3} hu hx hK=>by
       have k1:=J hK
       rw [hj3] at k1
       unfold stepC at k1
       rw [if_neg (by omega),if_neg (by omega),if_pos rfl,wj] at k1
       rcases k1 with ⟨_,n',X',y',k2⟩ | ⟨hw',_⟩
       · obtain ⟨rfl,rfl⟩:=zat9 yj ((zaha hso h1).1 y')
         rw [<- comm];exact k2 σ3 B (GrC.refl _) hu hx
       · rw [hw] at hw';cases hw'
      refine ih (listed.setIfInBounds j true) (a.put o.dst (mkA n B)) ⟨σ1.w,less σ1.U B,σ1.s⟩ hU1.less hcl' hfree' hri ?_
      have later:∀{σ3:SitD},GrC ⟨σ1.w,less σ1.U B,σ1.s⟩ σ3->GrC σ ⟨σ3.w,AI.plus σ3.U B,σ3.s⟩/\¬ σ3.U B/\σ3.w.heap[B]?=some X:=fun {σ3} hg=>by
       obtain ⟨g1,g2⟩:=zarr hB hBlt hg
       exact ⟨hg1.trans g1,g2,(hg.keep B (.inl hBown)).trans hX⟩
      have back:∀{σ3:SitD},¬ σ3.U B->(⟨σ3.w,less (AI.plus σ3.U B) B,σ3.s⟩:SitD)=σ3:=fun {σ3} hn=>by rw [zafy hn]
      unfold stepC at H ⊢
      rw [wi (mkA n B)]
      rw [if_neg hi0] at H ⊢
      split
      · rename_i hc;rw [if_pos hc] at H
        obtain ⟨v,y,k⟩:=H
        have y1:yRC P ty Post main fn ops oi v a ⟨σ1.w,less σ1.U B,σ1.s⟩:=by
         rcases y with ⟨y1,y2⟩ | y
         · refine .inl ⟨y1,fun σ3 hg=>?_⟩
           obtain ⟨l1,l2,l3⟩:=later hg
           have:=y2 _ l1
           unfold quietC at this ⊢
           have this:quietU P ty Post main fn oi a ⟨σ3.w,AI.plus σ3.U B,σ3.s⟩ v ((execOp a.eval oi).run P σ3.w):=this
           generalize (execOp a.eval oi).run P σ3.w=res at this ⊢
           cases res with
           | ok n' w'=>
            cases n' <;> simp only [quietU] at this ⊢
            · exact this
            · exact this
            · obtain ⟨q1,q2,q3⟩:=this
              refine ⟨q1,q2,q3.mono fun u s2 w2 ⟨hu,U2,g2⟩=>⟨hu,?_⟩⟩
              obtain ⟨N,n1,n2,n3⟩:=g2.new
              exact ⟨fun b=>σ3.U b\/N b,g2.os,g2.tape,g2.output,g2.size,g2.keep,N,n1,rfl,n3⟩
           | halt x w'=>simp only [quietU] at this
         · exact .inr y
        refine ⟨v,(zahi hsi h3).2 y1,fun σ3 hg=>?_⟩
        obtain ⟨l1,l2,l3⟩:=later hg
        have:=use (σ3:=⟨σ3.w,AI.plus σ3.U B,σ3.s⟩) (.inr rfl) l3 (k _ l1)
        exact back l2 ▸ this
      · rename_i hc;rw [if_neg hc] at H
        split
        · rename_i hc3;rw [if_pos hc3] at H
          rcases H with ⟨hwi,m,Y,y,k⟩ | ⟨hwi,k⟩
          · refine .inl ⟨hwi,m,Y,(zaha hsi h3).2 y,fun σ3 C hg hu hx=>?_⟩
            obtain ⟨l1,l2,l3⟩:=later hg
            have hCB:C≠B:=fun e=>l2 (e ▸ hu)
            have:=use (v:=mkA m C) (σ3:=⟨σ3.w,less (AI.plus σ3.U B) C,σ3.s⟩) ⟨.inr rfl,Ne.symm hCB⟩ l3 (k _ C l1 (.inl hu) hx)
            have e:less (less (AI.plus σ3.U B) C) B=less σ3.U C:=by rw [less_comm,zafy l2]
            have this:(anyC P ty Post main fn ops md S cls Q) fuel ((listed.setIfInBounds j true).setIfInBounds i true) ((a.put o.dst (mkA n B)).put oi.dst (mkA m C)) ⟨σ3.w,less (less (AI.plus σ3.U B) C) B,σ3.s⟩:=this
            rw [e] at this
            exact this
          · refine .inr ⟨hwi,fun σ3 hg=>?_⟩
            obtain ⟨l1,l2,l3⟩:=later hg
            have:=use (σ3:=⟨σ3.w,AI.plus σ3.U B,σ3.s⟩) (.inr rfl) l3 (k _ l1)
            exact back l2 ▸ this
        · rename_i hc3;rw [if_neg hc3] at H
          rcases H with ⟨hwi,k⟩ | ⟨hwi,k⟩
          · refine .inl ⟨hwi,fun σ3 hg=>?_⟩
            obtain ⟨l1,l2,l3⟩:=later hg
            have k:=k _ l1
            refine zabr (execOp_put oi hsi a o.dst (mkA n B) h3) (fun v s4 w4=>fun ⟨h1,h2,h3⟩=>?_) k
            have:=use (σ3:=⟨w4,AI.plus σ3.U B,s4⟩) (.inr rfl) ((h2 B (.inr rfl)).trans l3) h1
            have this:(anyC P ty Post main fn ops md S cls Q) fuel ((listed.setIfInBounds j true).setIfInBounds i true) ((a.put o.dst (mkA n B)).put oi.dst v) ⟨w4,less (AI.plus σ3.U B) B,s4⟩:=this
            rw [zafy l2] at this
            have hl:=h3.less (B:=B)
            have hl:OkS S ⟨w4,less (AI.plus σ3.U B) B,s4⟩:=hl
            rw [zafy l2] at hl
            exact ⟨this,fun C hC=>h2 C (.inl hC),hl⟩
          · refine .inr ⟨hwi,fun σ3 hg=>?_⟩
            obtain ⟨l1,l2,l3⟩:=later hg
            have:=use (σ3:=⟨σ3.w,AI.plus σ3.U B,σ3.s⟩) (.inr rfl) l3 (k _ l1)
            exact back l2 ▸ this
    · refine .inr ⟨hw,fun σ1 hg1=>?_⟩
      have use:∀{v:Value} {σ3:SitD},(anyC P ty Post main fn ops md S cls Q) (fuel+1) (listed.setIfInBounds i true) (a.put oi.dst v) σ3->(anyC P ty Post main fn ops md S cls Q) fuel ((listed.setIfInBounds j true).setIfInBounds i true) ((a.put o.dst undef).put oi.dst v) σ3:=fun {v σ3} hK=>by
       have k1:=J hK
       rw [hj3] at k1
       unfold stepC at k1
       rw [if_neg (by omega),if_neg (by omega),if_pos rfl,wj] at k1
       rcases k1 with ⟨hw',_⟩ | ⟨_,k2⟩
       · rw [hw] at hw';cases hw'
       · rw [<- comm];exact k2 σ3 (GrC.refl _)
      refine ih (listed.setIfInBounds j true) (a.put o.dst undef) σ1 (hU.gr hg1) hcl' hfree' hri ?_
      have H1:=zakp hg1 H
      unfold stepC at H1 ⊢
      rw [wi undef]
      rw [if_neg hi0] at H1 ⊢
      split
      · rename_i hc;rw [if_pos hc] at H1
        obtain ⟨v,y,k⟩:=H1
        exact ⟨v,(zahi hsi h3).2 y,fun σ3 hg=>use (k σ3 hg)⟩
      · rename_i hc;rw [if_neg hc] at H1
        split
        · rename_i hc3;rw [if_pos hc3] at H1
          rcases H1 with ⟨hwi,m,Y,y,k⟩ | ⟨hwi,k⟩
          · exact .inl ⟨hwi,m,Y,(zaha hsi h3).2 y,fun σ3 C hg hu hx=>use (k σ3 C hg hu hx)⟩
          · exact .inr ⟨hwi,fun σ3 hg=>use (k σ3 hg)⟩
        · rename_i hc3;rw [if_neg hc3] at H1
          rcases H1 with ⟨hwi,k⟩ | ⟨hwi,k⟩
          · exact .inl ⟨hwi,fun σ3 hg=>zabr (execOp_put oi hsi a o.dst undef h3) (fun v s w=>fun ⟨h1,h2⟩=>⟨use h1,h2⟩) (k σ3 hg)⟩
          · exact .inr ⟨hwi,fun σ3 hg=>use (k σ3 hg)⟩
  · -- both read
    have hi1:cls i=1:=by unfold freeC at hcls;omega
    have hj1:cls j=1:=by unfold freeC at hcls;omega
    rw [hi1] at H
    unfold stepC at H
    rw [if_neg (by omega),if_pos rfl] at H
    obtain ⟨v,y,k⟩:=H
    have k0:=J (k σ (GrC.refl _))
    rw [hj1] at k0 ⊢
    unfold stepC at k0 ⊢
    rw [if_neg (by omega),if_pos rfl] at k0 ⊢
    obtain ⟨u,yu,k1⟩:=k0
    refine ⟨u,(zahi hso h1).1 yu,fun σ1 hg1=>ih (listed.setIfInBounds j true) (a.put o.dst u) σ1 (hU.gr hg1) hcl' hfree' hri ?_⟩
    rw [hi1]
    unfold stepC
    rw [if_neg (by omega),if_pos rfl]
    refine ⟨v,(zahi hsi h3).2 (y.later hg1),fun σ2 hg2=>?_⟩
    rw [<- comm]
    exact k1 σ2 (hg1.trans hg2)
variable (P ty Post main fn ops) in
def wpXC (S:AdmC) (cls:Nat->Nat) (Q:Act->SitD->Prop):Nat->List Oper->Act->SitD->Prop
 | _,[],a,σ=>Q a σ
 | k,o::l,a,σ=>stepC P ty Post main fn ops S (cls k) o (fun a σ=>OkS S σ->wpXC S cls Q (k+1) l a σ) a σ
theorem zano (hQ:∀a σ σ',Q a σ->GrC σ σ'->Q a σ') (hs:Region.noSelect ops=true):∀(l:List Oper) (k:Nat) (listed:Array Bool) (a:Act) (σ:SitD),OkS S σ->Closed md ops listed->(∀j,l[j]?=ops[k+j]?)->
 lexFromX md (masks md ops.toList []) ops cls l.length k listed=true->wpXC P ty Post main fn ops S cls Q k l a σ->(anyC P ty Post main fn ops md S cls Q) l.length listed a σ
 | [],_,_,_,_,_,_,_,hB,h=>⟨by simpa [lexFromX] using hB,h⟩
 | o::l,k,listed,a,σ,hU,hcl,hl,hB,h=>by
  have h0:ops[k]?=some o:=by simpa using (hl 0).symm
  simp only [List.length_cons,lexFromX,Bool.and_eq_true] at hB
  obtain ⟨⟨hr,hf⟩,hB'⟩:=hB
  refine zanw cls hQ h0 (Region.noSelect_spec hs) l.length listed a σ hU hcl (zao2 cls h0 hf) (by simpa using hr) ?_
  exact zapm (fun v σ' ⟨hB2,hK⟩=>zano hQ hs l (k+1) _ _ _ hB2 (hcl.set (by simpa using hr)) (fun j=>by have:=hl (j+1);simpa [Nat.add_assoc,Nat.add_comm 1 j] using this) hB' (hK hB2)) (zahe hU h)
end
section
variable {P:Program} {ty:TypeId} {Post:Value->World->Prop} {main:Bool} {fn:FuncId} {ops:Array Oper} {S:AdmC} {cls:Nat->Nat}
theorem zamk {id:Nat} {Q':Out} {Q:Act->SitD->Prop} {a:Act} {s:LG} {w:World} (hm:P.follows .mixedOrders=true) (hB:lexX .any ops cls=true) (hQ:∀a σ σ',Q a σ->GrC σ σ'->Q a σ') (hQ':∀a σ,OkS S σ->Q a σ->Q' .normal a σ.s σ.w)
 (h:∀w₁,Rely ty s w w₁->OkS S ⟨w₁.drew,fun _=>False,s⟩/\wpXC P ty Post main fn ops S cls Q 0 ops.toList a ⟨w₁.drew,fun _=>False,s⟩):CoC P ty Post main fn (.region id ops true) Q' a s w:=by
 simp only [lexX,Bool.and_eq_true] at hB
 intro b k cs hb hk hc
 refine .mk rfl fun w₁ r=>?_
 obtain ⟨hS,hx⟩:=h w₁ r
 have h1:stepG P main (G (b.at a (.code (.region id ops true)::k)) cs) w₁ = .go (G (b.at a (.inRegion ops (Region.schedule (P.follows .mixedOrders) ops (w₁.tape w₁.drawn (.order b.fn id)))::k)) cs) w₁.drew #[]:=stepG_region_draw
 refine .own s _ w₁.drew #[] h1 { Own1.idle s w₁ with tape:=rfl,os:=rfl,output:=rfl,size:=Nat.le_refl _,frame:=fun _ _ _=>rfl } ?_
 have hany:=zano (md:=.any) cls hQ hB.1 ops.toList 0 (Array.replicate ops.size false) a _ hS (fun j oj _ hl=>by rcases Nat.lt_or_ge j ops.size with h | h <;> simp [h] at hl) (by simp) (by simpa using hB.2) hx
 rw [hm]
 have:=zamh (Post:=Post) (main:=main) (ty:=ty) (fn:=fn) cls hQ hQ' ops.toList.length (w₁.tape w₁.drawn (.order b.fn id)) (Array.replicate ops.size false) a ⟨w₁.drew,fun _=>False,s⟩ hS hany
 have e:Region.schedule true ops (w₁.tape w₁.drawn (.order b.fn id))=Region.linearise.go .any ops ops.toList.length (w₁.tape w₁.drawn (.order b.fn id)) (Array.replicate ops.size false) []:=by
  simp [Region.schedule,Region.linearise]
 rw [e]
 exact this b k cs hb hk hc
end
end Go.Co
namespace Go.Co
open Go Go.Conc Go.AI Go.RowKit
abbrev Fit (s:LG) (w:World):Prop:=OkS AdmC.all ⟨w,fun _=>False,s⟩
theorem Fit.of {S:AdmC} {σ:SitD} (h:OkS S σ):Fit σ.s σ.w:=⟨fun _ h=>h.elim,h.apart,h.lt,h.busy,trivial⟩
theorem Fit.rely {ty:TypeId} {s:LG} {w w₁:World} (h:Fit s w) (r:Rely ty s w w₁):Fit s w₁:=⟨fun _ h=>h.elim,h.apart,fun b hb=>Nat.lt_of_lt_of_le (h.lt b hb) r.size,h.busy,trivial⟩
theorem Fit.plus {s:LG} {w w':World} (h:Fit s w) (hs:w.heap.size<=w'.heap.size):Fit (s.plus w.heap.size w'.heap.size) w':=
 ⟨fun _ h=>h.elim,fun b hb hr=>hb.elim (fun hb=>h.apart b hb hr) (fun hb=>by have:=h.lt b (.inr hr);have:b<w.heap.size:=this;omega),
  fun b hb=>by
   rcases hb with (hb | hb) | hb
   · exact Nat.lt_of_lt_of_le (h.lt b (.inl hb)) hs
   · exact hb.2
   · exact Nat.lt_of_lt_of_le (h.lt b (.inr hb)) hs,h.busy,trivial⟩
def PostC (q:Bool) (ι:Inj) (h:H) (s:LG) (w:World) (r:R) (v:Value) (s':LG) (w':World):Prop:=∃ι',VR ι' r.1 v/\ExtC q ι h s w ι' r.2 s' w'/\Rel ι' r.2 w'/\Cov ι' r.2 s'/\Fit s' w'
section
variable (P:Program) (ty:TypeId) (Post:Value->World->Prop) (main:Bool) (fk0:Option Fk×Bool)
structure CoTri (f:FuncId) (args:List AV) (h:H) (r:R):Prop where
 can:Callable P f
 run:∀ι w vs s,Rel ι h w->Cov ι h s->VL ι args vs->Fit s w->s.fk=fk0.1->CoF P ty Post main f vs.toArray (PostC fk0.2 ι h s w r) s w/\∃v s' w',PostC fk0.2 ι h s w r v s' w'
def CoSound (Γ:Env):Prop:=∀f args h r,Γ f args h=some r->CoTri P ty Post main fk0 f args h r
end
section
variable {P:Program} {ty:TypeId} {Post:Value->World->Prop} {main:Bool} {fk0:Option Fk×Bool} {fn:FuncId} {Γ:Env} {ι:Inj} {h:H} {s:LG} {w:World} {o:Oper} {a:Act} {N:Nat} {st:St} {k:AV->H->Option R} {r:R}
theorem LG.plus_self (s:LG) (B:Nat):s.plus B B=s:=by
 unfold LG.plus
 have:(fun b=>s.own b\/(B<=b/\b<B))=s.own:=by funext b;apply propext;constructor;rintro (h | h);exact h;omega;exact .inl
 rw [this]
theorem zac3 {n:Next} {A W:NB} (hf:Cf P A W (execOp a.eval o)) (ht:Tame A w) (hWA:∀r,W r->A r) (hr:(execOp a.eval o).run P w = .ok n w) (hb:Busy s) (hA:∀B,A B->s.own B\/s.ro B) (hW:∀B,W B->s.own B):Reads s (listed P fn a o w):=by
 refine ⟨fun e he=>?_,fun k hk h2=>by have:=hb k hk;omega⟩
 have h1:=mem_listed he
 unfold Sem.events at h1
 have h2:=Sem.runT_fst P (execOp a.eval o) w #[]
 rw [hr] at h2
 have h3:=zac9 (es:= #[]) (es':=((execOp a.eval o).runT P w #[]).2) hf ht hWA (v:=n) (w':=w) (by rw [<- h2])
 have h4:=(h3.2 e h1).resolve_left (by simp)
 unfold okEv at h4
 unfold EvG
 cases hl:e.loc with
 | cell c=>
  rw [hl] at h4
  refine ⟨h4.1,?_⟩
  rcases h4.2 with h5 | h5 | ⟨h5,h6⟩
  · exact .inl (hW _ h5)
  · omega
  · exact (hA _ h5).imp id fun x=>⟨x,h6⟩
 | obj c=>
  rw [hl] at h4
  refine ⟨h4.1,?_⟩
  rcases h4.2 with h5 | h5 | ⟨h5,h6⟩
  · exact .inl (hW _ h5)
  · omega
  · exact (hA _ h5).imp id fun x=>⟨x,h6⟩
 | mark m=>rw [hl] at h4;have h4:Neutral m:=h4;unfold Neutral at h4;subst h4;rfl
 | output=>trivial
 | goroutines=>trivial
theorem zab6 {n:Next} (hf:Bare P (execOp a.eval o)) (hr:(execOp a.eval o).run P w = .ok n w) (hb:Busy s):Reads s (listed P fn a o w):=
 zac3 (A:=fun _=>False) (W:=fun _=>False) (hf fun _=>trivial) (fun r h=>h.elim) (fun r h=>h.elim) hr hb (fun _ h=>h.elim) (fun _ h=>h.elim)
theorem zahz (c:Cov ι h s):∀B,known ι h B->s.own B\/s.ro B:=fun B ⟨b,o,z,e,_⟩=>c.all b B o z e
def isB (o:Oper):Prop:=∀c,o.op = .call c->∃b,c.callee = .builtin b
theorem zale (hB:isB o) (Γ':Env):dOp P Γ o st h k=dOp P Γ' o st h k:=by
 unfold dOp
 split <;> first | rfl | skip
 rename_i c ho
 obtain ⟨b,hb⟩:=hB c ho
 rw [hb]
 cases b <;> rfl
theorem noEnterB (hB:isB o) (e:dOp P Γ o st h k=some r):NoEnter P (execOp a.eval o):=by
 by_cases hc:∃c,o.op = .call c
 · obtain ⟨c,ho⟩:=hc
   obtain ⟨b,hb⟩:=hB c ho
   have done:∀{x:Sem Value},execOp a.eval o=(x >>= fun v=>Pure.pure (Next.value v))->NoEnter P (execOp a.eval o):=fun {x} e=>by rw [e];exact NoEnter.bind fun _=>NoEnter.value _
   unfold dOp at e
   rw [ho] at e
   dsimp only at e
   rw [hb] at e
   cases b <;> first
    | (cases e;done)
    | exact done (zaol ho hb)
    | exact done (zaa9 ho hb)
    | exact done (zaor ho hb)
    | exact done (zan8 ho hb)
    | exact done (zao7 ho hb)
    | exact done (zaiv ho hb)
    | exact done (zaje ho hb)
 · exact noEnter fun c ho=>hc ⟨c,ho⟩
abbrev After (q:Bool) (ι:Inj) (h:H) (s:LG) (w:World) (o:Oper) (a:Act) (k:AV->H->Option R) (r:R):Act->LG->World->Prop:=
 fun a' s' w'=>∃x v ι' h',a'=a.put o.dst v/\ExtC q ι h s w ι' h' s' w'/\Rel ι' h' w'/\Cov ι' h' s'/\Fit s' w'/\VR ι' x v/\k x h'=some r
theorem zaqu {q:Bool} (hB:isB o) (hR:Rel ι h w) (hC:Cov ι h s) (hF:Fit s w) (hS:StR ι N st a) (e:dOp P Γ o st h k=some r):goodC P ty Post main fn o a s w (After q ι h s w o a k r):=by
 have hf:=zam4 hR hS hB e
 have hne:=noEnterB (a:=a) hB e
 rw [zale hB (fun _ _ _=>none)] at e
 have g:=zalc (Sound.none P) hR hS e (fun a' w'=>∃x v ι' h',Ext ι h w ι' h' w'/\Rel ι' h' w'/\VR ι' x v/\k x h'=some r/\a'=a.put o.dst v) (fun x v w' ι' h' hE hR hV hk=>⟨x,v,ι',h',hE,hR,hV,hk,rfl⟩)
 have evs:∀{n w'},(execOp a.eval o).run P w = .ok n w'->∀e∈listed P fn a o w,okEv (known ι h) (Own ι h) w.heap.size w'.heap.size e:=fun {n w'} e x hx=>by
  have h1:=mem_listed hx
  unfold Sem.events at h1
  have h2:=Sem.runT_fst P (execOp a.eval o) w #[]
  rw [e] at h2
  have h3:=zac9 (es:= #[]) (es':=((execOp a.eval o).runT P w #[]).2) hf (zagz hR) (fun _=>zaed) (v:=n) (w':=w') (by rw [<- h2])
  exact (h3.2 x h1).resolve_left (by simp)
 have fin:∀{w':World},(∀e∈listed P fn a o w,okEv (known ι h) (Own ι h) w.heap.size w'.heap.size e)->∀{a':Act},(∃x v ι' h',Ext ι h w ι' h' w'/\Rel ι' h' w'/\VR ι' x v/\k x h'=some r/\a'=a.put o.dst v)->∃s',Own1 ty s w s' w' (listed P fn a o w)/\After q ι h s w o a k r a' s' w':=fun {w'} hev {a'} ⟨x,v',ι',h',hE,hR',hV,hk,hput⟩=>
  ⟨_,zamu hC hE hF.busy hev,x,v',ι',h',hput,ExtC.step hE hF.apart hC,hR',zapg hC hE hR',hF.plus hE.size,hV,hk⟩
 unfold good at g
 unfold goodC
 generalize hrun:(execOp a.eval o).run P w=res at g
 cases res with
 | ok n w'=>
  cases n <;> simp only [goodUpon] at g <;> simp only [goodU]
  · exact fin (evs hrun) g
  · exact fin (evs hrun) g
  · exact absurd hrun (hne _ _ _ _)
 | halt x w'=>simp only [goodUpon] at g
theorem zacn {g:FuncId} {fn':Func} {args:Array Value} (hfn:P.funcs[g]?=some fn') (hname:(fn'.name == "runtime.NumGoroutine")=false) (hbody:fn'.body.isSome=true):Bare P (callFunc g args):=by
 intro A W K hk
 unfold callFunc
 refine zaaa.2 (zabz ?_)
 rw [hfn]
 dsimp only
 rw [hname,if_neg (by simp),if_neg (by cases hq:fn'.body <;> simp_all)]
 exact zaac.2 (hk _)
theorem zae0 {c:Call} {f:Operand} {g:FuncId} {fs cp:Array Value} (ho:o.op = .call c) (hc:c.callee = .value f) (ef:a.eval f = .func (.func g) fs cp):execOp a.eval o=callFunc g ((fs++c.args.map a.eval)++cp):=by
 unfold execOp;simp only [ho,resolve,hc,ef];rfl
theorem zanz {c:Call} {f:Operand} {ρA:Operand->AV} {K:Nat->List AV->Option R} (ho:o.op = .call c) (hc:c.callee = .value f) (hρ:∀x,VR ι (ρA x) (a.eval x))
 (e:((ρA f).onFunc none fun fn a' c'=>onFn fn none fun g=>withListA a' fun as=>withListA c' fun cs=>K g (appA as (appA (c.args.toList.map ρA) cs)))=some r) :
 ∃g as vs,K g as=some r/\VL ι as vs/\execOp a.eval o=callFunc g vs.toArray:=by
 have hfx:∃g x y,ρA f = .func (.func g) x y/\(withListA x fun as=>withListA y fun cs=>K g (appA as (appA (c.args.toList.map ρA) cs)))=some r:=by
  generalize ρA f=F at e
  cases F using AV.casesE <;> (try (cases e;done))
  rename_i fn x y
  cases fn <;> (try (cases e;done))
  exact ⟨_,_,_,rfl,e⟩
 obtain ⟨g,x,y,hf,e⟩:=hfx
 obtain ⟨as,has,e⟩:=zaal e
 obtain ⟨cs,hcs,e⟩:=zaal e
 have hfv:=hρ f
 rw [hf] at hfv
 obtain ⟨fs,cp,ef,hfs,hcp⟩:=hfv.func
 refine ⟨g,_,fs.toList++c.args.toList.map a.eval++cp.toList,e,?_,?_⟩
 · rw [zacq,zacq, <- List.append_assoc]
   exact ((zaa2 has hfs).append (VL.map_ev hρ _)).append (zaa2 hcs hcp)
 · rw [zae0 ho hc ef]
   congr 1
   apply Array.ext';simp
theorem zacz {g:FuncId} {args:Array Value} (hcan:Callable P g) (w:World):(callFunc g args).run P w = .ok (.enter g args) w:=by
 obtain ⟨fn',hfn,hbody,hname⟩:=hcan
 have hname':¬ fn'.name = "runtime.NumGoroutine" := by simpa using hname
 have hb':¬ fn'.body=none:=by intro hh;rw [hh] at hbody;cases hbody
 simp [callFunc,hfn,hname',hb']
theorem zaqa (hΓ:CoSound P ty Post main fk0 Γ) {c:Call} {f:Operand} (ho:o.op = .call c) (hc:c.callee = .value f) (hR:Rel ι h w) (hC:Cov ι h s) (hF:Fit s w) (hfk:s.fk=fk0.1) (hS:StR ι N st a) (e:dOp P Γ o st h k=some r):goodC P ty Post main fn o a s w (After fk0.2 ι h s w o a k r):=by
 unfold dOp at e
 rw [ho] at e
 dsimp only at e
 rw [hc] at e
 obtain ⟨g,as,vs,e1,hv,hx⟩:=zanz (K:=fun g as=>bindR (Γ g as h) k) ho hc hS.ev e
 obtain ⟨r1,hg,e1⟩:=zagl e1
 have T:=hΓ _ _ _ _ hg
 have hrun:=zacz (args:=vs.toArray) T.can w
 obtain ⟨fn',hfn,hbody,hname⟩:=id T.can
 have hbare:Bare P (execOp a.eval o):=by rw [hx];with_reducible exact zacn hfn hname hbody
 obtain ⟨t1,t2⟩:=T.run ι w vs s hR hC hv hF hfk
 have nx:∀v s' w',PostC fk0.2 ι h s w r1 v s' w'->After fk0.2 ι h s w o a k r (a.put o.dst v) s' w':=fun v s' w' ⟨ι',q1,q2,q3,q4,q5⟩=>⟨r1.1,v,ι',r1.2,rfl,q2,q3,q4,q5,q1,e1⟩
 have hrun':(execOp a.eval o).run P w = .ok (.enter g vs.toArray) w:=by rw [hx];exact hrun
 unfold goodC
 rw [hrun']
 refine ⟨s,Own1.reads (zab6 hbare hrun' hF.busy) w,t1.mono nx,?_⟩
 obtain ⟨v,s',w',q⟩:=t2
 exact ⟨v,s',w',nx _ _ _ q⟩
def plainOp (o:Oper):Bool:=match o.op with | .call c=>(match c.callee with | .invoke .. => false | _=>true) | _=>true
theorem zakz (hΓ:CoSound P ty Post main fk0 Γ) (hp:plainOp o=true) (hR:Rel ι h w) (hC:Cov ι h s) (hF:Fit s w) (hfk:s.fk=fk0.1) (hS:StR ι N st a) (e:dOp P Γ o st h k=some r):goodC P ty Post main fn o a s w (After fk0.2 ι h s w o a k r):=by
 by_cases hv:∃c f,o.op = .call c/\c.callee = .value f
 · obtain ⟨c,f,ho,hc⟩:=hv
   exact zaqa hΓ ho hc hR hC hF hfk hS e
 · refine zaqu (fun c ho=>?_) hR hC hF hS e
   cases hc:c.callee with
   | builtin b=>exact ⟨b,rfl⟩
   | value f=>exact absurd ⟨c,f,ho,hc⟩ hv
   | invoke f n=>unfold plainOp at hp;rw [ho] at hp;dsimp only at hp;rw [hc] at hp;cases hp
end
end Go.Co
namespace Go.Co
open Go Go.Conc Go.AI Go.RowKit
section
variable {P:Program} {ty:TypeId} {Post:Value->World->Prop} {main:Bool} {fn:FuncId} {Γ:Env} {ι:Inj} {h:H} {s:LG} {w:World} {o:Oper} {a:Act} {N:Nat} {st:St} {k:AV->H->Option R} {r:R}
def Stable (P:Program) (o:Oper) (a:Act) (ι:Inj) (h:H) (w:World) (k:AV->H->Option R) (r:R):Prop:=
 ∃v y,VR ι y v/\k y h=some r/\∀w',Rel ι h w'->(∀B,known ι h B->w'.heap[B]?=w.heap[B]?)->(execOp a.eval o).run P w' = .ok (.value v) w'
theorem zamg {t:TypeId} {x:Operand} (ho:o.op = .load t x) (hR:Rel ι h w) (hS:StR ι N st a) (e:dOp P Γ o st h k=some r):Stable P o a ι h w k r:=by
 have hx:=hS.ev x
 unfold dOp at e
 rw [ho] at e
 dsimp only at e
 split at e
 · rename_i ht
   split at e
   · rename_i n hs
     obtain ⟨b,q,hb0,e1⟩:=zaaw e
     rw [hb0] at hx
     obtain ⟨fl,l,hb,e2⟩:=zaae e1
     rw [zabd,AV.ofL_eq,takeL_eq,zab1] at e2
     obtain ⟨hl,e3⟩:=zaab e2
     have hl:=Nat.eq_of_beq_eq_true hl
     obtain ⟨B,base,sz,ib,ex⟩:=hx.ptr
     obtain ⟨c,ty,lo,hi,hh,_,hc,_⟩:=hR.cells hb ib
     obtain ⟨vs,h1,h2,h3⟩:=hc.list q n hl
     refine ⟨.agg vs.toArray,.agg (AV.ofList ((l.drop q).take n)),⟨vs.toArray,rfl,by simpa using VX.of_list h2⟩,e3,fun w' _ hw'=>?_⟩
     have hrun:=zab7 P ((hw' B (zab0 ib (by rw [hb];simp))).trans hh) (base+q) vs (fun j v hj=>by have:=h3 j v hj;exact this)
     rw [h1] at hrun
     simp [execOp,ho,ex,Instr.loadAt,Instr.sureAddr,loadVar,zabm ht,zaa0 hs,hrun]
   · cases e
 · rename_i ht
   obtain ⟨b,q,hb0,e1⟩:=zaaw e
   rw [hb0] at hx
   obtain ⟨fl,l,hb,e2⟩:=zaae e1
   obtain ⟨y,hy,e2⟩:=zaay e2
   rw [zadr] at hy
   obtain ⟨B,base,sz,ib,ex⟩:=hx.ptr
   obtain ⟨c,ty,lo,hi,hh,_,hc,_⟩:=hR.cells hb ib
   obtain ⟨v,hv,hVR⟩:=hc q y hy
   refine ⟨v,y,hVR,e2,fun w' _ hw'=>?_⟩
   have hcell:w'.cell? ⟨B,base+q,none⟩=some v:=by rw [zadn ((hw' B (zab0 ib (by rw [hb];simp))).trans hh)];exact hv
   simp [execOp,ho,ex,Instr.loadAt,Instr.sureAddr,loadVar,zabm ht,hcell]
 · cases e
def Told (f:(AV->H->Option R)->Option R) (k:AV->H->Option R) (h:H) (r:R):Prop:=∃y:AV,y.plain=true/\f (fun x h=>some (x,h))=some (y,h)/\k y h=some r
theorem zaod {neg:Bool} {kd:Nat} {x y:AV} (e:aEq neg kd x y h k=some r):Told (fun k=>aEq neg kd x y h k) k h r:=by
 obtain ⟨hk,e1⟩:=zaab (c:=Nat.beq (avKind x) kd) e
 cases hq:eqA h x y with
 | none=>rw [hq] at e1;cases e1
 | some q=>
  rw [hq] at e1
  refine ⟨_,rfl,?_,e1⟩
  show bc (Nat.beq (avKind x) kd) _ none=_
  rw [hk,bc_true,hq]
theorem zanb {β γ:Type} {f:Bool->Option β} {rr:β}:∀{l m:List AV},eqI l m f=some rr->∃q,f q=some rr/\∀(g:Bool->Option γ),eqI l m g=g q
 | [],[],e=>⟨true,e,fun g=>rfl⟩
 | [],_::_,e=>by cases e
 | _::_,[],e=>by cases e
 | a::l,b::m,e=>by
  have e:(withInt a fun k x=>withInt b fun k' y=>bc (Nat.beq k k') (bc (ieq x y) (eqI l m f) (f false)) none)=some rr:=e
  obtain ⟨k1,x,rfl,e1⟩:=zaah e
  obtain ⟨k2,y,rfl,e2⟩:=zaah e1
  obtain ⟨hk,e3⟩:=zaab e2
  cases hxy:ieq x y with
  | true=>
   rw [hxy,bc_true] at e3
   obtain ⟨q,h1,h2⟩:=zanb (γ:=γ) e3
   refine ⟨q,h1,fun g=>?_⟩
   show bc (Nat.beq k1 k2) (bc (ieq x y) (eqI l m g) (g false)) none=_
   rw [hk,bc_true,hxy,bc_true,h2 g]
  | false=>
   rw [hxy,zaag] at e3
   refine ⟨false,e3,fun g=>?_⟩
   show bc (Nat.beq k1 k2) (bc (ieq x y) (eqI l m g) (g false)) none=_
   rw [hk,bc_true,hxy,zaag]
theorem zage {α:Type} {x:AV}:∀{l:List AV},x.toListO=some l->∀f:List AV->Option α,withListA x f=f l:=by
 induction x with
 | leaf q=>intro l hl f;cases q <;> first | (cases hl;rfl) | (cases hl;done)
 | cons a t _ ih=>
  intro l hl f
  simp only [AV.toListO] at hl
  cases ht:t.toListO with
  | none=>rw [ht] at hl;cases hl
  | some l'=>
   rw [ht] at hl;cases hl
   exact ih ht fun l=>f (a::l)
 | _=>intro l hl;cases hl
theorem zatb {α:Type} {x b:AV} {f:AV->Option α} (h:x = .agg b):withAgg x f=f b:=by subst h;rfl
theorem zaqz {neg:Bool} {len:Nat} {x y:AV} (e:aEqA neg len x y h k=some r):Told (fun k=>aEqA neg len x y h k) k h r:=by
 obtain ⟨a',rfl,e1⟩:=zabe e
 obtain ⟨l,hl,e2⟩:=zaal e1
 obtain ⟨b',rfl,e3⟩:=zabe e2
 obtain ⟨m,hm,e4⟩:=zaal e3
 obtain ⟨h5,e5⟩:=zaab e4
 obtain ⟨q,h6,h7⟩:=zanb (γ:=R) e5
 refine ⟨_,rfl,?_,h6⟩
 show withListA a' (fun l=>withListA b' fun m=>bc (Nat.beq (lenL l) len) (eqI l m fun q=>some (AV.bool (bc neg (bnot q) q),h)) none)=_
 rw [zage hl,zage hm,h5,bc_true,h7]
theorem zasa {α β:Type} {x:AV} {f:List Nat->Nat->Option α} {rr:α} (e:withStr x f=some rr):∃l n,f l n=some rr/\∀(g:List Nat->Nat->Option β),withStr x g=g l n:=by
 obtain ⟨l,n,rfl,e1⟩:=zaap e
 exact ⟨l,n,e1,fun g=>rfl⟩
theorem zae5 {β γ:Type}:∀{l:List AV} {f:List Nat->Option β} {rr:β},bytesO l f=some rr->∃q,f q=some rr/\∀(g:List Nat->Option γ),bytesO l g=g q
 | [],f,rr,e=>⟨[],e,fun g=>rfl⟩
 | a::l,f,rr,e=>by
  have e:(a.onInt none fun kk n=>bc (Nat.beq kk 4) (@Int.rec (fun _=>Option β) (fun m=>bc (Nat.ble (Nat.succ m) 256) (bytesO l fun l=>f (m::l)) none) (fun _=>none) n) none)=some rr:=e
  cases a using AV.casesE <;> (try (cases e;done))
  case int kk n _=>
  obtain ⟨hk,e1⟩:=zaab (c:=Nat.beq kk 4) e
  cases n with
  | negSucc n=>cases e1
  | ofNat m=>
   obtain ⟨hm,e2⟩:=zaab (c:=Nat.ble (Nat.succ m) 256) e1
   obtain ⟨q,h1,h2⟩:=zae5 (γ:=γ) e2
   refine ⟨m::q,h1,fun g=>?_⟩
   show bc (Nat.beq kk 4) (bc (Nat.ble (Nat.succ m) 256) (bytesO l fun l=>g (m::l)) none) none=_
   rw [hk,bc_true,hm,bc_true,h2]
theorem zagg {α:Type} {b fl:Nat} {l:List AV} (hb:h.get b = .cells fl l) (f:Nat->List AV->Option α):withCells h b f=f fl l:=by unfold withCells;rw [hb]
theorem zaqw {x:AV} (e:aB2S x h k=some r):Told (fun k=>aB2S x h k) k h r:=by
 cases x using AV.casesE <;> (try (cases e;done))
 case nils=>exact ⟨_,rfl,rfl,e⟩
 case sl b o n c=>
  obtain ⟨fl,l,hb,e⟩:=zaae e
  obtain ⟨h1,e⟩:=zaab e
  obtain ⟨h2,e⟩:=zaab e
  obtain ⟨q,h3,h4⟩:=zae5 (γ:=R) e
  refine ⟨_,rfl,?_,h3⟩
  show withCells h b (fun _ l=>bc (Nat.beq (lenL (takeL n (dropL o l))) n) (bc (Nat.ble n strMax) (bytesO (takeL n (dropL o l)) fun s=>some (AV.str s n,h)) none) none)=_
  rw [zagg hb,h1,bc_true,h2,bc_true,h4]
 case osl b o n es=>
  obtain ⟨fl,l,hb,e⟩:=zaae e
  obtain ⟨h1,e⟩:=zaab e
  obtain ⟨h2,e⟩:=zaab e
  obtain ⟨h5,e⟩:=zaab e
  obtain ⟨q,h3,h4⟩:=zae5 (γ:=R) e
  refine ⟨_,rfl,?_,h3⟩
  show withCells h b (fun _ l=>bc (Nat.beq (lenL (takeL n (dropL o l))) n) (bc (Nat.ble n strMax) (bc (Nat.ble 1 n) (bytesO (takeL n (dropL o l)) fun s=>some (AV.str s n,h)) none) none) none)=_
  rw [zagg hb,h1,bc_true,h2,bc_true,h5,bc_true,h4]
theorem zaog {x:AV} (e:aSame x h k=some r):Told (fun k=>aSame x h k) k h r:=by
 obtain ⟨l,n,rfl,e⟩:=zaap e
 exact ⟨_,rfl,rfl,e⟩
theorem zaqk {x:AV} (e:aLen x h k=some r):Told (fun k=>aLen x h k) k h r:=by
 cases x using AV.casesE <;> (try (cases e;done))
 case str l n=>exact ⟨_,rfl,rfl,e⟩
 case nils=>exact ⟨_,rfl,rfl,e⟩
 case nilm=>exact ⟨_,rfl,rfl,e⟩
 case sl b o n c=>exact ⟨_,rfl,rfl,e⟩
 case osl b o n es=>exact ⟨_,rfl,rfl,e⟩
 case map b=>
  have e:(onMap b h fun es _=>k (.int 3 (.ofNat (lenL es))) h)=some r:=e
  unfold onMap at e
  cases hb:h.get b with
  | dead=>rw [hb] at e;cases e
  | cells fl l=>rw [hb] at e;cases e
  | map es c=>
   rw [hb] at e
   refine ⟨_,rfl,?_,e⟩
   show onMap b h (fun es _=>some (AV.int 3 (.ofNat (lenL es)),h))=_
   unfold onMap;rw [hb]
theorem zast (hq:clsOf P 1 o=1) (hl:∀t x,o.op≠.load t x) (hB:isB o) (e:dOp P Γ o st h k=some r):Told (fun k=>dOp P Γ o st h k) k h r:=by
 cases ho:o.op with
 | load t x=>exact absurd ho (hl t x)
 | binOp op t x y u=>
  unfold dOp at e ⊢
  simp only [ho] at e ⊢
  unfold dBin at e ⊢
  cases hu:P.underlying t with
  | none=>
   rw [hu] at e
   cases op <;> first | exact zaod e | cases e
  | some D=>
   rw [hu] at e
   cases D with
   | int q=>simp [clsOf,ho,hu] at hq
   | string=>simp [clsOf,ho,hu] at hq
   | array len el=>
    dsimp only at e ⊢
    split at e
    · rename_i kk h1 h2
      obtain ⟨hg,e⟩:=zaab e
      rw [hg]
      cases op <;> first | exact zaqz e | cases e
    · cases e
   | _=>cases op <;> first | exact zaod e | cases e
 | convert s d x=>
  unfold dOp at e ⊢
  simp only [ho] at e ⊢
  unfold dConv at e ⊢
  split at e
  · rename_i h1 h2;simp [clsOf,ho,h2] at hq
  · rename_i el h1 h2
    split at e
    · exact zaqw e
    · cases e
  · rename_i D h1 h2 h3
    cases D <;> first | exact zaog e | exact absurd h1 (h3 _)
  · cases e
 | call c=>
  obtain ⟨b,hb⟩:=hB c ho
  have hlen:b = .len:=by
   unfold clsOf at hq
   rw [ho] at hq;dsimp only at hq;rw [hb] at hq
   cases b <;> first | rfl | cases hq
  subst hlen
  unfold dOp at e ⊢
  simp only [ho,hb] at e ⊢
  split at e
  · rename_i x t h1 h2
    obtain ⟨hk,e⟩:=zaab e
    obtain ⟨y,g1,g2,g3⟩:=zaqk e
    refine ⟨y,g1,?_,g3⟩
    show bc (Nat.beq (avLen (ev st x)) (lenK P t)) _ none=_
    rw [hk,bc_true];exact g2
  · cases e
 | _=>simp [clsOf,ho] at hq
theorem zal2 {ι ι':Inj} {x:AV} {v v':Value} (hp:x.plain=true) (h1:VR ι x v) (h2:VR ι' x v'):v'=v:=by
 have e1:=zac7 hp h1
 have e2:=zac7 hp h2
 rw [<- e2] at e1;simpa using e1.symm
theorem zakm (hq:quietV o.op=true) (hc:clsOf P 1 o=1) (hB:isB o) (hR:Rel ι h w) (hS:StR ι N st a) (e:dOp P Γ o st h k=some r):Stable P o a ι h w k r:=by
 by_cases hl:∃t x,o.op = .load t x
 · obtain ⟨t,x,ho⟩:=hl;exact zamg ho hR hS e
 obtain ⟨y,hp,e1,e2⟩:=zast hc (fun t x ho=>hl ⟨t,x,ho⟩) hB e
 have key:∀w',Rel ι h w'->∃v,VR ι y v/\(execOp a.eval o).run P w' = .ok (.value v) w':=fun w' hR'=>by
  obtain ⟨v,x,g1,g2,g3⟩:=zah8 (k:=fun x h=>some (x,h)) (r:=(y,h)) hR' hS hq e1
  cases g3
  exact ⟨v,g2,g1 w' (Below.refl _ _)⟩
 obtain ⟨v,hv,_⟩:=key w hR
 refine ⟨v,y,hv,e2,fun w' hR' _=>?_⟩
 obtain ⟨v',hv',hrun⟩:=key w' hR'
 rw [zal2 hp hv hv'] at hrun
 exact hrun
end
end Go.Co
namespace Go.Co
open Go Go.Conc Go.AI Go.RowKit
section
variable {ι0 ι:Inj} {h0 h:H} {s0:LG} {w0:World}
theorem ExtC.grow {σ σ':SitD} (hr:Rel ι h σ.w) (c:Cov ι h σ.s) (g:GrC σ σ'):ExtC true ι h σ.s σ.w ι h σ'.s σ'.w:=by
 obtain ⟨N,h1,h2,h3⟩:=g.new
 exact {
  le:=.refl _,os:=g.os,tape:=g.tape,output:=g.output,size:=g.size
  kid:=by rw [h3];rfl
  fk:=by rw [h3];rfl
  ro:=fun _=>by rw [h3];rfl
  mine:=fun _ B hB=>by rw [h3];exact .inl hB
  roW:=fun B hB=>by rw [h3];exact hB
  mineW:=fun B hB=>by rw [h3];exact .inl (.inl hB)
  newR:=fun B hB=>by rw [h3] at hB;exact .inl hB
  new:=fun B hB=>by rw [h3] at hB;exact hB.imp id (h1 B)
  block:=fun B hB _=>g.keep B (hB.imp (fun x=>x.1) id)
  own:=fun B ho=>.inl ho
  num:=Nat.le_refl _
  lo:=Nat.le_refl _
  keep:=fun _ _ _=>rfl
  keepW:=fun b B o z _ _ hb e=>g.keep B (.inl (c.own B ⟨b,o,z,e,hb⟩))
  dom:=fun b B o z e=>.inl ⟨b,o,z,e⟩
  aside:=fun B hB _ _=>by rw [h3];exact .inl hB }
theorem Cov.grow {σ σ':SitD} (c:Cov ι h σ.s) (g:GrC σ σ'):Cov ι h σ'.s:=by
 obtain ⟨N,h1,h2,h3⟩:=g.new
 refine ⟨fun b B o z e=>?_,fun B ho=>?_⟩
 · rw [h3];exact (c.all b B o z e).imp .inl id
 · rw [h3];exact .inl (c.own B ho)
theorem Rel.growC {σ σ':SitD} (hr:Rel ι h σ.w) (c:Cov ι h σ.s) (g:GrC σ σ'):Rel ι h σ'.w:=by
 have keep:∀{b B o z},ι b=some (B,o,z)->σ'.w.heap[B]?=σ.w.heap[B]?:=fun e=>g.keep _ (c.all _ _ _ _ e)
 refine ⟨hr.fresh,fun b B o z e=>Nat.lt_of_lt_of_le (hr.lt b B o z e) g.size,hr.inj,fun b hb=>?_,fun b r' e' hp=>?_⟩
 · obtain ⟨B,o,z,e,hR⟩:=hr.blk b hb
   exact ⟨B,o,z,e,by rw [keep e];exact hR⟩
 · obtain ⟨⟨z,hb⟩,hc⟩:=hr.pin b r' e' hp
   exact ⟨⟨z,hb⟩,by rw [zab2 (keep hb)];exact hc⟩
structure KnownC (ι0:Inj) (h0:H) (s0:LG) (w0:World) (ι:Inj) (h:H) (σ:SitD):Prop where
 ext:ExtC true ι0 h0 s0 w0 ι h σ.s σ.w
 rel:Rel ι h σ.w
 cov:Cov ι h σ.s
 avoid:∀b C q z,ι b=some (C,q,z)->¬ σ.U C
 base:∀C,σ.U C->w0.heap.size<=C
theorem KnownC.grow {σ σ':SitD} (K:KnownC ι0 h0 s0 w0 ι h σ) (g:GrC σ σ'):KnownC ι0 h0 s0 w0 ι h σ':=by
 refine ⟨K.ext.trans (ExtC.grow K.rel K.cov g),Rel.growC K.rel K.cov g,K.cov.grow g,?_,?_⟩
 · obtain ⟨N,h1,h2,h3⟩:=g.new
   intro b C q z e hC
   rw [h2] at hC
   rcases hC with hC | hC
   · exact K.avoid b C q z e hC
   · have:=K.rel.lt _ _ _ _ e;have:=h1 C hC;omega
 · obtain ⟨N,h1,h2,h3⟩:=g.new
   intro C hC
   rw [h2] at hC
   rcases hC with hC | hC
   · exact K.base C hC
   · have:=K.ext.size;have:=h1 C hC;omega
theorem KnownC.adopt {σ:SitD} (K:KnownC ι0 h0 s0 w0 ι h σ) {B:Nat} (hB:σ.U B) (hown:σ.s.own B) (hlt:B<σ.w.heap.size) {cells:Array Value} {el:TypeId} (hX:σ.w.heap[B]?=some (.cells cells el)) {l:List AV} (hv:VL ι l cells.toList) :
 KnownC ι0 h0 s0 w0 (ι.add h.n (B,0,cells.toList.length)) (h.push (.cells 0 l)) ⟨σ.w,less σ.U B,σ.s⟩ where
 ext:={
  le:=K.ext.le.trans (Inj.le_add K.rel.noId)
  os:=K.ext.os
  tape:=K.ext.tape
  output:=K.ext.output
  size:=K.ext.size
  kid:=K.ext.kid
  fk:=K.ext.fk
  ro:=K.ext.ro
  mine:=K.ext.mine
  roW:=K.ext.roW
  mineW:=K.ext.mineW
  aside:=K.ext.aside
  newR:=K.ext.newR
  new:=K.ext.new
  block:=K.ext.block
  own:=fun C ⟨c,q,z,e,ho⟩=>by
   unfold Inj.add at e
   rw [H.get_push] at ho
   split at e
   · cases e;exact .inr (K.base B hB)
   · rename_i hn;rw [if_neg hn] at ho;exact K.ext.own C ⟨c,q,z,e,ho⟩
  num:=Nat.le_trans K.ext.num (Nat.le_succ _)
  lo:=K.ext.lo
  keep:=fun c h1 h2=>by
   have:=K.ext.num
   rw [H.get_push,if_neg (by omega)];exact K.ext.keep c h1 h2
  keepW:=K.ext.keepW
  dom:=fun c C q z e=>by
   unfold Inj.add at e
   split at e
   · cases e;exact .inr (K.base B hB)
   · exact K.ext.dom c C q z e }
 rel:={
  fresh:=fun c x e=>by
   unfold Inj.add at e;rw [H.n_push]
   split at e
   · omega
   · have:=K.rel.fresh _ _ e;omega
  lt:=fun c C q z e=>by
   unfold Inj.add at e
   split at e
   · cases e;exact hlt
   · exact K.rel.lt _ _ _ _ e
  inj:=fun c d C q z q' z' hc hd ec ed=>by
   unfold Inj.add at ec ed
   rw [H.get_push] at hc hd
   split at ec
   · cases ec
     split at ed
     · omega
     · exact absurd hB (K.avoid _ _ _ _ ed)
   · rename_i hcn
     rw [if_neg hcn] at hc
     split at ed
     · cases ed;exact absurd hB (K.avoid _ _ _ _ ec)
     · rename_i hdn;rw [if_neg hdn] at hd;exact K.rel.inj c d C q z q' z' hc hd ec ed
  blk:=fun c hc=>by
   rw [H.get_push] at hc ⊢
   by_cases hcn:c=h.n
   · subst hcn
     refine ⟨B,0,cells.toList.length,by simp [Inj.add],?_⟩
     rw [if_pos rfl,hX]
     refine ⟨cells,el,0,0,rfl,by simp,fun i a hi=>?_,fun _=>rfl,fun h=>by cases h⟩
     obtain ⟨v,h1,h2⟩:=(hv.mono (Inj.le_add K.rel.noId)).get i a hi
     exact ⟨v,by simpa using h1,h2⟩
   · rw [if_neg hcn] at hc ⊢
     obtain ⟨C,q,z,e,hR⟩:=K.rel.blk c hc
     exact ⟨C,q,z,by simp [Inj.add,hcn,e],hR.mono (Inj.le_add K.rel.noId)⟩
  pin:=fun c r' e' hp=>by
   rw [H.get_push] at hp
   by_cases hcn:c=h.n
   · rw [if_pos hcn] at hp;exact absurd hp (Blk.cells_free (by decide) _ _)
   · rw [if_neg hcn] at hp
     obtain ⟨⟨s',hb⟩,hc⟩:=K.rel.pin c r' e' hp
     exact ⟨⟨s',by simp [Inj.add,hcn,hb]⟩,hc⟩ }
 cov:={
  all:=fun c C q z e=>by
   unfold Inj.add at e
   split at e
   · cases e;exact .inl hown
   · exact K.cov.all c C q z e
  own:=fun C ⟨c,q,z,e,ho⟩=>by
   unfold Inj.add at e
   rw [H.get_push] at ho
   split at e
   · cases e;exact hown
   · rename_i hn;rw [if_neg hn] at ho;exact K.cov.own C ⟨c,q,z,e,ho⟩ }
 avoid:=fun c C q z e hC=>by
  unfold Inj.add at e
  split at e
  · cases e;exact hC.2 rfl
  · exact K.avoid c C q z e hC.1
 base:=fun C hC=>K.base C hC.1
theorem ExtC.quiet {ι':Inj} {h':H} {s s':LG} {w w':World} (U:Nat->Prop) (hF:Fit s w) (hr:Rel ι h w) (e:ExtC true ι h.mark s w ι' h' s' w') (hlo:h.n<=h'.lo):∃U',GrC ⟨w,U,s⟩ ⟨w',U',s'⟩:=by
 refine ⟨fun b=>U b\/(s'.own b/\¬ s.own b),e.os,e.tape,e.output,e.size,fun B hB=>?_,fun b=>s'.own b/\¬ s.own b,fun b hb=>(e.new b hb.1).resolve_left hb.2,rfl,?_⟩
 · have hB:s.own B\/s.ro B:=hB
   by_cases ho:Own ι h B
   · obtain ⟨b,o,z,hb,hown⟩:=ho
     have:=hr.fresh _ _ hb
     exact e.keepW b B o z (by omega) this hown hb
   · exact e.block B (hB.imp (fun x=>⟨x,ho⟩) id) (hF.lt B hB)
 · show s'=s.add _
   have e1:s'.own=fun b=>s.own b\/(s'.own b/\¬ s.own b):=by
    funext b;apply propext
    constructor
    · intro hb;by_cases hs:s.own b;exact .inl hs;exact .inr ⟨hb,hs⟩
    · rintro (hb | hb);exact e.mine rfl b hb;exact hb.1
   obtain ⟨so,sr,sk,sf⟩:=s'
   have k:=e.kid;have f:=e.fk;have r:=e.ro rfl
   simp only at k f r e1
   unfold LG.add
   rw [<- k, <- f, <- r]
   congr 1
end
section
variable {P:Program} {ty:TypeId} {Post:Value->World->Prop} {main:Bool} {fk0:Option Fk} {fn:FuncId} {Γ:Env} {N m:Nat} {ops:Array Oper} {r:R} {ι0:Inj} {h0:H} {s0:LG} {w0:World}
theorem Reads.grow {s:LG} {es:Array Event} (h:Reads s es) (M:Nat->Prop):Reads (s.add M) es:=
 ⟨fun e he=>by
  have h1:=h.1 e he
  unfold EvG at h1 ⊢
  split <;> simp_all only [LG.add]
  · exact ⟨trivial,h1.2.elim (fun h=>.inl (.inl h)) .inr⟩
  · exact ⟨trivial,h1.2.elim (fun h=>.inl (.inl h)) .inr⟩,h.2⟩
theorem zarq (hΓ:CoSound P ty Post main (fk0,true) Γ) {o:Oper} {c:Call} {f:Operand} {ι:Inj} {h:H} {a:Act} {σ:SitD} {st:St} {k:AV->H->Option R} (ho:o.op = .call c) (hc:c.callee = .value f) (hR:Rel ι h σ.w) (hC:Cov ι h σ.s) (hF:Fit σ.s σ.w) (hfk:σ.s.fk=fk0) (hS:StR ι N st a)
 (e:dCallF Γ (ev st f) (c.args.toList.map (ev st)) h k=some r):∃v y,VR ι y v/\k y h=some r/\∀σ',GrC σ σ'->quietC P ty Post main fn o a σ' v:=by
 obtain ⟨g,as,vs,e1,hv,hx⟩:=zanz (K:=fun g as=>bindF (Γ g as h.mark) h k) ho hc hS.ev e
 obtain ⟨r1,hg,hpl,hlo,e1⟩:=zaf1 e1
 have T:=hΓ _ _ _ _ hg
 obtain ⟨fn',hfn,hbody,hname⟩:=id T.can
 have hbare:Bare P (execOp a.eval o):=by rw [hx];with_reducible exact zacn hfn hname hbody
 obtain ⟨_,v0,s1,w1,ι1,q1,_⟩:=T.run ι σ.w vs σ.s hR.mark ⟨hC.all,hC.own⟩ hv hF hfk
 refine ⟨v0,r1.1,zac8 hpl q1,e1,fun σ' g'=>?_⟩
 have hF':Fit σ'.s σ'.w:=by
  have:=OkS.gr (S:=AdmC.all) (σ:=⟨σ.w,fun _=>False,σ.s⟩) (σ':=⟨σ'.w,fun b=>σ'.s.own b/\¬ σ.s.own b,σ'.s⟩) hF (by
   obtain ⟨M,h1,h2,h3⟩:=g'.new
   refine ⟨g'.os,g'.tape,g'.output,g'.size,g'.keep,fun b=>σ'.s.own b/\¬ σ.s.own b,fun b hb=>?_,by funext b;simp,?_⟩
   · have hb:=hb;rw [h3] at hb;exact h1 b (hb.1.resolve_left hb.2)
   · show σ'.s=σ.s.add _
     rw [h3]
     show σ.s.add M=σ.s.add _
     unfold LG.add
     congr 1;funext b;apply propext
     constructor
     · rintro (hb | hb)
       · exact .inl hb
       · by_cases hs:σ.s.own b
         · exact .inl hs
         · exact .inr ⟨.inr hb,hs⟩
     · rintro (hb | hb)
       · exact .inl hb
       · exact hb.1)
  exact Fit.of (σ:=⟨σ'.w,fun b=>σ'.s.own b/\¬ σ.s.own b,σ'.s⟩) this
 have hR':=Rel.growC hR hC g'
 have hrun:(execOp a.eval o).run P σ'.w = .ok (.enter g vs.toArray) σ'.w:=by rw [hx];exact zacz T.can _
 have t:=(T.run ι σ'.w vs σ'.s hR'.mark ⟨(hC.grow g').all,(hC.grow g').own⟩ hv hF' (by obtain ⟨N,_,_,h3⟩:=g'.new;rw [h3];exact hfk)).1
 unfold quietC
 rw [hrun]
 refine ⟨rfl,zab6 hbare hrun hF'.busy,t.mono fun u s' w' ⟨ι',p1,p2,p3,p4,p5⟩=>⟨(zal2 hpl q1 p1),?_⟩⟩
 exact ExtC.quiet σ'.U hF' hR' p2 hlo
theorem zahg {S:AdmC} (hΓ:CoSound P ty Post main (fk0,true) Γ) (hm:m=1\/m=2) {o:Oper} (hpo:plainOp o=true) {ι:Inj} {h:H} {a:Act} {σ:SitD} {st:St} {k:AV->H->Option R} (hR:KnownC ι0 h0 s0 w0 ι h σ) (hfk:s0.fk=fk0) (hO:OkS S σ) (hS:StR ι N st a) {c:Nat} (hc:c=clsOf P m o)
 (hw:Region.wanted o (yielded ops a.tmps)=true) (e:dOpX P Γ m o st h k=some r) {K:Act->SitD->Prop}
 (hSk:∀x σ' ι' h',KnownC ι0 h0 s0 w0 ι' h' σ'->k x h'=some r->S.1 σ'.w σ'.s)
 (hk:∀x v σ' ι' h',KnownC ι0 h0 s0 w0 ι' h' σ'->ι.le ι'->VR ι' x v->k x h'=some r->K (a.put o.dst v) σ'):stepC P ty Post main fn ops S c o K a σ:=by
 unfold dOpX at e
 unfold stepC
 have hF:=Fit.of hO
 cases hb:Nat.ble 2 (clsOf P m o) with
 | true=>
  have h2:=Nat.le_of_ble_eq_true hb
  rw [hb,bc_true] at e
  rw [if_neg (by omega),if_neg (by omega)]
  by_cases h3:c=3
  · rw [if_pos h3]
    have hop:∃t n ps,o.op = .buildSlice t n ps:=by
     rw [hc] at h3
     unfold clsOf at h3
     cases ho:o.op with
     | buildSlice t n ps=>exact ⟨t,n,ps,rfl⟩
     | call cc=>
      simp only [ho] at h3
      cases hcc:cc.callee with
      | value f=>simp only [hcc] at h3;omega
      | invoke f n=>simp only [hcc] at h3;omega
      | builtin b=>simp only [hcc] at h3;cases b <;> cases h3
     | binOp op t x y u=>simp only [ho] at h3;split at h3 <;> omega
     | convert s d x=>simp only [ho] at h3;split at h3 <;> omega
     | _=>simp [ho] at h3
    obtain ⟨t,n,ps,ho⟩:=hop
    simp only [dOp,ho] at e
    split at e
    case h_2=>cases e
    rename_i el hu
    split at e
    case h_2=>cases e
    rename_i es zs hes hzs
    obtain ⟨hn,e1⟩:=zaab e
    obtain ⟨cells',l,g1,g2,g3⟩:=zafs (ρ:=a.eval) ho hS.ev hu hes hzs (Nat.le_of_ble_eq_true hn) e1
    refine .inl ⟨hw,n,.cells cells' el,fun w'=>⟨g1 w',fun e he=>?_⟩,fun σ' B hg hB hX=>?_⟩
    · have hcf:Cf P (fun _=>False) (fun _=>False) (execOp a.eval o):=by unfold execOp;simp only [ho];exact Cf.val (zadw t n _ fun _ _ _=>trivial)
      have q1:=mem_listed he
      unfold Sem.events at q1
      have q2:=Sem.runT_fst P (execOp a.eval o) w' #[]
      rw [g1 w'] at q2
      have q3:=zac9 (es:= #[]) (es':=((execOp a.eval o).runT P w' #[]).2) hcf (fun r hr=>hr.elim) (fun r hr=>hr.elim) (w:=w') (v:=.value (.slice (some ⟨w'.heap.size,0,none⟩) n n)) (w':=w'.alloc (.cells cells' el)) (by rw [<- q2])
      have q4:=(q3.2 e q1).resolve_left (by simp)
      simpa using q4
    · have K1:=hR.grow hg
      have hO1:=hO.gr hg
      have K2:=K1.adopt hB (hO1.U B hB) (hO1.lt B (.inl (hO1.U B hB))) hX g2
      exact hk _ _ _ _ _ K2 (Inj.le_add K1.rel.noId) VR.newSl g3
  · rw [if_neg h3]
    refine .inl ⟨hw,fun σ' hg=>?_⟩
    have K1:=hR.grow hg
    have hO1:=hO.gr hg
    refine zabr rfl ?_ (zakz hΓ hpo K1.rel K1.cov (Fit.of hO1) (K1.ext.fk.trans hfk) hS e)
    rintro v s' w' ⟨x,v',ι',h',hput,hE,hR',hC',hF',hV,hk'⟩
    have hU:∀B,σ'.U B->w'.heap[B]?=σ'.w.heap[B]?:=fun B hB=>hE.block B (.inl ⟨hO1.U B hB,fun ⟨b,q,z,eb,_⟩=>K1.avoid b B q z eb hB⟩) (hO1.lt B (.inl (hO1.U B hB)))
    have K2:KnownC ι0 h0 s0 w0 ι' h' ⟨w',σ'.U,s'⟩:=⟨K1.ext.trans hE,hR',hC',fun b C q z eb hC=>by
     rcases hE.dom b C q z eb with ⟨c',q',z',e'⟩ | h5
     · exact K1.avoid _ _ _ _ e' hC
     · have:=hO1.lt C (.inl (hO1.U C hC));omega,K1.base⟩
    rw [hput]
    exact ⟨hk x v' _ ι' h' K2 hE.le hV hk',hU,fun b hb=>hE.mine rfl b (hO1.U b hb),hF'.apart,hF'.lt,hF'.busy,hSk x _ ι' h' K2 hk'⟩
 | false=>
  have h2:¬ 2<=clsOf P m o:=by intro h;rw [Nat.ble_eq_true_of_le h] at hb;cases hb
  rw [hb,zaag] at e
  by_cases h0':c=0
  · rw [if_pos h0']
    have hc1:=clsOf0 hm (hc.symm.trans h0')
    have e':quietV o.op=true/\dOp P Γ o st h (fun a _=>k a h)=some r:=by
     unfold dOpQ at e
     split at e
     · rename_i cc ho
       split at e
       · rename_i f hcc;exact absurd hc1 (by simp [clsOf,ho,hcc])
       · rename_i f n hcc;exact absurd hc1 (by simp [clsOf,ho,hcc])
       · obtain ⟨q,e2⟩:=zaab e;exact ⟨q,e2⟩
     · exact zaab e
    obtain ⟨v,x,g1,g2,g3⟩:=zaki hR.rel hS hc1 e'.2
    have hbare:Bare P (execOp a.eval o):=fun {_ _ _} hk=>zann hR.rel hS hc1 e'.2 hk
    exact ⟨v,.inl ⟨hw,fun w' s' _ hbusy=>⟨g1 w' trivial,zab6 hbare (g1 w' trivial) hbusy⟩⟩,fun σ' g=>hk x v σ' ι h (hR.grow g) (.refl _) g2 g3⟩
  · have h1:c=1:=by omega
    rw [if_neg h0',if_pos h1]
    have key:∃v y,VR ι y v/\k y h=some r/\∀σ',GrC σ σ'->quietC P ty Post main fn o a σ' v:=by
     have nocall:quietV o.op=true->isB o->clsOf P 1 o=1->dOp P Γ o st h (fun a _=>k a h)=some r->∃v y,VR ι y v/\k y h=some r/\∀σ',GrC σ σ'->quietC P ty Post main fn o a σ' v:=fun hq hB hc1 e2=>by
      obtain ⟨v,y,g1,g2,g3⟩:=zakm hq hc1 hB hR.rel hS e2
      refine ⟨v,y,g1,g2,fun σ' g=>?_⟩
      have K1:=hR.grow g
      have hrun:=g3 σ'.w K1.rel fun B hB=>g.keep B (zahz hR.cov B hB)
      have hcf:=zam4 K1.rel hS hB e2
      unfold quietC
      rw [hrun]
      exact ⟨rfl,rfl,zac3 hcf (zagz K1.rel) (fun _=>zaed) hrun (hO.gr g).busy (zahz K1.cov) K1.cov.own⟩
     unfold dOpQ at e
     split at e
     · rename_i cc ho
       split at e
       · rename_i f hcc;exact zarq hΓ ho hcc hR.rel hR.cov hF (hR.ext.fk.trans hfk) hS e
       · rename_i f n hcc;unfold plainOp at hpo;rw [ho] at hpo;dsimp only at hpo;rw [hcc] at hpo;cases hpo
       · rename_i hno1 hno2
         obtain ⟨q,e2⟩:=zaab e
         have hB:isB o:=fun c' ho'=>by
          rw [ho] at ho';cases ho'
          cases hcc:cc.callee with
          | builtin b=>exact ⟨b,rfl⟩
          | value f=>exact absurd hcc (hno1 f)
          | invoke f n=>exact absurd hcc (hno2 f n)
         refine nocall q hB ?_ e2
         have:clsOf P 1 o=clsOf P m o:=by
          unfold clsOf
          rw [ho];dsimp only
          obtain ⟨b,hb2⟩:=hB cc ho
          rw [hb2]
          cases b <;> rfl
         omega
     · rename_i hno
       obtain ⟨q,e2⟩:=zaab e
       have hB:isB o:=fun c' ho'=>absurd ho' (hno c')
       refine nocall q hB ?_ e2
       have:clsOf P 1 o=clsOf P m o:=by
        unfold clsOf
        cases ho:o.op with
        | call c'=>exact absurd ho (hno c')
        | _=>rfl
       omega
    obtain ⟨v,y,g1,g2,g3⟩:=key
    exact ⟨v,.inl ⟨hw,g3⟩,fun σ' hg=>hk y v σ' ι h (hR.grow hg) (.refl _) g1 g2⟩
end
end Go.Co
namespace Go.Co
open Go Go.Conc Go.AI Go.RowKit
section
variable (P:Program) (ty:TypeId) (Post:Value->World->Prop) (main:Bool)
def CoOE (fn:FuncId) (ops:Array Oper) (todo:List Nat) (Q:Out) (a:Act) (s:LG) (w:World):Prop:=CoO P ty Post main fn ops todo Q a s w/\∃e a' s' w',Q e a' s' w'
def CoE (fn:FuncId) (c:Code) (Q:Out) (a:Act) (s:LG) (w:World):Prop:=CoC P ty Post main fn c Q a s w/\∃e a' s' w',Q e a' s' w'
end
section
variable {P:Program} {ty:TypeId} {Post:Value->World->Prop} {main:Bool} {fk0:Option Fk×Bool} {fn:FuncId} {Γ:Env} {N m:Nat} {ops:Array Oper} {r:R}
theorem CoE.mono {c:Code} {Q Q':Out} {a:Act} {s:LG} {w:World} (h:CoE P ty Post main fn c Q a s w) (hq:∀e a s w,Q e a s w->Q' e a s w):CoE P ty Post main fn c Q' a s w:=
 ⟨h.1.mono hq,let ⟨e,a',s',w',q⟩:=h.2; ⟨e,a',s',w',hq _ _ _ _ q⟩⟩
theorem zasj {Q:Out} {a:Act} {s:LG} {w:World} (h:Q .normal a s w):CoE P ty Post main fn .skip Q a s w:=⟨zaik h,_,_,_,_,h⟩
theorem zap8 {l:Nat} {Q:Out} {a:Act} {s:LG} {w:World} (h:Q .normal a s w):CoE P ty Post main fn (.label l) Q a s w:=⟨zart h,_,_,_,_,h⟩
theorem zate {Q:Out} {a:Act} {s:LG} {w:World} (h:Q .ret a s w):CoE P ty Post main fn .ret Q a s w:=⟨co_ret h,_,_,_,_,h⟩
theorem zarv {id:Nat} {Q:Out} {a:Act} {s:LG} {w:World} (h:Q (.exit id) a s w):CoE P ty Post main fn (.exit id) Q a s w:=⟨zaip h,_,_,_,_,h⟩
theorem zauf {x y:Code} {Q:Out} {a:Act} {s:LG} {w:World} (h:CoE P ty Post main fn x (Out.seq (fun a s w=>CoE P ty Post main fn y Q a s w) Q) a s w):CoE P ty Post main fn (.seq x y) Q a s w:=by
 refine ⟨co_seq (h.1.mono fun e a s w q=>?_),?_⟩
 · cases e with
   | normal=>have q:CoE P ty Post main fn y Q a s w:=q;exact q.1
   | exit id=>exact q
   | ret=>exact q
   | goto l=>exact q
   | panic ch=>exact q
   | outgrown=>exact q
 · obtain ⟨e,a',s',w',q⟩:=h.2
   cases e with
   | normal=>have q:CoE P ty Post main fn y Q a' s' w':=q;exact q.2
   | exit id=>exact ⟨_,_,_,_,q⟩
   | ret=>exact ⟨.ret,_,_,_,q⟩
   | goto l=>exact ⟨.goto l,_,_,_,q⟩
   | panic ch=>exact ⟨.panic ch,_,_,_,q⟩
   | outgrown=>exact ⟨.outgrown,_,_,_,q⟩
theorem zar1 {c:Operand} {x y:Code} {t:Bool} {Q:Out} {a:Act} {s:LG} {w:World} (hc:a.eval c = .bool t) (h:CoE P ty Post main fn (if t then x else y) Q a s w):CoE P ty Post main fn (.cond c x y) Q a s w:=⟨zagc hc h.1,h.2⟩
theorem zapv {id:Nat} {c:Code} {Q:Out} {a:Act} {s:LG} {w:World} (h:CoE P ty Post main fn c (Out.block id Q) a s w):CoE P ty Post main fn (.block id c) Q a s w:=by
 refine ⟨zade h.1,?_⟩
 obtain ⟨e,a',s',w',q⟩:=h.2
 cases e with
 | exit i=>
  by_cases hi:i=id
  · simp only [Out.block,hi,if_true] at q;exact ⟨_,_,_,_,q⟩
  · simp only [Out.block,hi,if_false] at q;exact ⟨_,_,_,_,q⟩
 | normal=>exact ⟨.normal,_,_,_,q⟩
 | ret=>exact ⟨.ret,_,_,_,q⟩
 | goto l=>exact ⟨.goto l,_,_,_,q⟩
 | panic ch=>exact ⟨.panic ch,_,_,_,q⟩
 | outgrown=>exact ⟨.outgrown,_,_,_,q⟩
theorem zaqr {c:Code} {Q:Out} {a:Act} {s:LG} {w:World} (h:CoE P ty Post main fn c Q a s w):CoE P ty Post main fn (.scope c) Q a s w:=⟨zasy h.1,h.2⟩
theorem coe_op (hΓ:CoSound P ty Post main fk0 Γ) {i:Nat} {rest:List Nat} {o:Oper} {Q:Out} {ι:Inj} {h:H} {a:Act} {s:LG} {w:World} {st:St} {k:AV->H->Option R} (ho:ops[i]?=some o) (hpo:plainOp o=true) (hw:Region.wanted o (yielded ops a.tmps)=true)
 (hR:Rel ι h w) (hC:Cov ι h s) (hF:Fit s w) (hfk:s.fk=fk0.1) (hS:StR ι N st a) (e:dOp P Γ o st h k=some r)
 (hk:∀x v ι' h' s' w',ExtC fk0.2 ι h s w ι' h' s' w'->Rel ι' h' w'->Cov ι' h' s'->Fit s' w'->VR ι' x v->k x h'=some r->CoOE P ty Post main fn ops rest Q (a.put o.dst v) s' w'):CoOE P ty Post main fn ops (i::rest) Q a s w:=by
 have step:∀w₁,Rely ty s w w₁->goodC P ty Post main fn o a s w₁ (fun a' s' w'=>CoOE P ty Post main fn ops rest Q a' s' w'):=fun w₁ rl=>by
  have hR1:=zadj hR hC rl
  refine zabr rfl ?_ (zakz hΓ hpo hR1 hC (hF.rely rl) hfk hS e)
  rintro v s' w' ⟨x,v',ι',h',hput,hE,hR',hC',hF',hV,hk'⟩
  rw [hput]
  exact hk x v' ι' h' s' w' ((ExtC.rely hR hC rl).trans hE) hR' hC' hF' hV hk'
 refine ⟨zaih ho hw fun w₁ rl=>zabr rfl (fun v s' w' q=>q.1) (step w₁ rl),?_⟩
 obtain ⟨v,s',w',q⟩:=zajy (step w (.refl _ _))
 exact q.2
theorem coe_no {i:Nat} {rest:List Nat} {o:Oper} {Q:Out} {a:Act} {s:LG} {w:World} (ho:ops[i]?=some o) (hw:Region.wanted o (yielded ops a.tmps)=false) (h:CoOE P ty Post main fn ops rest Q (a.put o.dst undef) s w):CoOE P ty Post main fn ops (i::rest) Q a s w:=⟨zac5 ho hw h.1,h.2⟩
theorem runAllC (hΓ:CoSound P ty Post main fk0 Γ) (hpl:∀(i:Nat) (o:Oper),ops[i]?=some o->plainOp o=true) {j d:Nat} {want:Bool} (rest:List Oper) (Q:Out):∀(pre:List Oper) (i:Nat) (ι:Inj) (st:St) (h:H) (a:Act) (s:LG) (w:World) (kn:K),
 (∀q,(pre++rest)[q]?=ops[i+q]?)->Rel ι h w->Cov ι h s->Fit s w->s.fk=fk0.1->StR ι N st a->(∀o∈pre,o.guard=some (j,want)/\o.dst≠some d)->
 (∀(o:Oper),o.guard=some (j,want)->∀a':Act,a'.tmps.getD d undef=a.tmps.getD d undef->Region.wanted o (yielded ops a'.tmps)=true)->runAll P Γ N pre st h kn=some r->
 (∀ι' st' h' a' s' w',ExtC fk0.2 ι h s w ι' h' s' w'->a'.defers=a.defers->Rel ι' h' w'->Cov ι' h' s'->Fit s' w'->StR ι' N st' a'->kn st' h'=some r->CoOE P ty Post main fn ops (List.range' (i+pre.length) rest.length) Q a' s' w')->
 CoOE P ty Post main fn ops (List.range' i (pre++rest).length) Q a s w:=by
 intro pre
 induction pre with
 | nil=>intro i ι st h a s w kn _ hR hC hF hfk hS _ _ e hk;exact hk ι st h a s w (ExtC.rely hR hC (Rely.refl (ty:=ty) _ _)) rfl hR hC hF hS e
 | cons o pre ih=>
  intro i ι st h a s w kn hl hR hC hF hfk hS hg hw e hk
  obtain ⟨hg1,hd1⟩:=hg o (by simp)
  have ho:ops[i]?=some o:=by simpa using (hl 0).symm
  rw [List.cons_append,List.length_cons,List.range'_succ]
  refine coe_op hΓ ho (hpl i o ho) (hw o hg1 a rfl) hR hC hF hfk hS e fun x v ι' h' s' w' hE hR' hC' hF' hV hk'=>?_
  obtain ⟨st',hk2,hput⟩:=zaeh hk'
  refine ih (i+1) ι' st' h' _ s' w' kn (fun q=>by have:=hl (q+1);simpa [Nat.add_assoc,Nat.add_comm 1 q] using this) hR' hC' hF' (hE.fk.trans hfk) (hput (hS.mono hE.le) hV) (fun o ho=>hg o (by simp [ho])) (fun o ho a' ha'=>hw o ho a' (ha'.trans (zaia hd1))) hk2 fun ι2 st2 h2 a2 s2 w2 hE2 hd2 hR2 hC2 hF2 hS2 hk3=>?_
  have:=hk ι2 st2 h2 a2 s2 w2 (hE.trans hE2) (hd2.trans (zabb _ _ _)) hR2 hC2 hF2 hS2 hk3
  simpa [Nat.add_assoc,Nat.add_comm 1 pre.length] using this
theorem skipAllC {j d:Nat} {want:Bool} (rest:List Oper) (Q:Out):∀(pre:List Oper) (i:Nat) (ι:Inj) (st:St) (a:Act) (s:LG) (w:World) (f:St->Option R),
 (∀q,(pre++rest)[q]?=ops[i+q]?)->StR ι N st a->(∀o∈pre,o.guard=some (j,want)/\o.dst≠some d)->
 (∀(o:Oper),o.guard=some (j,want)->∀a':Act,a'.tmps.getD d undef=a.tmps.getD d undef->Region.wanted o (yielded ops a'.tmps)=false)->skipAll N pre st f=some r->
 (∀st' a',a'.defers=a.defers->StR ι N st' a'->f st'=some r->CoOE P ty Post main fn ops (List.range' (i+pre.length) rest.length) Q a' s w)->CoOE P ty Post main fn ops (List.range' i (pre++rest).length) Q a s w:=by
 intro pre
 induction pre with
 | nil=>intro i ι st a s w f _ hS _ _ e hk;exact hk st a rfl hS e
 | cons o pre ih=>
  intro i ι st a s w f hl hS hg hw e hk
  obtain ⟨hg1,hd1⟩:=hg o (by simp)
  have ho:ops[i]?=some o:=by simpa using (hl 0).symm
  rw [List.cons_append,List.length_cons,List.range'_succ]
  refine coe_no ho (hw o hg1 a rfl) ?_
  obtain ⟨st',hk2,hput⟩:=zaeh e
  refine ih (i+1) ι st' _ s w f (fun q=>by have:=hl (q+1);simpa [Nat.add_assoc,Nat.add_comm 1 q] using this) (hput hS ⟨#[],rfl,rfl⟩) (fun o ho=>hg o (by simp [ho])) (fun o ho a' ha'=>hw o ho a' (ha'.trans (zaia hd1))) hk2 fun st2 a2 hd2 hS2 hk3=>?_
  have:=hk st2 a2 (hd2.trans (zabb _ _ _)) hS2 hk3
  simpa [Nat.add_assoc,Nat.add_comm 1 pre.length] using this
def PostD (q:Bool) (ι:Inj) (h:H) (a:Act) (s:LG) (w:World) (N:Nat) (kn:K) (ke:Nat->K) (kr:K) (r:R):Out:=fun e a' s' w'=>
 ∃ι' st' h',ExtC q ι h s w ι' h' s' w'/\Rel ι' h' w'/\Cov ι' h' s'/\Fit s' w'/\StR ι' N st' a'/\a'.defers=a.defers /\
  match e with
  | .normal=>kn st' h'=some r
  | .exit i=>ke i st' h'=some r
  | .ret=>kr st' h'=some r
  | _=>False
theorem dOpsC (hΓ:CoSound P ty Post main fk0 Γ) (hpl:∀(i:Nat) (o:Oper),ops[i]?=some o->plainOp o=true) {kn:K} {ke:Nat->K} {kr:K} {all:List Oper} (hall:ops.toList=all) :
 ∀(n:Nat) (an:An) (l:List Oper) (i:Nat) (ι0:Inj) (h0:H) (a0:Act) (s0:LG) (w0:World) (ι:Inj) (st:St) (h:H) (a:Act) (s:LG) (w:World),(∀q,l[q]?=ops[i+q]?)->ExtC fk0.2 ι0 h0 s0 w0 ι h s w->a.defers=a0.defers->Rel ι h w->Cov ι h s->Fit s w->s.fk=fk0.1->StR ι N st a->
  dOps P Γ N all n an l st h kn=some r->CoOE P ty Post main fn ops (List.range' i l.length) (PostD fk0.2 ι0 h0 a0 s0 w0 N kn ke kr r) a s w:=by
 have nil:∀{ι0:Inj} {h0:H} {a0:Act} {s0:LG} {w0:World} {ι:Inj} {st:St} {h:H} {a:Act} {s:LG} {w:World},ExtC fk0.2 ι0 h0 s0 w0 ι h s w->a.defers=a0.defers->Rel ι h w->Cov ι h s->Fit s w->StR ι N st a->kn st h=some r->CoOE P ty Post main fn ops [] (PostD fk0.2 ι0 h0 a0 s0 w0 N kn ke kr r) a s w:=
  fun {ι0 h0 a0 s0 w0 ι st h a s w} hE hd hR hC hF hS e=>have q:PostD fk0.2 ι0 h0 a0 s0 w0 N kn ke kr r .normal a s w:=⟨ι,st,h,hE,hR,hC,hF,hS,hd,e⟩; ⟨co_nil q,_,_,_,_,q⟩
 intro n
 induction n with
 | zero=>
  intro an l i ι0 h0 a0 s0 w0 ι st h a s w hl hE hd hR hC hF hfk hS e
  cases l with
  | nil=>exact nil hE hd hR hC hF hS e
  | cons o rest=>cases e
 | succ n ih=>
  intro an l i ι0 h0 a0 s0 w0 ι st h a s w hl hE hd hR hC hF hfk hS e
  cases l with
  | nil=>exact nil hE hd hR hC hF hS e
  | cons o rest=>
   have ho:ops[i]?=some o:=by simpa using (hl 0).symm
   simp only [dOps] at e
   split at e
   · rename_i hg
     obtain ⟨st2,hS2,e⟩:∃st2,StR ι N st2 a/\(dOp P Γ o st2 h fun a h'=>putO N o.dst a st2 fun st'=>dOps P Γ N all n an.next rest st' h' kn)=some r:=by
      cases hc:an.cutK with
      | none=>rw [hc] at e;exact ⟨st,hS,e⟩
      | some ks=>rw [hc] at e;exact ⟨_,zaao hS ks,e⟩
     rw [List.length_cons,List.range'_succ]
     refine coe_op hΓ ho (hpl i o ho) (by simp [Region.wanted,hg]) hR hC hF hfk hS2 e fun x v ι' h' s' w' hE' hR' hC' hF' hV hk=>?_
     obtain ⟨st',hk',hput⟩:=zaeh hk
     exact ih an.next rest (i+1) ι0 h0 a0 s0 w0 ι' st' h' _ s' w' (fun q=>by have:=hl (q+1);simpa [Nat.add_assoc,Nat.add_comm 1 q] using this) (hE.trans hE') ((zabb _ _ _).trans hd) hR' hC' hF' (hE'.fk.trans hfk) (hput (hS2.mono hE'.le) hV) hk'
   · rename_i j want hg
     split at e
     · cases e
     rename_i d hdst
     obtain ⟨hall',e1⟩:=zaab e
     have hj:(ops[j]?).bind (·.dst)=some d:=by rw [<- hdst];subst hall;simp
     have hpre:∀o'∈(o::rest).takeWhile (sameG j want),o'.guard=some (j,want)/\o'.dst≠some d:=fun o' ho'=>by
      refine ⟨zapb (zad0 _ _ _ ho'),fun hd'=>?_⟩
      have:=List.all_eq_true.1 hall' o' ho'
      rw [hd'] at this
      simp at this
     have hsplit:(o::rest).takeWhile (sameG j want)++(o::rest).dropWhile (sameG j want)=o::rest:=List.takeWhile_append_dropWhile
     have hl2:∀q,((o::rest).takeWhile (sameG j want)++(o::rest).dropWhile (sameG j want))[q]?=ops[i+q]?:=fun q=>by rw [hsplit];exact hl q
     have hl3:∀q,((o::rest).dropWhile (sameG j want))[q]?=ops[i+((o::rest).takeWhile (sameG j want)).length+q]?:=fun q=>by
      have:=hl2 (((o::rest).takeWhile (sameG j want)).length+q)
      rw [List.getElem?_append_right (by omega)] at this
      rw [Nat.add_assoc, <- this];congr 1;omega
     rw [<- hsplit]
     split at e1
     · rcases zafg hj hS e1 with ⟨hw,e2⟩ | ⟨hw,e2⟩
       · refine runAllC hΓ hpl _ _ _ i ι st h a s w _ hl2 hR hC hF hfk hS hpre hw e2 fun ι' st' h' a' s' w' hE' hd' hR' hC' hF' hS' hk=>?_
         exact ih an.r _ _ ι0 h0 a0 s0 w0 ι' st' h' a' s' w' hl3 (hE.trans hE') (hd'.trans hd) hR' hC' hF' (hE'.fk.trans hfk) hS' hk
       · refine skipAllC _ _ _ i ι st a s w _ hl2 hS hpre hw e2 fun st' a' hd' hS' hk=>?_
         exact ih an.r _ _ ι0 h0 a0 s0 w0 ι st' h a' s w hl3 hE (hd'.trans hd) hR hC hF hfk hS' hk
     · rcases zafg hj hS e1 with ⟨hw,e2⟩ | ⟨hw,e2⟩
       · refine runAllC hΓ hpl _ _ _ i ι st h a s w _ hl2 hR hC hF hfk hS hpre hw e2 fun ι' st' h' a' s' w' hE' hd' hR' hC' hF' hS' hk=>?_
         exact ih an.r _ _ ι0 h0 a0 s0 w0 ι' _ h' a' s' w' hl3 (hE.trans hE') (hd'.trans hd) hR' hC' hF' (hE'.fk.trans hfk) (zaao hS' _) hk
       · refine skipAllC _ _ _ i ι st a s w _ hl2 hS hpre hw e2 fun st' a' hd' hS' hk=>?_
         exact ih an.r _ _ ι0 h0 a0 s0 w0 ι _ h a' s w hl3 hE (hd'.trans hd) hR hC hF hfk (zaao hS' _) hk
end
end Go.Co
namespace Go.Co
open Go Go.Conc Go.AI Go.RowKit
section
variable {P:Program} {ty:TypeId} {Post:Value->World->Prop} {main:Bool} {fk0:Option Fk} {fn:FuncId} {Γ:Env} {N m:Nat} {ops:Array Oper} {r:R}
variable (P ty Post main fn) in
def DxSoundC (S:AdmC) (ops:Array Oper) (N:Nat) (ι0:Inj) (h0:H) (s0:LG) (w0:World) (r:R) (dx:DX) (cl:Oper->Nat):Prop:=
 ∀(o:Oper) (ι:Inj) (h:H) (a:Act) (σ:SitD) (st:St) (k:AV->H->Option R),plainOp o=true->KnownC ι0 h0 s0 w0 ι h σ->OkS S σ->StR ι N st a->Region.wanted o (yielded ops a.tmps)=true->dx o st h k=some r->
  ∀(K:Act->SitD->Prop),(∀x v σ' ι' h',KnownC ι0 h0 s0 w0 ι' h' σ'->ι.le ι'->VR ι' x v->k x h'=some r->K (a.put o.dst v) σ')->stepC P ty Post main fn ops S (cl o) o K a σ
theorem DxSoundC.one (hΓ:CoSound P ty Post main (fk0,true) Γ) (hm:m=1\/m=2) {ι0:Inj} {h0:H} {s0:LG} {w0:World} (hfk:s0.fk=fk0):DxSoundC P ty Post main fn AdmC.all ops N ι0 h0 s0 w0 r (dOpX P Γ m) (clsOf P m):=
 fun o ι h a σ st k hp hR hO hS hw e K hk=>zahg hΓ hm hp hR hfk hO hS rfl hw e (fun _ _ _ _ _ _=>trivial) hk
theorem zan7 {S:AdmC} {c:Nat} {o:Oper} {a:Act} {σ:SitD} {K:Act->SitD->Prop} (hw:Region.wanted o (yielded ops a.tmps)=false) (hk:∀σ',GrC σ σ'->K (a.put o.dst undef) σ'):stepC P ty Post main fn ops S c o K a σ:=by
 unfold stepC
 split
 · exact ⟨undef,.inr ⟨hw,rfl⟩,hk⟩
 · split
   · exact ⟨undef,.inr ⟨hw,rfl⟩,hk⟩
   · split
     · exact .inr ⟨hw,hk⟩
     · exact .inr ⟨hw,hk⟩
theorem runAllXC {S:AdmC} {dx:DX} {cl:Oper->Nat} {cls:Nat->Nat} {ι0:Inj} {h0:H} {s0:LG} {w0:World} (hdx:DxSoundC P ty Post main fn S ops N ι0 h0 s0 w0 r dx cl) (hcls:∀(i:Nat) (o:Oper),ops[i]?=some o->cls i=cl o) (hpl:∀(i:Nat) (o:Oper),ops[i]?=some o->plainOp o=true) {j d:Nat} {want:Bool} (rest:List Oper) (Q:Act->SitD->Prop):∀(pre:List Oper) (i:Nat) (ι:Inj) (st:St) (h:H) (a:Act) (σ:SitD) (kn:K),
 (∀q,(pre++rest)[q]?=ops[i+q]?)->KnownC ι0 h0 s0 w0 ι h σ->OkS S σ->StR ι N st a->(∀o∈pre,o.guard=some (j,want)/\o.dst≠some d)->
 (∀(o:Oper),o.guard=some (j,want)->∀a':Act,a'.tmps.getD d undef=a.tmps.getD d undef->Region.wanted o (yielded ops a'.tmps)=true)->runAllX N dx pre st h kn=some r->
 (∀ι' st' h' a' σ',KnownC ι0 h0 s0 w0 ι' h' σ'->OkS S σ'->a'.defers=a.defers->StR ι' N st' a'->kn st' h'=some r->(wpXC P ty Post main fn ops) S cls Q (i+pre.length) rest a' σ')->(wpXC P ty Post main fn ops) S cls Q i (pre++rest) a σ:=by
 intro pre
 induction pre with
 | nil=>intro i ι st h a σ kn hl hR hO hS _ _ e hk;exact hk ι st h a σ hR hO rfl hS e
 | cons o pre ih=>
  intro i ι st h a σ kn hl hR hO hS hg hw e hk
  obtain ⟨hg1,hd1⟩:=hg o (by simp)
  have h0':ops[i]?=some o:=by simpa using (hl 0).symm
  have hst:=fun K hk=>hdx o ι h a σ st _ (hpl i o h0') hR hO hS (hw o hg1 a rfl) e K hk
  rw [<- hcls i o h0'] at hst
  refine hst _ fun x v σ' ι' h' hR' hle hV hk' hO'=>?_
  obtain ⟨st',hk2,hput⟩:=zaeh hk'
  refine ih (i+1) ι' st' h' _ σ' kn (fun q=>by have:=hl (q+1);simpa [Nat.add_assoc,Nat.add_comm 1 q] using this) hR' hO' (hput (hS.mono hle) hV) (fun o ho=>hg o (by simp [ho])) (fun o ho a' ha'=>hw o ho a' (ha'.trans (zaia hd1))) hk2 fun ι2 st2 h2 a2 σ2 hR2 hO2 hd2 hS2 hk3=>?_
  have:=hk ι2 st2 h2 a2 σ2 hR2 hO2 (hd2.trans (zabb _ _ _)) hS2 hk3
  simpa [Nat.add_assoc,Nat.add_comm 1 pre.length] using this
theorem skipAllXC {S:AdmC} {cls:Nat->Nat} {ι0:Inj} {h0:H} {s0:LG} {w0:World} {j d:Nat} {want:Bool} (rest:List Oper) (Q:Act->SitD->Prop):∀(pre:List Oper) (i:Nat) (ι:Inj) (st:St) (h:H) (a:Act) (σ:SitD) (f:St->Option R),
 KnownC ι0 h0 s0 w0 ι h σ->OkS S σ->StR ι N st a->(∀o∈pre,o.guard=some (j,want)/\o.dst≠some d)->
 (∀(o:Oper),o.guard=some (j,want)->∀a':Act,a'.tmps.getD d undef=a.tmps.getD d undef->Region.wanted o (yielded ops a'.tmps)=false)->skipAll N pre st f=some r->
 (∀st' a' σ',KnownC ι0 h0 s0 w0 ι h σ'->OkS S σ'->a'.defers=a.defers->StR ι N st' a'->f st'=some r->(wpXC P ty Post main fn ops) S cls Q (i+pre.length) rest a' σ')->(wpXC P ty Post main fn ops) S cls Q i (pre++rest) a σ:=by
 intro pre
 induction pre with
 | nil=>intro i ι st h a σ f hR hO hS _ _ e hk;exact hk st a σ hR hO rfl hS e
 | cons o pre ih=>
  intro i ι st h a σ f hR hO hS hg hw e hk
  obtain ⟨hg1,hd1⟩:=hg o (by simp)
  obtain ⟨st',hk2,hput⟩:=zaeh e
  refine zan7 (hw o hg1 a rfl) fun σ' hg' hO'=>?_
  refine ih (i+1) ι st' h _ σ' f (hR.grow hg') hO' (hput hS ⟨#[],rfl,rfl⟩) (fun o ho=>hg o (by simp [ho])) (fun o ho a' ha'=>hw o ho a' (ha'.trans (zaia hd1))) hk2 fun st2 a2 σ2 hR2 hO2 hd2 hS2 hk3=>?_
  have:=hk st2 a2 σ2 hR2 hO2 (hd2.trans (zabb _ _ _)) hS2 hk3
  simpa [Nat.add_assoc,Nat.add_comm 1 pre.length] using this
theorem dOpsXC {S:AdmC} {dx:DX} {cl:Oper->Nat} {cls:Nat->Nat} {all:List Oper} (hall:ops.toList=all) (Q:Act->SitD->Prop) (ι0:Inj) (h0:H) (a0:Act) (s0:LG) (w0:World) (hdx:DxSoundC P ty Post main fn S ops N ι0 h0 s0 w0 r dx cl) (hcls:∀(i:Nat) (o:Oper),ops[i]?=some o->cls i=cl o) (hpl:∀(i:Nat) (o:Oper),ops[i]?=some o->plainOp o=true) (kn:K)
 (hQ:∀ι st h a σ,KnownC ι0 h0 s0 w0 ι h σ->a.defers=a0.defers->StR ι N st a->kn st h=some r->Q a σ) :
 ∀(n:Nat) (an:An) (l:List Oper) (i:Nat) (ι:Inj) (st:St) (h:H) (a:Act) (σ:SitD),(∀q,l[q]?=ops[i+q]?)->KnownC ι0 h0 s0 w0 ι h σ->OkS S σ->a.defers=a0.defers->StR ι N st a->
  dOpsX N dx all n an l st h kn=some r->(wpXC P ty Post main fn ops) S cls Q i l a σ:=by
 intro n
 induction n with
 | zero=>
  intro an l i ι st h a σ hl hR hO hd hS e
  cases l with
  | nil=>exact hQ ι st h a σ hR hd hS e
  | cons o rest=>cases e
 | succ n ih=>
  intro an l i ι st h a σ hl hR hO hd hS e
  cases l with
  | nil=>exact hQ ι st h a σ hR hd hS e
  | cons o rest=>
   have ho:ops[i]?=some o:=by simpa using (hl 0).symm
   simp only [dOpsX] at e
   split at e
   · rename_i hg
     obtain ⟨st2,hS2,e⟩:∃st2,StR ι N st2 a/\(dx o st2 h fun a h'=>putO N o.dst a st2 fun st'=>dOpsX N dx all n an.next rest st' h' kn)=some r:=by
      cases hc:an.cutK with
      | none=>rw [hc] at e;exact ⟨st,hS,e⟩
      | some ks=>rw [hc] at e;exact ⟨_,zaao hS ks,e⟩
     have hst:=fun K hk=>hdx o ι h a σ st2 _ (hpl i o ho) hR hO hS2 (by simp [Region.wanted,hg]) e K hk
     rw [<- hcls i o ho] at hst
     refine hst _ fun x v σ' ι' h' hR' hle hV hk hO'=>?_
     obtain ⟨st',hk',hput⟩:=zaeh hk
     exact ih an.next rest (i+1) ι' st' h' _ σ' (fun q=>by have:=hl (q+1);simpa [Nat.add_assoc,Nat.add_comm 1 q] using this) hR' hO' ((zabb _ _ _).trans hd) (hput (hS2.mono hle) hV) hk'
   · rename_i j want hg
     split at e
     · cases e
     rename_i d hdst
     obtain ⟨hall',e1⟩:=zaab e
     have hj:(ops[j]?).bind (·.dst)=some d:=by rw [<- hdst];subst hall;simp
     have hpre:∀o'∈(o::rest).takeWhile (sameG j want),o'.guard=some (j,want)/\o'.dst≠some d:=fun o' ho'=>by
      refine ⟨zapb (zad0 _ _ _ ho'),fun hd'=>?_⟩
      have:=List.all_eq_true.1 hall' o' ho'
      rw [hd'] at this
      simp at this
     have hsplit:(o::rest).takeWhile (sameG j want)++(o::rest).dropWhile (sameG j want)=o::rest:=List.takeWhile_append_dropWhile
     have hl2:∀q,((o::rest).takeWhile (sameG j want)++(o::rest).dropWhile (sameG j want))[q]?=ops[i+q]?:=fun q=>by rw [hsplit];exact hl q
     have hl3:∀q,((o::rest).dropWhile (sameG j want))[q]?=ops[i+((o::rest).takeWhile (sameG j want)).length+q]?:=fun q=>by
      have:=hl2 (((o::rest).takeWhile (sameG j want)).length+q)
      rw [List.getElem?_append_right (by omega)] at this
      rw [Nat.add_assoc, <- this];congr 1;omega
     rw [<- hsplit]
     split at e1
     · cases e1
     · rcases zafg hj hS e1 with ⟨hw,e2⟩ | ⟨hw,e2⟩
       · refine runAllXC hdx hcls hpl _ Q _ i ι st h a σ _ hl2 hR hO hS hpre hw e2 fun ι' st' h' a' σ' hR' hO' hd' hS' hk=>?_
         exact ih an.r _ _ ι' _ h' a' σ' hl3 hR' hO' (hd'.trans hd) (zaao hS' _) hk
       · refine skipAllXC _ Q _ i ι st h a σ _ hR hO hS hpre hw e2 fun st' a' σ' hR' hO' hd' hS' hk=>?_
         exact ih an.r _ _ ι _ h a' σ' hl3 hR' hO' (hd'.trans hd) (zaao hS' _) hk
def SWC (ι0:Inj) (Ws:List (Nat×List AV)) (w:World) (s:LG):Prop:=SW ι0 Ws w/\∀p∈Ws,∀B o z,ι0 p.1=some (B,o,z)->s.own B\/s.ro B
def AdmC.watch (ι0:Inj) (Ws:List (Nat×List AV)):AdmC:=⟨SWC ι0 Ws,fun σ σ' hs g=>by
 refine ⟨fun p hp B o sz e=>?_,fun p hp B o z e=>?_⟩
 · obtain ⟨c,t,fr,h1,h2⟩:=hs.1 p hp B o sz e
   exact ⟨c,t,fr,(g.keep B (hs.2 p hp B o sz e)).trans h1,h2⟩
 · obtain ⟨M,_,_,h3⟩:=g.new
   rw [h3];exact (hs.2 p hp B o z e).imp .inl id⟩
theorem DxSoundC.three (hΓ:CoSound P ty Post main (fk0,true) Γ) {ι0:Inj} {h0:H} {s0:LG} {w0:World} (hr:Rel ι0 h0 w0) (hc0:Cov ι0 h0 s0) (hfk:s0.fk=fk0) {Ws:List (Nat×List AV)} (hW:∀p∈Ws,∃fl,h0.get p.1 = .cells fl p.2) :
 DxSoundC P ty Post main fn (AdmC.watch ι0 Ws) ops N ι0 h0 s0 w0 r (dOpX3 P Γ Ws) (cls3 P):=by
 intro o ι h a σ st k hpo hR hO hS hw e K hk
 have rest:cls3 P o=clsOf P 2 o->(dOpX P Γ 2 o st h fun a h'=>bc (okW Ws h') (k a h') none)=some r->stepC P ty Post main fn ops (AdmC.watch ι0 Ws) (cls3 P o) o K a σ:=fun hc e=>by
  rw [hc]
  refine zahg hΓ (.inr rfl) hpo hR hfk hO hS rfl hw e (fun x σ' ι' h' hK hk'=>?_) fun x v σ' ι' h' hK hle hV hk'=>?_
  · obtain ⟨ho,_⟩:=zaab hk'
    exact ⟨SW.of hK.rel hK.ext.le (SW.vals hr hW) (zaka ho),fun p hp B o z e=>hK.cov.all _ _ _ _ (hK.ext.le _ _ e)⟩
  · obtain ⟨_,hk2⟩:=zaab hk'
    exact hk x v σ' ι' h' hK hle hV hk2
 unfold dOpX3 at e
 split at e
 · rename_i t x ho
   cases hwt:watT P t with
   | false=>
    rw [hwt] at e
    exact rest (by simp [cls3,ho,hwt]) e
   | true=>
   rw [hwt] at e
   have hc:cls3 P o=0:=by simp [cls3,ho,hwt]
   have hag:=zant hwt
   rw [hc]
   unfold stepC
   rw [if_pos rfl]
   have hxv:=hS.ev x
   have e:aLoadW Ws (ev st x) h k=some r:=e
   generalize hX:ev st x=X at e hxv
   cases X using AV.casesE <;> try (cases e;done)
   rename_i b q
   obtain ⟨l,hl,e1⟩:=zagy (show findW Ws b (fun l=>onSome (nthO l q) fun a=>bc (wat a) (k a h) none)=some r from e)
   obtain ⟨y,hy,e2⟩:=zaay e1
   obtain ⟨hyw,e3⟩:=zaab e2
   rw [zadr] at hy
   obtain ⟨fl,hb⟩:=hW _ hl
   obtain ⟨B,base,sz,ib0,hBR⟩:=hr.blk b (by rw [hb];simp)
   rw [hb] at hBR
   obtain ⟨c0,t0,lo,hi,g1,g2,g3,_⟩:=hBR
   obtain ⟨v,v1,v2⟩:=g3 q y hy
   obtain ⟨B',base',sz',ib,ex⟩:=hxv.ptr
   rw [hR.ext.le _ _ ib0] at ib;cases ib
   have run:∀w' s',SWC ι0 Ws w' s'->(execOp a.eval o).run P w' = .ok (.value v) w':=fun w' s' hs=>by
    obtain ⟨c,t1,fr,k1,k2⟩:=hs.1 _ hl B base sz ib0
    obtain ⟨v',k3,k4⟩:=k2 q y hy hyw
    obtain rfl:=zark hyw v2 k4
    obtain ⟨lo',hi'⟩:=fr
    have hcell:w'.cell? ⟨B,base+q,none⟩=some v:=by rw [zadn k1];exact k3
    simp [execOp,ho,ex,Instr.loadAt,Instr.sureAddr,loadVar,zabm hag,hcell]
   refine ⟨v,.inl ⟨hw,fun w' s' hs hbusy=>⟨run w' s' hs,?_⟩⟩,fun σ' g=>hk y v σ' ι h (hR.grow g) (.refl _) (v2.mono hR.ext.le) e3⟩
   obtain ⟨c,t1,fr,k1,k2⟩:=hs.1 _ hl B base sz ib0
   have hcf:Cf P (fun C=>C=B) (fun _=>False) (execOp a.eval o):=by
    unfold execOp;simp only [ho]
    exact Cf.val (zafi (fun a' e'=>by rw [ex] at e';cases e';rfl) fun _=>trivial)
   refine zac3 hcf (fun C hC=>?_) (fun _ h=>h.elim) (run w' s' hs) hbusy (fun C hC=>by rw [hC];exact hs.2 _ hl B base sz ib0) (fun _ h=>h.elim)
   subst hC
   refine ⟨(Array.getElem?_eq_some_iff.1 k1).1,fun ob hob=>?_⟩
   rw [k1] at hob;cases hob;rfl
 · rename_i hno
   refine rest ?_ e
   unfold cls3;split
   · rename_i t x ho;exact absurd ho (hno t x)
   · rfl
end
end Go.Co
namespace Go.Co
open Go Go.Conc Go.AI Go.RowKit
section
variable {P:Program} {ty:TypeId} {Post:Value->World->Prop} {main:Bool} {fk0:Option Fk×Bool} {fn:FuncId} {Γ:Env} {N m:Nat} {ops:Array Oper} {r:R}
def noVal (o:Oper):Bool:=match o.op with | .call c=>(match c.callee with | .builtin _=>true | _=>false) | _=>true
def codeOk (P:Program) (q:Bool):Code->Bool
 | .region _ ops draw=>ops.toList.all plainOp && (!draw || ((lexX .any ops (clsAt P 2 ops) || (use3 P ops || use1 P ops)) && (q || ops.toList.all noVal)))
 | .seq a b=>codeOk P q a && codeOk P q b
 | .cond _ a b=>codeOk P q a && codeOk P q b
 | .block _ a=>codeOk P q a
 | .loop a=>codeOk P q a
 | .scope a=>codeOk P q a
 | _=>true
theorem zasq {ops:Array Oper} (h:ops.toList.all plainOp=true) (i:Nat) (o:Oper) (ho:ops[i]?=some o):plainOp o=true:=
 List.all_eq_true.1 h o (by rw [<- Array.getElem?_toList] at ho;exact List.mem_of_getElem? ho)
theorem ExtC.same {q:Bool} {ι:Inj} {h:H} {s:LG} {w:World} (hR:Rel ι h w) (hC:Cov ι h s):ExtC q ι h s w ι h s w:=ExtC.weak <| ExtC.grow (σ:=⟨w,fun _=>False,s⟩) (σ':=⟨w,fun _=>False,s⟩) hR hC (.refl _)
theorem zalx {S:AdmC} {cls:Nat->Nat} {Q:Act->SitD->Prop}:∀(l:List Oper) (k:Nat) (a:Act) (σ:SitD),OkS S σ->wpXC P ty Post main fn ops S cls Q k l a σ->∃a' σ',Q a' σ'/\OkS S σ'
 | [],k,a,σ,hO,h=>⟨a,σ,h,hO⟩
 | o::l,k,a,σ,hO,h=>by
  obtain ⟨v,σ',h1,h2⟩:=zaez hO h
  exact zalx l (k+1) _ σ' h2 (h1 h2)
theorem zar6 {c:Code} {Q:Out} (I:Nat->Act->LG->World->Prop) (round:∀n a s w,I n a s w->CoE P ty Post main fn c (Out.seq (fun a s w=>∃m,m<n/\I m a s w) Q) a s w) {n:Nat} {a:Act} {s:LG} {w:World} (h0:I n a s w):CoE P ty Post main fn (.loop c) Q a s w:=by
 refine ⟨zai4 I (fun n a s w h=>(round n a s w h).1) h0,?_⟩
 induction n using Nat.strongRecOn generalizing a s w with
 | ind n ih=>
  obtain ⟨e,a',s',w',q⟩:=(round n a s w h0).2
  cases e with
  | normal=>have q:∃m,m<n/\I m a' s' w':=q;obtain ⟨m,hm,q⟩:=q;exact ih m hm q
  | exit id=>exact ⟨.exit id,_,_,_,q⟩
  | ret=>exact ⟨.ret,_,_,_,q⟩
  | goto l=>exact ⟨.goto l,_,_,_,q⟩
  | panic ch=>exact ⟨.panic ch,_,_,_,q⟩
  | outgrown=>exact ⟨.outgrown,_,_,_,q⟩
theorem PostD.trans {q:Bool} {ι ι':Inj} {h h':H} {a a':Act} {s s':LG} {w w':World} {kn:K} {ke:Nat->K} {kr:K} (hE:ExtC q ι h s w ι' h' s' w') (hd:a'.defers=a.defers) {e:Exit} {b:Act} {t:LG} {v:World}
 (hp:PostD q ι' h' a' s' w' N kn ke kr r e b t v):PostD q ι h a s w N kn ke kr r e b t v:=by
 obtain ⟨ι2,st2,h2,e1,e2,e3,e4,e5,e6,e7⟩:=hp
 exact ⟨ι2,st2,h2,hE.trans e1,e2,e3,e4,e5,e6.trans hd,e7⟩
theorem zanu {S:AdmC} {cls:Nat->Nat} {dx:DX} {cl:Oper->Nat} {id:Nat} {an:An} {st:St} {h:H} {kn:K} {ke:Nat->K} {kr:K} {ι:Inj} {a:Act} {s:LG} {w:World} (hm:P.follows .mixedOrders=true) (hB:lexX .any ops cls=true) (hpl:∀(i:Nat) (o:Oper),ops[i]?=some o->plainOp o=true)
 (hR:Rel ι h w) (hC:Cov ι h s) (hF:Fit s w) (hS:StR ι N st a) (hdx:∀w₁,Rely ty s w w₁->DxSoundC P ty Post main fn S ops N ι h s w r dx cl) (hSS:∀w₁,Rely ty s w w₁->S.1 w₁.drew s) (hcls:∀(i:Nat) (o:Oper),ops[i]?=some o->cls i=cl o)
 (e:dOpsX N dx ops.toList ops.toList.length an ops.toList st h kn=some r):CoE P ty Post main fn (.region id ops true) (PostD true ι h a s w N kn ke kr r) a s w:=by
 let Q:Act->SitD->Prop:=fun a' σ=>∃ι' st' h',KnownC ι h s w ι' h' σ/\StR ι' N st' a'/\a'.defers=a.defers/\kn st' h'=some r
 have hQ:∀a σ σ',Q a σ->GrC σ σ'->Q a σ':=fun a σ σ' ⟨ι',st',h',q1,q2,q3,q4⟩ g=>⟨ι',st',h',q1.grow g,q2,q3,q4⟩
 have hQ':∀a' σ,OkS S σ->Q a' σ->PostD true ι h a s w N kn ke kr r .normal a' σ.s σ.w:=fun a' σ hO ⟨ι',st',h',q1,q2,q3,q4⟩=>⟨ι',st',h',q1.ext,q1.rel,q1.cov,Fit.of hO,q2,q3,q4⟩
 have go:∀w₁,Rely ty s w w₁->OkS S ⟨w₁.drew,fun _=>False,s⟩/\wpXC P ty Post main fn ops S cls Q 0 ops.toList a ⟨w₁.drew,fun _=>False,s⟩:=fun w₁ rl=>by
  have hR1:=zadj hR hC rl
  have hF1:=hF.rely rl
  have hO:OkS S ⟨w₁.drew,fun _=>False,s⟩:=⟨fun _ h=>h.elim,hF1.apart,hF1.lt,hF1.busy,hSS w₁ rl⟩
  have g:GrC ⟨w₁,fun _=>False,s⟩ ⟨w₁.drew,fun _=>False,s⟩:=⟨rfl,rfl,rfl,Nat.le_refl _,fun _ _=>rfl,fun _=>False,fun _ h=>h.elim,orF.symm,(LG.add_none _).symm⟩
  have hK:KnownC ι h s w ι h ⟨w₁.drew,fun _=>False,s⟩:=⟨(ExtC.rely hR hC rl).trans (ExtC.grow hR1 hC g),hR1.drew,hC,fun _ _ _ _ _ h=>h,fun _ h=>h.elim⟩
  exact ⟨hO,dOpsXC rfl Q ι h a s w (hdx w₁ rl) hcls hpl kn (fun ι' st' h' a' σ' hK hd hS' hk=>⟨ι',st',h',hK,hS',hd,hk⟩) _ _ _ 0 ι st h a _ (by simp) hK hO rfl hS e⟩
 refine ⟨zamk hm hB hQ hQ' go,?_⟩
 obtain ⟨hO,hx⟩:=go w (.refl _ _)
 obtain ⟨a',σ',q1,q2⟩:=zalx _ _ _ _ hO hx
 exact ⟨_,_,_,_,hQ' a' σ' q2 q1⟩
theorem zag9 {F:Nat} {f0:Option Fk} (hΓ:CoSound P ty Post main (f0,true) Γ) {id:Nat} (hpl:∀(i:Nat) (o:Oper),ops[i]?=some o->plainOp o=true) (hok:(lexX .any ops (clsAt P 2 ops) || (use3 P ops || use1 P ops))=true)
 {an:An} {st:St} {h:H} {kn:K} {ke:Nat->K} {kr:K} {ι:Inj} {a:Act} {s:LG} {w:World} (e:den P Γ N F (.region id ops true) an st h kn ke kr=some r) (hR:Rel ι h w) (hC:Cov ι h s) (hF:Fit s w) (hfk:s.fk=f0) (hS:StR ι N st a) :
 CoE P ty Post main fn (.region id ops true) (PostD true ι h a s w N kn ke kr r) a s w:=by
 obtain ⟨hm,e⟩:=zaab (c:=P.follows .mixedOrders) e
 have go:∀m,(m=1\/m=2)->lexX .any ops (clsAt P m ops)=true->dOpsX N (dOpX P Γ m) ops.toList ops.toList.length an ops.toList st h kn=some r->CoE P ty Post main fn (.region id ops true) (PostD true ι h a s w N kn ke kr r) a s w:=fun m hm1 hB e=>
  zanu (S:=AdmC.all) hm hB hpl hR hC hF hS (fun _ _=>DxSoundC.one hΓ hm1 hfk) (fun _ _=>trivial) (fun i o ho=>by unfold clsAt;rw [ho]) e
 cases hB2:lexX .any ops (clsAt P 2 ops) with
 | true=>rw [hB2,bc_true] at e;exact go 2 (.inr rfl) hB2 e
 | false=>
  rw [hB2,zaag] at e
  cases hB3:use3 P ops with
  | true=>
   rw [hB3,bc_true] at e
   have hB3':lexX .any ops (clsAt3 P ops)=true:=by
    unfold use3 at hB3
    simp only [Bool.and_eq_true] at hB3
    exact hB3.1.2
   obtain ⟨Ws,hWs,hW⟩:∃Ws,(bif intLoads P ops.toList then watch h ((watOps ops.toList).map (ev st)) else watchN h 2 ((watOpsL ops.toList).map (ev st)))=Ws/\∀p∈Ws,∃fl,h.get p.1 = .cells fl p.2:=by
    refine ⟨_,rfl,?_⟩
    cases intLoads P ops.toList with
    | true=>exact zaj3 _
    | false=>rw [cond_false];exact zahq _ _
   rw [hWs] at e
   refine zanu (S:=AdmC.watch ι Ws) hm hB3' hpl hR hC hF hS (fun _ _=>DxSoundC.three hΓ hR hC hfk hW) (fun w₁ rl=>⟨?_,fun p hp B o z e=>hC.all _ _ _ _ e⟩) (fun i o ho=>by unfold clsAt3;rw [ho]) e
   exact SW.of (zadj hR hC rl).drew (.refl _) (SW.vals hR hW) fun p hp=>by obtain ⟨fl,hb⟩:=hW p hp;exact ⟨fl,_,hb,zaj4 _⟩
  | false=>
   rw [hB3,zaag] at e
   have hB1:use1 P ops=true:=by
    have:=hok
    rw [hB2,hB3] at this
    simpa using this
   rw [hB1,bc_true] at e
   unfold use1 at hB1
   simp only [Bool.and_eq_true] at hB1
   exact go 1 (.inl rfl) hB1.1 e
theorem isB_of {o:Oper} (h:noVal o=true):isB o:=fun c ho=>by
 unfold noVal at h
 rw [ho] at h
 dsimp only at h
 cases hc:c.callee with
 | builtin b=>exact ⟨b,rfl⟩
 | value f=>rw [hc] at h;cases h
 | invoke f n=>rw [hc] at h;cases h
theorem zake {m:Nat} {o:Oper} (hB:isB o) (Γ Γ':Env):dOpX P Γ m o=dOpX P Γ' m o:=by
 funext st h k
 unfold dOpX
 rw [zale hB Γ']
 congr 1
 unfold dOpQ
 split
 · rename_i c ho
   obtain ⟨b,hb⟩:=hB c ho
   rw [hb]
   dsimp only
   rw [zale hB Γ']
 · rw [zale hB Γ']
theorem zap3 {Ws:List (Nat×List AV)} {o:Oper} (hB:isB o) (Γ Γ':Env):dOpX3 P Γ Ws o=dOpX3 P Γ' Ws o:=by
 funext st h k
 unfold dOpX3
 rw [zake hB Γ Γ']
theorem zaft {dx dx':DX}:∀(l:List Oper) (st:St) (h:H) (kn:K),(∀o∈l,dx o=dx' o)->runAllX N dx l st h kn=runAllX N dx' l st h kn
 | [],_,_,_,_=>rfl
 | o::l,st,h,kn,he=>by
  simp only [runAllX]
  rw [he o (by simp)]
  congr 1;funext a h';congr 1;funext st'
  exact zaft l st' h' kn fun o ho=>he o (by simp [ho])
theorem zacr {dx dx':DX} {all:List Oper}:∀(n:Nat) (an:An) (l:List Oper) (st:St) (h:H) (kn:K),(∀o∈l,dx o=dx' o)->dOpsX N dx all n an l st h kn=dOpsX N dx' all n an l st h kn
 | 0,_,[],_,_,_,_=>rfl
 | 0,_,_::_,_,_,_,_=>rfl
 | _+1,_,[],_,_,_,_=>rfl
 | n+1,an,o::rest,st,h,kn,he=>by
  have ho:=he o (by simp)
  have hr:∀o'∈rest,dx o'=dx' o':=fun o' h'=>he o' (by simp [h'])
  have hT:∀p:Oper->Bool,∀o'∈(o::rest).takeWhile p,dx o'=dx' o':=fun p o' h'=>he o' ((List.takeWhile_sublist p).subset h')
  have hD:∀p:Oper->Bool,∀o'∈(o::rest).dropWhile p,dx o'=dx' o':=fun p o' h'=>he o' ((List.dropWhile_sublist p).subset h')
  simp only [dOpsX]
  split
  · split
    · rw [ho];congr 1;funext a h';congr 1;funext st';exact zacr n _ _ _ _ _ hr
    · rw [ho];congr 1;funext a h';congr 1;funext st';exact zacr n _ _ _ _ _ hr
  · split
    · rfl
    · rename_i j want _ _ _ _
      congr 1
      split
      · rfl
      · rename_i ks _
        have hf:∀(vs:List AV) (h:H),dOpsX N dx all n an.r ((o::rest).dropWhile (sameG j want)) (mkSt ks vs) h kn=dOpsX N dx' all n an.r ((o::rest).dropWhile (sameG j want)) (mkSt ks vs) h kn:=fun vs h=>zacr n _ _ _ _ _ (hD _)
        rw [zaft _ _ _ _ (hT _)]
        simp only [hf]
theorem zakr {F:Nat} {Γ':Env} {id:Nat} (hv:ops.toList.all noVal=true) (hok:(lexX .any ops (clsAt P 2 ops) || (use3 P ops || use1 P ops))=true) {an:An} {st:St} {h:H} {kn:K} {ke:Nat->K} {kr:K}
 (e:den P Γ N F (.region id ops true) an st h kn ke kr=some r):den P Γ' N F (.region id ops true) an st h kn ke kr=some r:=by
 obtain ⟨hm,e⟩:=zaab (c:=P.follows .mixedOrders) e
 have hb:∀o∈ops.toList,isB o:=fun o ho=>isB_of (List.all_eq_true.1 hv o ho)
 show bc true (bc (P.follows .mixedOrders) _ none) _=some r
 rw [bc_true,hm,bc_true]
 cases hB2:lexX .any ops (clsAt P 2 ops) with
 | true=>rw [hB2,bc_true] at e;rw [bc_true, <- zacr _ _ _ _ _ _ fun o ho=>zake (hb o ho) Γ Γ'];exact e
 | false=>
  rw [hB2,zaag] at e
  rw [zaag]
  cases hB3:use3 P ops with
  | true=>
   rw [hB3,bc_true] at e
   rw [bc_true]
   refine Eq.trans ?_ e
   exact (zacr _ _ _ _ _ _ fun o ho=>zap3 (hb o ho) Γ Γ').symm
  | false=>
   rw [hB3,zaag] at e
   rw [zaag]
   have hB1:use1 P ops=true:=by
    have:=hok
    rw [hB2,hB3] at this
    simpa using this
   rw [hB1,bc_true] at e
   rw [hB1,bc_true, <- zacr _ _ _ _ _ _ fun o ho=>zake (hb o ho) Γ Γ'];exact e
theorem PostD.weak {q:Bool} {ι:Inj} {h:H} {a a':Act} {s s':LG} {w w':World} {kn:K} {ke:Nat->K} {kr:K} {e:Exit} (hp:PostD true ι h a s w N kn ke kr r e a' s' w'):PostD q ι h a s w N kn ke kr r e a' s' w':=by
 obtain ⟨ι',st',h',h1,h2⟩:=hp
 exact ⟨ι',st',h',h1.weak,h2⟩
theorem zars {F:Nat} (hΓ:CoSound P ty Post main fk0 Γ) {id:Nat} (hpl:∀(i:Nat) (o:Oper),ops[i]?=some o->plainOp o=true) (hok:(lexX .any ops (clsAt P 2 ops) || (use3 P ops || use1 P ops))=true) (hq:(fk0.2 || ops.toList.all noVal)=true)
 {an:An} {st:St} {h:H} {kn:K} {ke:Nat->K} {kr:K} {ι:Inj} {a:Act} {s:LG} {w:World} (e:den P Γ N F (.region id ops true) an st h kn ke kr=some r) (hR:Rel ι h w) (hC:Cov ι h s) (hF:Fit s w) (hfk:s.fk=fk0.1) (hS:StR ι N st a) :
 CoE P ty Post main fn (.region id ops true) (PostD fk0.2 ι h a s w N kn ke kr r) a s w:=by
 obtain ⟨f0,q⟩:=fk0
 cases q with
 | true=>exact zag9 hΓ hpl hok e hR hC hF hfk hS
 | false=>exact (zag9 (Γ:=fun _ _ _=>none) (f0:=f0) (fun _ _ _ _ e=>by cases e) hpl hok (zakr hq hok e) hR hC hF hfk hS).mono fun _ _ _ _ hp=>hp.weak
theorem zaga {F:Nat} (hΓ:CoSound P ty Post main fk0 Γ):∀(c:Code) (an:An) (st:St) (h:H) (kn:K) (ke:Nat->K) (kr:K) (r:R),codeOk P fk0.2 c=true->den P Γ N F c an st h kn ke kr=some r->
 ∀(ι:Inj) (a:Act) (s:LG) (w:World),Rel ι h w->Cov ι h s->Fit s w->s.fk=fk0.1->StR ι N st a->CoE P ty Post main fn c (PostD fk0.2 ι h a s w N kn ke kr r) a s w:=by
 intro c
 induction c with
 | skip=>
  intro an st h kn ke kr r _ e ι a s w hR hC hF hfk hS
  exact zasj ⟨ι,st,h,.same hR hC,hR,hC,hF,hS,rfl,e⟩
 | region id ops draw=>
  intro an st h kn ke kr r hok e ι a s w hR hC hF hfk hS
  have hok:(ops.toList.all plainOp && (!draw || ((lexX .any ops (clsAt P 2 ops) || (use3 P ops || use1 P ops)) && (fk0.2 || ops.toList.all noVal))))=true:=hok
  simp only [Bool.and_eq_true] at hok
  have hpl:=zasq hok.1
  cases draw with
  | true=>
   have hm2:((lexX .any ops (clsAt P 2 ops) || (use3 P ops || use1 P ops)) && (fk0.2 || ops.toList.all noVal))=true:=by simpa using hok.2
   simp only [Bool.and_eq_true] at hm2
   exact zars hΓ hpl hm2.1 hm2.2 e hR hC hF hfk hS
  | false=>
   have:=dOpsC (ty:=ty) (Post:=Post) (main:=main) (fn:=fn) (ke:=ke) (kr:=kr) hΓ hpl rfl _ _ _ 0 ι h a s w ι st h a s w (by simp) (.same hR hC) rfl hR hC hF hfk hS e
   refine ⟨zaav ?_,this.2⟩
   have h1:=this.1
   rw [Array.length_toList, <- List.range_eq_range'] at h1
   exact h1
 | seq x y ihx ihy=>
  intro an st h kn ke kr r hok e ι a s w hR hC hF hfk hS
  have hok:(codeOk P fk0.2 x && codeOk P fk0.2 y)=true:=hok
  simp only [Bool.and_eq_true] at hok
  refine zauf ?_
  simp only [den] at e
  split at e
  · refine (ihx _ _ _ _ _ _ _ hok.1 e ι a s w hR hC hF hfk hS).mono fun ex a1 s1 w1 hp=>?_
    obtain ⟨ι1,st1,h1,hE,hR1,hC1,hF1,hS1,hd,hk⟩:=hp
    cases ex with
    | normal=>exact (ihy _ _ _ _ _ _ _ hok.2 hk ι1 a1 s1 w1 hR1 hC1 hF1 (hE.fk.trans hfk) hS1).mono fun ex2 a2 s2 w2 hp2=>PostD.trans hE hd hp2
    | exit i=>exact ⟨ι1,st1,h1,hE,hR1,hC1,hF1,hS1,hd,hk⟩
    | ret=>exact ⟨ι1,st1,h1,hE,hR1,hC1,hF1,hS1,hd,hk⟩
    | goto l=>exact hk.elim
    | panic c=>exact hk.elim
    | outgrown=>exact hk.elim
  · refine (ihx _ _ _ _ _ _ _ hok.1 e ι a s w hR hC hF hfk hS).mono fun ex a1 s1 w1 hp=>?_
    obtain ⟨ι1,st1,h1,hE,hR1,hC1,hF1,hS1,hd,hk⟩:=hp
    cases ex with
    | normal=>exact (ihy _ _ _ _ _ _ _ hok.2 hk ι1 a1 s1 w1 hR1 hC1 hF1 (hE.fk.trans hfk) (zaao hS1 _)).mono fun ex2 a2 s2 w2 hp2=>PostD.trans hE hd hp2
    | exit i=>exact ⟨ι1,st1,h1,hE,hR1,hC1,hF1,hS1,hd,hk⟩
    | ret=>exact ⟨ι1,st1,h1,hE,hR1,hC1,hF1,hS1,hd,hk⟩
    | goto l=>exact hk.elim
    | panic c=>exact hk.elim
    | outgrown=>exact hk.elim
 | cond c x y ihx ihy=>
  intro an st h kn ke kr r hok e ι a s w hR hC hF hfk hS
  have hok:(codeOk P fk0.2 x && codeOk P fk0.2 y)=true:=hok
  simp only [Bool.and_eq_true] at hok
  obtain ⟨t,ht,e1⟩:=zadz e
  have hv:=hS.ev c
  rw [ht] at hv
  refine zar1 hv.bool ?_
  cases t with
  | true=>exact ihx _ _ _ _ _ _ _ hok.1 e1 ι a s w hR hC hF hfk hS
  | false=>exact ihy _ _ _ _ _ _ _ hok.2 e1 ι a s w hR hC hF hfk hS
 | block id x ih=>
  intro an st h kn ke kr r hok e ι a s w hR hC hF hfk hS
  refine zapv ((ih _ _ _ _ _ _ _ hok e ι a s w hR hC hF hfk hS).mono fun ex a1 s1 w1 hp=>?_)
  obtain ⟨ι1,st1,h1,hE,hR1,hC1,hF1,hS1,hd,hk⟩:=hp
  cases ex with
  | normal=>exact ⟨ι1,st1,h1,hE,hR1,hC1,hF1,hS1,hd,hk⟩
  | exit i=>
   simp only [Out.block]
   by_cases hi:i=id
   · subst hi
     rw [if_pos rfl]
     simp only [Nat.beq_refl,bc_true] at hk
     exact ⟨ι1,st1,h1,hE,hR1,hC1,hF1,hS1,hd,hk⟩
   · rw [if_neg hi]
     have:Nat.beq i id=false:=by rw [beq_decide];simpa using hi
     simp only [this,zaag] at hk
     exact ⟨ι1,st1,h1,hE,hR1,hC1,hF1,hS1,hd,hk⟩
  | ret=>exact ⟨ι1,st1,h1,hE,hR1,hC1,hF1,hS1,hd,hk⟩
  | goto l=>exact hk.elim
  | panic c=>exact hk.elim
  | outgrown=>exact hk.elim
 | loop x ih=>
  intro an st h kn ke kr r hok e ι a s w hR hC hF hfk hS
  simp only [den] at e
  split at e
  case h_1=>cases e
  rename_i ks hks
  refine zar6 (fun n a' s' w'=>∃ι' vs h',loopD n (fun vs h kc=>den P Γ N F x an.l (mkSt ks vs) h (fun st h=>kc (ks.map (get st)) h) ke kr) vs h'=some r/\ExtC fk0.2 ι h s w ι' h' s' w'/\Rel ι' h' w'/\Cov ι' h' s'/\Fit s' w'/\StR ι' N (mkSt ks vs) a'/\a'.defers=a.defers)
   (fun n a' s' w' hI=>?_) ⟨ι,_,h,e,.same hR hC,hR,hC,hF,zaao hS ks,rfl⟩
  obtain ⟨ι',vs,h',e',hE,hR',hC',hF',hS',hd'⟩:=hI
  cases n with
  | zero=>cases e'
  | succ n=>
   rw [zabx] at e'
   refine (ih _ _ _ _ _ _ _ hok e' ι' a' s' w' hR' hC' hF' (hE.fk.trans hfk) hS').mono fun ex a1 s1 w1 hp=>?_
   obtain ⟨ι1,st1,h1,hE1,hR1,hC1,hF1,hS1,hd1,hk⟩:=hp
   cases ex with
   | normal=>exact ⟨n,Nat.lt_succ_self n,ι1,_,h1,hk,hE.trans hE1,hR1,hC1,hF1,zaao hS1 _,hd1.trans hd'⟩
   | exit i=>exact ⟨ι1,st1,h1,hE.trans hE1,hR1,hC1,hF1,hS1,hd1.trans hd',hk⟩
   | ret=>exact ⟨ι1,st1,h1,hE.trans hE1,hR1,hC1,hF1,hS1,hd1.trans hd',hk⟩
   | goto l=>exact hk.elim
   | panic c=>exact hk.elim
   | outgrown=>exact hk.elim
 | rangeFunc f ps x y _ _=>intro an st h kn ke kr r _ e;cases e
 | exit id=>
  intro an st h kn ke kr r _ e ι a s w hR hC hF hfk hS
  exact zarv ⟨ι,st,h,.same hR hC,hR,hC,hF,hS,rfl,e⟩
 | scope x ih=>
  intro an st h kn ke kr r hok e ι a s w hR hC hF hfk hS
  exact zaqr (ih _ _ _ _ _ _ _ hok e ι a s w hR hC hF hfk hS)
 | label l=>
  intro an st h kn ke kr r _ e ι a s w hR hC hF hfk hS
  exact zap8 ⟨ι,st,h,.same hR hC,hR,hC,hF,hS,rfl,e⟩
 | goto l=>intro an st h kn ke kr r _ e;cases e
 | ret=>
  intro an st h kn ke kr r _ e ι a s w hR hC hF hfk hS
  exact zate ⟨ι,st,h,.same hR hC,hR,hC,hF,hS,rfl,e⟩
 | refuse why=>intro an st h kn ke kr r _ e;cases e
end
end Go.Co
namespace Go.Co
open Go Go.Conc Go.AI Go.RowKit
section
variable {P:Program} {ty:TypeId} {Post:Value->World->Prop} {main:Bool} {fk0:Option Fk×Bool} {Γ:Env} {N:Nat}
theorem zals {A W:NB} (tmps:Array Value) (g:ResultVar->Sem Value) (hg:∀t,g (.tmp t)=pure (tmps.getD t undef)):∀(ts:List Nat) {K:NB->NB->List Value->Prop},(∀v,K A W v)->conf P A W ((ts.map ResultVar.tmp).mapM g) K
 | [],K,hk=>by rw [List.map_nil,List.mapM_nil];exact zaac.2 (hk _)
 | t::ts,K,hk=>by
  rw [List.map_cons,List.mapM_cons,hg]
  exact zaaa.2 (zaac.2 (zaaa.2 (zals tmps g hg ts fun v=>zaac.2 (hk _))))
theorem zadq {fn:Func} {ts:List Nat} {A W:NB} {tmps:Array Value} (h:tmpsOf fn.results.toList=some ts):Cf P A W (results fn tmps):=by
 have h1:=zaht h
 unfold results
 rw [Array.mapM_eq_mapM_toList,h1]
 exact zaaa.2 (zahu.2 (zals tmps _ (fun _=>rfl) ts fun v=>zaac.2 trivial))
theorem zacm {fn:Func} {s:LG} {w:World} {tmps:Array Value} {v:Value} {A:NB} (hf:Cf P A (fun _=>False) (results fn tmps)) (ht:Tame A w) (hr:(results fn tmps).run P w = .ok v w) (hb:Busy s) (hA:∀B,A B->s.own B\/s.ro B):Reads s ((results fn tmps).events P w #[]):=by
 refine ⟨fun e he=>?_,fun k hk h2=>by have:=hb k hk;omega⟩
 unfold Sem.events at he
 have h2:=Sem.runT_fst P (results fn tmps) w #[]
 rw [hr] at h2
 have h3:=zac9 (es:= #[]) (es':=((results fn tmps).runT P w #[]).2) hf ht (fun _ h=>h.elim) (v:=v) (w':=w) (by rw [<- h2])
 have h4:=(h3.2 e he).resolve_left (by simp)
 unfold okEv at h4
 unfold EvG
 cases hl:e.loc with
 | cell c=>
  rw [hl] at h4
  refine ⟨h4.1,?_⟩
  rcases h4.2 with h5 | h5 | ⟨h5,h6⟩
  · exact h5.elim
  · omega
  · exact (hA _ h5).imp id fun x=>⟨x,h6⟩
 | obj c=>
  rw [hl] at h4
  refine ⟨h4.1,?_⟩
  rcases h4.2 with h5 | h5 | ⟨h5,h6⟩
  · exact h5.elim
  · omega
  · exact (hA _ h5).imp id fun x=>⟨x,h6⟩
 | mark m=>rw [hl] at h4;have h4:Neutral m:=h4;unfold Neutral at h4;subst h4;rfl
 | output=>trivial
 | goroutines=>trivial
theorem VL.entry {ι:Inj} {fn:Func} {args:List AV} {vs:List Value} (hN:fn.ntmps=N) (hl:args.length<=N) (hV:VL ι args vs):StR ι N (mkInit 0 args) { tmps:=vs.toArray++Array.replicate (fn.ntmps - vs.toArray.size) undef,defers:=[] }:=by
 have hlen:=hV.length
 have hsize:vs.toArray.size=vs.length:=by simp
 refine ⟨by simp;omega,zajv 0 hV fun j v hj=>?_⟩
 have hlt:=(List.getElem?_eq_some_iff.1 hj).1
 rw [Array.getD_eq_getD_getElem?,Nat.zero_add,Array.getElem?_append_left (by simpa using hlt)]
 simp [hj]
theorem zafh {fn:Func} {ι:Inj} {h:H} {s:LG} {w:World} {r:R} {a0:Act} (ha0:a0.defers=[]) {kr:K}
 (hfin:∀(ι1:Inj) (st1:St) (h1:H) (a1:Act) (s1:LG) (w1:World),Rel ι1 h1 w1->Cov ι1 h1 s1->Fit s1 w1->StR ι1 N st1 a1->kr st1 h1=some r->∃v,(results fn a1.tmps).run P w1 = .ok v w1/\Reads s1 ((results fn a1.tmps).events P w1 #[])/\VR ι1 r.1 v/\r.2=h1)
 {e:Exit} {a1:Act} {s1:LG} {w1:World} (hp:PostD fk0.2 ι h a0 s w N kr (fun _ _ _=>none) kr r e a1 s1 w1):bodyOut P ty fn (PostC fk0.2 ι h s w r) e a1 s1 w1:=by
 obtain ⟨ι1,st1,h1,hE,hR1,hC1,hF1,hS1,hd,hk⟩:=hp
 have fin:kr st1 h1=some r->a1.defers=[]/\∀w₁,Rely ty s1 w1 w₁->∃v,(results fn a1.tmps).run P w₁ = .ok v w₁/\Reads s1 ((results fn a1.tmps).events P w₁ #[])/\PostC fk0.2 ι h s w r v s1 w₁:=fun hk=>by
  refine ⟨hd.trans ha0,fun w₁ rl=>?_⟩
  have hR2:=zadj hR1 hC1 rl
  obtain ⟨v,q1,q2,q3,q4⟩:=hfin ι1 st1 h1 a1 s1 w₁ hR2 hC1 (hF1.rely rl) hS1 hk
  exact ⟨v,q1,q2,ι1,q3,by rw [q4];exact hE.trans (ExtC.rely hR1 hC1 rl),by rw [q4];exact hR2,by rw [q4];exact hC1,hF1.rely rl⟩
 cases e with
 | normal=>exact ⟨.inl rfl,fin hk⟩
 | ret=>exact ⟨.inr rfl,fin hk⟩
 | exit i=>exact absurd hk (by simp)
 | goto l=>exact hk.elim
 | panic c=>exact hk.elim
 | outgrown=>exact hk.elim
theorem zaro {f:FuncId} {fn:Func} {c:Code} {F:Nat} {an:An} (hf:P.funcs[f]?=some fn) (hb:fn.body=some c) (hn:(fn.name == "runtime.NumGoroutine")=false) (hN:fn.ntmps=N) (hok:codeOk P fk0.2 c=true) (hΓ:CoSound P ty Post main fk0 Γ) {args:List AV} {h:H} {r:R} {kr:K}
 (hfin:∀(ι1:Inj) (st1:St) (h1:H) (a1:Act) (s1:LG) (w1:World),Rel ι1 h1 w1->Cov ι1 h1 s1->Fit s1 w1->StR ι1 N st1 a1->kr st1 h1=some r->∃v,(results fn a1.tmps).run P w1 = .ok v w1/\Reads s1 ((results fn a1.tmps).events P w1 #[])/\VR ι1 r.1 v/\r.2=h1)
 (e:bc (Nat.ble args.length N) (den P Γ N F c an (mkInit 0 args) h kr (fun _ _ _=>none) kr) none=some r):CoTri P ty Post main fk0 f args h r:=by
 refine ⟨⟨fn,hf,by rw [hb];rfl,hn⟩,fun ι w vs s hR hC hV hF hfk=>?_⟩
 obtain ⟨hl,e1⟩:=zaab e
 have hl:=Nat.le_of_ble_eq_true hl
 have hden:=zaga (fn:=f) hΓ c an _ h kr _ kr r hok e1 ι _ s w hR hC hF hfk (VL.entry hN hl hV)
 refine ⟨co_fn hf hb (hden.1.mono fun e a1 s1 w1 hp=>zafh rfl hfin hp),?_⟩
 obtain ⟨ex,a1,s1,w1,hp⟩:=hden.2
 obtain ⟨_,_,q⟩:=zafh (fn:=fn) (ty:=ty) (a0:={ tmps:=vs.toArray++Array.replicate (fn.ntmps - vs.toArray.size) undef,defers:=[] }) rfl hfin hp
 obtain ⟨v,_,_,q⟩:=q w1 (.refl _ _)
 exact ⟨v,s1,w1,q⟩
theorem zace {f:FuncId} {fn:Func} {c:Code} {ts:List Nat} {F:Nat} {an:An} (hf:P.funcs[f]?=some fn) (hb:fn.body=some c) (hn:(fn.name == "runtime.NumGoroutine")=false) (ht:tmpsOf fn.results.toList=some ts) (hN:fn.ntmps=N) (hok:codeOk P fk0.2 c=true)
 (hΓ:CoSound P ty Post main fk0 Γ) {args:List AV} {h:H} {r:R} (e:callD P Γ N F c ts an args h=some r):CoTri P ty Post main fk0 f args h r:=by
 refine zaro hf hb hn hN hok hΓ (fun ι1 st1 h1 a1 s1 w1 hR hC hF hS hk=>?_) e
 cases hk
 exact ⟨_,zacb ht,zacm (A:=fun _=>False) (zadq ht) (fun _ h=>h.elim) (zacb ht) hF.busy (fun _ h=>h.elim),zani hS ts,rfl⟩
theorem zas6 {f:FuncId} {fn:Func} {c:Code} {a:Nat} {t:TypeId} {F:Nat} {an:An} (hf:P.funcs[f]?=some fn) (hb:fn.body=some c) (hn:(fn.name == "runtime.NumGoroutine")=false) (ht:fn.results = #[.cell a t]) (hN:fn.ntmps=N) (hok:codeOk P fk0.2 c=true)
 (hΓ:CoSound P ty Post main fk0 Γ) {args:List AV} {h:H} {r:R} (e:callC P Γ N F c a t an args h=some r):CoTri P ty Post main fk0 f args h r:=by
 refine zaro hf hb hn hN hok hΓ (fun ι1 st1 h1 a1 s1 w1 hR hC hF hS hk=>?_) e
 obtain ⟨v,q1,q2,q3⟩:=zapo ht hR hS hk
 have hk0:=hk
 unfold finC at hk0
 split at hk0
 case h_2=>cases hk0
 split at hk0
 case h_2=>cases hk0
 obtain ⟨b,q,hb0,e1⟩:=zaaw hk0
 obtain ⟨fl,l,hl,_⟩:=zaae e1
 have hv:=hS.at_ a
 rw [hb0] at hv
 obtain ⟨B,base,sz,ib,ex⟩:=hv.ptr
 have hkn:known ι1 h1 B:=zab0 ib (show h1.get b≠.dead by rw [hl];simp)
 refine ⟨v,q1,zacm (A:=known ι1 h1) ?_ (zagz hR) q1 hF.busy (zahz hC),q2,q3⟩
 unfold results
 rw [ht,Array.mapM_eq_mapM_toList]
 simp only [List.mapM_cons,List.mapM_nil]
 refine zaaa.2 (zahu.2 (zaaa.2 (zaaa.2 ?_)))
 rw [ex]
 refine zaac.2 ?_
 unfold loadVar
 refine zaaa.2 (zad9 _ fun b=>?_)
 split
 · exact zaaa.2 (zaax _ fun n=>zaaa.2 (zadm hkn fun v=>zaac.2 (zaac.2 (zaac.2 trivial))))
 · exact zaif rfl hkn fun v=>zaaa.2 (zaac.2 (zaac.2 trivial))
end
end Go.Co
namespace Go.Co
open Go Go.Conc Go.AI Go.RowKit
theorem CoSound.none (P:Program) (ty:TypeId) (Post:Value->World->Prop) (main:Bool) (fk0:Option Fk×Bool):CoSound P ty Post main fk0 (fun _ _ _=>Option.none):=fun _ _ _ _ e=>by cases e
theorem CoSound.add {P:Program} {ty:TypeId} {Post:Value->World->Prop} {main:Bool} {fk0:Option Fk×Bool} {Γ:Env} {f:FuncId} {c:List AV->H->Option R} (hΓ:CoSound P ty Post main fk0 Γ) (hc:∀args h r,c args h=some r->CoTri P ty Post main fk0 f args h r):CoSound P ty Post main fk0 (Γ.add f c):=fun g args h r e=>by
 unfold Env.add at e
 cases hb:Nat.beq g f with
 | true=>rw [hb,bc_true] at e;have:=Nat.eq_of_beq_eq_true hb;subst this;exact hc _ _ _ e
 | false=>rw [hb,zaag] at e;exact hΓ _ _ _ _ e
end Go.Co
namespace Go.Co
open Go Go.Conc Go.AI Go.RowKit
section
variable {P:Program} {ty:TypeId} {Post:Value->World->Prop} {fk0:Option Fk×Bool} {Γ:Env} {N:Nat} {s:LG} {w:World}
theorem zanr {b:Frame} {a:Act} {fn:Func} {todo:List Item} {v:Value} (hn:b.kind = .normal) (hd:a.defers=[]) (hf:P.funcs[b.fn]?=some fn) (hr:(results fn a.tmps).run P w = .ok v w) (hi:P.inits.idxOf? b.fn=none) :
 stepG P true (G { b.at a todo with mode:=.returning } []) w = .ended (.done v) w (seen P b.fn ((results fn a.tmps).events P w #[])):=by
 simp [G,stepG,unwind,doReturn,Frame.at,hn,hd,hf,hr,hi,GStep.after]
theorem zaue {f:FuncId} {fn:Func} {c:Code} {args:Array Value} {R:Value->LG->World->Prop} (hf:P.funcs[f]?=some fn) (hb:fn.body=some c) (hi:P.inits.idxOf? f=none)
 (h:CoC P ty Post true f c (bodyOut P ty fn R) { tmps:=args++Array.replicate (fn.ntmps - args.size) undef,defers:=[] } s w) (hR:∀v s' w',R v s' w'->Post v w'/\s'.kid=none/\s'.fk=none):Walk P ty Post true s (G (Frame.enter P f args .normal) []) w:=by
 rw [enter_at _ hf hb]
 have leave:∀(a':Act) (s':LG) (w':World) (todo:List Item) (e:Exit),bodyOut P ty fn R e a' s' w'->Walk P ty Post true s' (G { (base f).at a' todo with mode:=.returning } []) w':=fun a' s' w' todo e q=>by
  refine .mk rfl fun w₁ r=>?_
  obtain ⟨v,h1,h2,h3⟩:=q.2.2 w₁ r
  obtain ⟨k1,k2,k3⟩:=hR v s' w₁ h3
  exact .done v _ rfl k2 k3 (zanr (b:=base f) rfl q.2.1 hf h1 hi) (h2.seen P _).1 k1
 refine h (base f) [] [] rfl (by simp [base]) fun e a' s' w' q=>?_
 rcases q.1 with rfl | rfl
 · exact .idle rfl (fun _=>stepG_end) (leave a' s' w' [] .normal q)
 · exact fun todo=>leave a' s' w' todo .ret q
theorem zas7 {f:FuncId} {fn:Func} {c:Code} {ts:List Nat} {F:Nat} {an:An} (hf:P.funcs[f]?=some fn) (hb:fn.body=some c) (hi:P.inits.idxOf? f=none) (ht:tmpsOf fn.results.toList=some ts) (hN:fn.ntmps=N) (hok:codeOk P fk0.2 c=true)
 (hΓ:CoSound P ty Post true fk0 Γ) {args:List AV} {h:H} {r:R} (e:callD P Γ N F c ts an args h=some r) {ι:Inj} {vs:List Value} (hR:Rel ι h w) (hC:Cov ι h s) (hV:VL ι args vs) (hF:Fit s w) (hfk:s.fk=fk0.1) (hfn:fk0.1=none) (hkn:s.kid=none)
 (hP:∀v s' w',PostC fk0.2 ι h s w r v s' w'->Post v w'):Walk P ty Post true s (G (Frame.enter P f vs.toArray .normal) []) w:=by
 obtain ⟨hl,e1⟩:=zaab e
 have hl:=Nat.le_of_ble_eq_true hl
 have hden:=zaga (fn:=f) hΓ c an _ h _ _ _ r hok e1 ι _ s w hR hC hF hfk (VL.entry hN hl hV)
 refine zaue hf hb hi (hden.1.mono fun e a1 s1 w1 hp=>zafh rfl (fun ι1 st1 h1 a1 s1 w1 hR hC hF hS hk=>?_) hp) fun v s' w' q=>⟨hP v s' w' q,?_⟩
 · cases hk
   exact ⟨_,zacb ht,zacm (A:=fun _=>False) (zadq ht) (fun _ h=>h.elim) (zacb ht) hF.busy (fun _ h=>h.elim),zani hS ts,rfl⟩
 · obtain ⟨ι',_,hE,_⟩:=q
   exact ⟨hE.kid.trans hkn,hE.fk.trans (hfk.trans hfn)⟩
end
end Go.Co
