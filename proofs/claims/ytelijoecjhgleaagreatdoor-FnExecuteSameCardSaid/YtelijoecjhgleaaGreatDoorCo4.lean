/- Goroutines in company, part 4. -/
import Derived.Test.YtelijoecjhgleaaGreatDoorCo3
import Derived.Conc.WgGenAddNeg
import Derived.Conc.WgArith
import Derived.Conc.WgGenN
import Derived.Conc.WgGenWait
import Derived.Conc.SmallLaws
import Derived.Conc.TokenWalk
import Derived.Conc.DeferLaws
import Derived.Conc.Own2
import Derived.KernelRfl
set_option linter.unusedVariables false
set_option linter.unusedSimpArgs false
set_option maxRecDepth 100000
namespace Go.Co
open Go Go.Conc Go.RowKit Go.Conc.Lib
open Go.ConcR (KK wgBlock WgAt stA smA rd wr mk)
open Go.ConcR.Gen
section
variable {P:Program} {ty:TypeId} {Post:Value->World->Prop} {main:Bool} {s:LG} {w:World}
def StillW (s:LG) (w w':World) (es:Array Event):Prop:=w'=w/\Reads s es
theorem StillW.nil (s:LG) (w:World):StillW s w w #[]:=⟨rfl,.nil s⟩
theorem Walk.go1 {g:Goroutine} (hc:core g=g) (h:∀w₁,Rely ty s w w₁->(stepG P main g w₁).goes fun g' w' es=>StillW s w₁ w' es/\Walk P ty Post main s g' w'):Walk P ty Post main s g w:=
 .mk hc fun w₁ r=>by
  have h1:=h w₁ r
  revert h1
  generalize hst:stepG P main g w₁=st
  cases st <;> simp only [GStep.goes,false_implies]
  rintro ⟨⟨rfl,h2⟩,h3⟩
  exact .own s _ _ _ hst (.reads h2 _) h3
theorem zaad {es:Array Event} (h:∀e∈es,False):StillW s w w es:=by
 have:es = #[]:=Array.eq_empty_iff_forall_not_mem.2 h
 subst this;exact ⟨rfl,.nil s⟩
structure WS (ty:TypeId) (s:LG) (wg:Nat) (w₀ w:World):Prop where
 rel:Rely ty s w₀ w
 live:WgLive ty wg w
 at_:(∃f,s.fk=some f/\f.wg=wg)\/∃k,s.kid=some k/\k.wg=wg
variable {wg:Nat} {w₀ w₁:World}
theorem WS.rely (h:WS ty s wg w₀ w) (r:Rely ty s w w₁):WS ty s wg w₀ w₁:=
 ⟨h.rel.trans r,by
  rcases h.at_ with ⟨f,h1,rfl⟩ | ⟨k,h1,rfl⟩
  · exact r.fk f h1 h.live
  · exact r.kid k h1 h.live,h.at_⟩
theorem WS.tag {kids:List (Nat×List Value×Bool)} {t:Tag} (h:WS ty s wg w₀ w) (hs:s.fk=some ⟨wg,kids,t⟩) (t':Tag):WS ty { s with fk:=some ⟨wg,kids,t'⟩ } wg w₀ w:=
 ⟨⟨h.rel.tape,h.rel.os,h.rel.output,h.rel.size,h.rel.own,h.rel.ro,h.rel.kid,fun f e=>by cases e;exact h.rel.fk ⟨wg,kids,t⟩ hs⟩,h.live,.inl ⟨_,rfl,rfl⟩⟩
theorem zagx {wg':Nat} {st sm:Int} (h:WgLive ty wg' w):WgLive ty wg' (setWg ty w wg st sm):=by
 obtain ⟨a,b,hw⟩:=h
 unfold WgAt at hw
 by_cases e:wg=wg'
 · subst e
   refine ⟨st,sm,?_⟩
   have:=(Array.getElem?_eq_some_iff.1 hw).1
   simp [WgAt,setWg,Array.getElem?_setIfInBounds,this]
 · refine ⟨a,b,?_⟩
   simp [WgAt,setWg,Array.getElem?_setIfInBounds,e,hw]
theorem WS.set (h:WS ty s wg w₀ w) (ho:¬ s.own wg) (hr:¬ s.ro wg) (st sm:Int):WS ty s wg w₀ (setWg ty w wg st sm):=by
 have ne:∀b,b≠wg->(setWg ty w wg st sm).heap[b]?=w.heap[b]?:=fun b hb=>by simp [setWg,Array.getElem?_setIfInBounds,Ne.symm hb]
 exact ⟨⟨h.rel.tape,h.rel.os,h.rel.output,by simpa [setWg] using h.rel.size,fun b hb=>(ne b fun e=>ho (e ▸ hb)).trans (h.rel.own b hb),fun b hb=>(ne b fun e=>hr (e ▸ hb)).trans (h.rel.ro b hb),fun k hk hl=>zagx (h.rel.kid k hk hl),fun f hf hl=>zagx (h.rel.fk f hf hl)⟩,zagx h.live,h.at_⟩
theorem zadv {st sm:Int} (h:WgAt ty wg w st sm) (v:Int):w.setCell (stA wg) (.int .u64 v)=setWg ty w wg v sm:=by
 unfold WgAt at h
 have hlt:=(Array.getElem?_eq_some_iff.1 h).1
 unfold World.setCell setWg stA
 congr 1
 apply Array.ext_getElem?
 intro i
 by_cases e:wg=i
 · subst e;rw [Array.getElem?_modify,if_pos rfl,h,Array.getElem?_setIfInBounds,if_pos rfl,if_pos hlt];simp [wgBlock]
 · simp [Array.getElem?_modify,Array.getElem?_setIfInBounds,e]
theorem zaiz {st sm:Int} (h:WgAt ty wg w st sm) (v:Int):w.setCell (smA wg) (.int .u32 v)=setWg ty w wg st v:=by
 unfold WgAt at h
 have hlt:=(Array.getElem?_eq_some_iff.1 h).1
 unfold World.setCell setWg smA
 congr 1
 apply Array.ext_getElem?
 intro i
 by_cases e:wg=i
 · subst e;rw [Array.getElem?_modify,if_pos rfl,h,Array.getElem?_setIfInBounds,if_pos rfl,if_pos hlt];simp [wgBlock]
 · simp [Array.getElem?_modify,Array.getElem?_setIfInBounds,e]
theorem WS.cell0 (h:WS ty s wg w₀ w):∃v,w.cell? ⟨wg,0,none⟩=some v:=let ⟨_,_,x⟩:=h.live; ⟨_,WgAt.cellSt x⟩
theorem WS.cell1 (h:WS ty s wg w₀ w):∃v,w.cell? ⟨wg,1,none⟩=some v:=let ⟨_,_,x⟩:=h.live; ⟨_,WgAt.cellSm x⟩
end
end Go.Co
namespace Go.Co
open Go Go.Conc Go.RowKit Go.Conc.Lib
open Go.ConcR (KK wgBlock WgAt stA smA rd wr mk)
open Go.ConcR.Gen
open Go.ConcN (st_flag st_waiters)
theorem WS.c {P:Program} {ty:TypeId} {Post:Value->World->Prop} {main:Bool} {s:LG} {w₀ w:World} {wg:Nat} {g g':Goroutine} (hF:WS ty s wg w₀ w) (e:∀w,stepG P main g w = .go g' w #[]) (hc:core g=g) (h:∀w,WS ty s wg w₀ w->Walk P ty Post main s g' w):Walk P ty Post main s g w:=
 .go1 hc fun w₁ h₁=>by rw [e];exact ⟨StillW.nil _ _,h _ (hF.rely h₁)⟩
theorem WS.o {P:Program} {ty:TypeId} {Post:Value->World->Prop} {main:Bool} {s:LG} {w₀ w:World} {wg:Nat} {g:Goroutine} (hF:WS ty s wg w₀ w) (hc:core g=g) (h:∀w,WS ty s wg w₀ w->(stepG P main g w).goes fun g' w' es=>StillW s w w' es/\Walk P ty Post main s g' w'):Walk P ty Post main s g w:=
 .go1 hc fun w₁ h₁=>h _ (hF.rely h₁)
theorem condT {P:Program} {main:Bool} {b:Frame} {a:Act} {k:List Item} {cs:List Frame} {w:World} {c:Operand} {x y:Code} (h:a.eval c = .bool true):stepG P main (G (b.at a (.code (.cond c x y)::k)) cs) w = .go (G (b.at a (.code x::k)) cs) w:=by simpa using stepG_cond (P:=P) (main:=main) (b:=b) (k:=k) (cs:=cs) (w:=w) (x:=x) (y:=y) h
theorem condF {P:Program} {main:Bool} {b:Frame} {a:Act} {k:List Item} {cs:List Frame} {w:World} {c:Operand} {x y:Code} (h:a.eval c = .bool false):stepG P main (G (b.at a (.code (.cond c x y)::k)) cs) w = .go (G (b.at a (.code y::k)) cs) w:=by simpa using stepG_cond (P:=P) (main:=main) (b:=b) (k:=k) (cs:=cs) (w:=w) (x:=x) (y:=y) h
theorem rg:(∀a:Oper,List.range #[a].size=[0])/\(∀a b:Oper,List.range #[a,b].size=[0,1])/\(∀a b c:Oper,List.range #[a,b,c].size=[0,1,2])/\(∀a b c d:Oper,List.range #[a,b,c,d].size=[0,1,2,3])/\(∀a b c d e:Oper,List.range #[a,b,c,d,e].size=[0,1,2,3,4])/\(∀a b c d e f:Oper,List.range #[a,b,c,d,e,f].size=[0,1,2,3,4,5])/\(∀a b c d e f g:Oper,List.range #[a,b,c,d,e,f,g].size=[0,1,2,3,4,5,6])/\(∀a b c d e f g h:Oper,List.range #[a,b,c,d,e,f,g,h].size=[0,1,2,3,4,5,6,7])/\(∀a b c d e f g h i:Oper,List.range #[a,b,c,d,e,f,g,h,i].size=[0,1,2,3,4,5,6,7,8])/\(∀a b c d e f g h i j:Oper,List.range #[a,b,c,d,e,f,g,h,i,j].size=[0,1,2,3,4,5,6,7,8,9])/\(∀a b c d e f g h i j k:Oper,List.range #[a,b,c,d,e,f,g,h,i,j,k].size=[0,1,2,3,4,5,6,7,8,9,10])/\(∀a b c d e f g h i j k l:Oper,List.range #[a,b,c,d,e,f,g,h,i,j,k,l].size=[0,1,2,3,4,5,6,7,8,9,10,11]):=by
 refine ⟨?_,?_,?_,?_,?_,?_,?_,?_,?_,?_,?_,?_⟩ <;> (intros;rfl)
section
variable {P:Program} {L:WgLink} {Post:Value->World->Prop} {main:Bool} {s:LG} {w:World} {wg:Nat} {kids:List (Nat×List Value×Bool)}
theorem zabu {ty:TypeId} {st sm:Int} (h:WgAt ty wg w st sm):setWg ty w wg st sm=w:=by
 unfold WgAt at h
 have hlt:=(Array.getElem?_eq_some_iff.1 h).1
 unfold setWg
 have:w.heap.setIfInBounds wg (wgBlock ty st sm)=w.heap:=by
  apply Array.ext_getElem?
  intro i
  by_cases e:wg=i
  · subst e;rw [Array.getElem?_setIfInBounds,if_pos rfl,if_pos hlt,h]
  · rw [Array.getElem?_setIfInBounds,if_neg e]
 rw [this]
theorem Walk.pmark {ty:TypeId} {g g':Goroutine} {t t':Tag} {m:Mark} (hc:core g=g) (hs:s.fk=some ⟨wg,kids,t⟩) (hp:∀st sm,PT wg kids.length (∀x∈kids,x.2.2=true) t st sm t' st sm #[ConcR.mk m])
 (hst:∀w₁,stepG P main g w₁ = .go g' w₁ #[ConcR.mk m]) (h:∀w₁,Rely ty s w w₁->Walk P ty Post main { s with fk:=some ⟨wg,kids,t'⟩ } g' w₁):Walk P ty Post main s g w:=
 .mk hc fun w₁ r=>.part ⟨wg,kids,t⟩ hs fun st sm hw hf=>.inr ⟨t',st,sm,_,g',hp st sm,by rw [zabu hw];exact hst w₁,by rw [zabu hw];exact h w₁ r⟩
theorem Walk.padd {ty:TypeId} {g:Goroutine} (hc:core g=g) (hs:s.fk=some ⟨wg,kids,.dis⟩)
 (
  h:∀w₁,Rely ty s w w₁->∀v:Nat,v<2147483647->WgAt ty wg w₁ (v * KK) 0->∃g',stepG P main g w₁ = .go g' (w₁.setCell (stA wg) (.int .u64 (((v+1:Nat):Int) * KK))) #[rd (stA wg),wr (stA wg)] /\
  Walk P ty Post main { s with fk:=some ⟨wg,kids,.added⟩ } g' (setWg ty w₁ wg (((v+1:Nat):Int) * KK) 0)):Walk P ty Post main s g w:=
 .mk hc fun w₁ r=>.part ⟨wg,kids,.dis⟩ hs fun st sm hw hf=>by
  obtain ⟨v,hv,rfl,rfl⟩:=hf
  obtain ⟨g',h1,h2⟩:=h w₁ r v hv hw
  exact .inr ⟨_,_,_,_,g',.add,by rw [h1,zadv hw],h2⟩
theorem Walk.psay {ty:TypeId} {g g':Goroutine} {t:Tag} {m:Mark} {o:Nat} (hc:core g=g) (hs:s.fk=some ⟨wg,kids,t⟩) (hk:∀k,s.kid=some k->k.st=0) (hm:m = .read ⟨wg,o,none⟩\/m = .write ⟨wg,o,none⟩)
 (hst:∀w₁,stepG P main g w₁ = .go g' w₁ #[ConcR.mk m]) (h:∀w₁,Rely ty s w w₁->Walk P ty Post main s g' w₁):Walk P ty Post main s g w:=
 .mk hc fun w₁ r=>.own s g' w₁ _ (hst w₁) (.reads ⟨fun e he=>by
  rw [Array.mem_singleton] at he;subst he
  rcases hm with rfl | rfl
  · exact ⟨_,hs,rfl⟩
  · exact ⟨_,hs,rfl⟩,fun k h1 h2=>by have:=hk k h1;omega⟩ w₁) (h w₁ r)
theorem Walk.leave {ty:TypeId} {b c:Frame} {a:Act} {cs:List Frame} {fn:Func} {todo:List Item} (hn:b.kind = .normal) (hd:a.defers=[]) (hf:P.funcs[b.fn]?=some fn) (hr:fn.results = #[])
 (h:∀w₁,Rely ty s w w₁->Walk P ty Post main s (G (c.finish (.tuple #[])) cs) w₁):Walk P ty Post main s (G { b.at a todo with mode:=.returning } (c::cs)) w:=
 .go1 rfl fun w₁ r=>by rw [stepG_leave hn hd hf (results_none hr _ P w₁) (events_results_none hr _ _)];exact ⟨.nil _ _,h w₁ r⟩
set_option maxRecDepth 100000 in
set_option maxHeartbeats 8000000 in
theorem zatx (H:WgLib P L) (hs:s.fk=some ⟨wg,kids,.idle⟩) (ho:¬ s.own wg) (hr:¬ s.ro wg) (hk:∀k,s.kid=some k->k.st=0) {w₀:World} (hF:WS L.tWg s wg w₀ w) {b:Frame} {cs:List Frame}
 (hT:∀w₁,WS L.tWg { s with fk:=some ⟨wg,kids,.pend⟩ } wg w₀ w₁->Walk P L.tWg Post main { s with fk:=some ⟨wg,kids,.pend⟩ } (G (b.finish (.tuple #[])) cs) w₁) :
 Walk P L.tWg Post main s (G (Frame.enter P L.add #[.pointer (some ⟨wg,0,none⟩),.int .i64 1] .normal) (b::cs)) w:=by
 lib_facts
 rw [enter_at _ H.f_add rfl]
 walk_nrmf addFn
 (first | (refine hF.c (fun _=>stepG_seq) rfl ?_;clear hF;intro _ hF) | (refine hF.c (fun _=>stepG_skip) rfl ?_;clear hF;intro _ hF) | (refine hF.c (fun _=>stepG_region_end) rfl ?_;clear hF;intro _ hF) | (refine hF.c (fun _=>stepG_region) rfl ?_;clear hF;intro _ hF;simp only [rg]) | (refine hF.c (fun _=>stepG_ret') rfl ?_;clear hF;intro _ hF) | ((refine hF.c (fun _=>(stepG_unwanted rfl rfl)) rfl ?_;clear hF;intro _ hF);walk_nrm) | ((refine hF.o rfl ?_;clear hF;intro _ hF);refine goes_oper_k rfl rfl (by k_ne) (fun K hK=>?_);go_simp;refine hK _ _ ⟨zaad ?_,?_⟩;(intro e he;have hm:=mem_listed he;simp [go_sem, *] at hm);clear hK K;try w_num) | (refine hF.c (fun _=>stepG_block) rfl ?_;clear hF;intro _ hF))
 (refine hF.c (fun _=>condT (by first | rfl | (simp [Act.eval];omega))) rfl ?_;clear hF;intro _ hF)
 iterate 6 (first | (refine hF.c (fun _=>stepG_seq) rfl ?_;clear hF;intro _ hF) | (refine hF.c (fun _=>stepG_skip) rfl ?_;clear hF;intro _ hF) | (refine hF.c (fun _=>stepG_region_end) rfl ?_;clear hF;intro _ hF) | (refine hF.c (fun _=>stepG_region) rfl ?_;clear hF;intro _ hF;simp only [rg]) | (refine hF.c (fun _=>stepG_ret') rfl ?_;clear hF;intro _ hF) | ((refine hF.c (fun _=>(stepG_unwanted rfl rfl)) rfl ?_;clear hF;intro _ hF);walk_nrm) | ((refine hF.o rfl ?_;clear hF;intro _ hF);refine goes_oper_k rfl rfl (by k_ne) (fun K hK=>?_);go_simp;refine hK _ _ ⟨zaad ?_,?_⟩;(intro e he;have hm:=mem_listed he;simp [go_sem, *] at hm);clear hK K;try w_num) | (refine hF.c (fun _=>stepG_block) rfl ?_;clear hF;intro _ hF))
 (refine hF.c (fun _=>condF (by first | rfl | (simp [Act.eval];omega))) rfl ?_;clear hF;intro _ hF)
 iterate 3 (first | (refine hF.c (fun _=>stepG_seq) rfl ?_;clear hF;intro _ hF) | (refine hF.c (fun _=>stepG_skip) rfl ?_;clear hF;intro _ hF) | (refine hF.c (fun _=>stepG_region_end) rfl ?_;clear hF;intro _ hF) | (refine hF.c (fun _=>stepG_region) rfl ?_;clear hF;intro _ hF;simp only [rg]) | (refine hF.c (fun _=>stepG_ret') rfl ?_;clear hF;intro _ hF) | ((refine hF.c (fun _=>(stepG_unwanted rfl rfl)) rfl ?_;clear hF;intro _ hF);walk_nrm) | ((refine hF.o rfl ?_;clear hF;intro _ hF);refine goes_oper_k rfl rfl (by k_ne) (fun K hK=>?_);go_simp;refine hK _ _ ⟨zaad ?_,?_⟩;(intro e he;have hm:=mem_listed he;simp [go_sem, *] at hm);clear hK K;try w_num) | (refine hF.c (fun _=>stepG_block) rfl ?_;clear hF;intro _ hF))
 refine Walk.pmark rfl hs (fun _ _=>.dis) (fun w₁=>stepG_mark0 .disable (by simp) rfl rfl (by k_ne) rfl H.f_disable (x_disable_n L) (x_disable_b L) (x_disable_x L) (x_disable_f L)) fun w₁ r=>?_
 replace hF:=(hF.rely r).tag hs .dis
 clear r
 walk_nrm
 (first | (refine hF.c (fun _=>stepG_seq) rfl ?_;clear hF;intro _ hF) | (refine hF.c (fun _=>stepG_skip) rfl ?_;clear hF;intro _ hF) | (refine hF.c (fun _=>stepG_region_end) rfl ?_;clear hF;intro _ hF) | (refine hF.c (fun _=>stepG_region) rfl ?_;clear hF;intro _ hF;simp only [rg]) | (refine hF.c (fun _=>stepG_ret') rfl ?_;clear hF;intro _ hF) | ((refine hF.c (fun _=>(stepG_unwanted rfl rfl)) rfl ?_;clear hF;intro _ hF);walk_nrm) | ((refine hF.o rfl ?_;clear hF;intro _ hF);refine goes_oper_k rfl rfl (by k_ne) (fun K hK=>?_);go_simp;refine hK _ _ ⟨zaad ?_,?_⟩;(intro e he;have hm:=mem_listed he;simp [go_sem, *] at hm);clear hK K;try w_num) | (refine hF.c (fun _=>stepG_block) rfl ?_;clear hF;intro _ hF))
 (first | (refine hF.c (fun _=>stepG_seq) rfl ?_;clear hF;intro _ hF) | (refine hF.c (fun _=>stepG_skip) rfl ?_;clear hF;intro _ hF) | (refine hF.c (fun _=>stepG_region_end) rfl ?_;clear hF;intro _ hF) | (refine hF.c (fun _=>stepG_region) rfl ?_;clear hF;intro _ hF;simp only [rg]) | (refine hF.c (fun _=>stepG_ret') rfl ?_;clear hF;intro _ hF) | ((refine hF.c (fun _=>(stepG_unwanted rfl rfl)) rfl ?_;clear hF;intro _ hF);walk_nrm) | ((refine hF.o rfl ?_;clear hF;intro _ hF);refine goes_oper_k rfl rfl (by k_ne) (fun K hK=>?_);go_simp;refine hK _ _ ⟨zaad ?_,?_⟩;(intro e he;have hm:=mem_listed he;simp [go_sem, *] at hm);clear hK K;try w_num) | (refine hF.c (fun _=>stepG_block) rfl ?_;clear hF;intro _ hF))
 ((refine hF.c (fun _=>(stepG_defer rfl rfl (by k_ne) rfl)) rfl ?_;clear hF;intro _ hF);walk_nrm)
 iterate 8 (first | (refine hF.c (fun _=>stepG_seq) rfl ?_;clear hF;intro _ hF) | (refine hF.c (fun _=>stepG_skip) rfl ?_;clear hF;intro _ hF) | (refine hF.c (fun _=>stepG_region_end) rfl ?_;clear hF;intro _ hF) | (refine hF.c (fun _=>stepG_region) rfl ?_;clear hF;intro _ hF;simp only [rg]) | (refine hF.c (fun _=>stepG_ret') rfl ?_;clear hF;intro _ hF) | ((refine hF.c (fun _=>(stepG_unwanted rfl rfl)) rfl ?_;clear hF;intro _ hF);walk_nrm) | ((refine hF.o rfl ?_;clear hF;intro _ hF);refine goes_oper_k rfl rfl (by k_ne) (fun K hK=>?_);go_simp;refine hK _ _ ⟨zaad ?_,?_⟩;(intro e he;have hm:=mem_listed he;simp [go_sem, *] at hm);clear hK K;try w_num) | (refine hF.c (fun _=>stepG_block) rfl ?_;clear hF;intro _ hF))
 ((refine hF.c (fun _=>(stepG_entry_pure (.bool false) rfl rfl (by k_ne) rfl H.f_inBubble (x_inBubble_n L) (x_inBubble_b L) (x_inBubble_x L) (x_inBubble_f L))) rfl ?_;clear hF;intro _ hF);walk_nrm)
 (first | (refine hF.c (fun _=>stepG_seq) rfl ?_;clear hF;intro _ hF) | (refine hF.c (fun _=>stepG_skip) rfl ?_;clear hF;intro _ hF) | (refine hF.c (fun _=>stepG_region_end) rfl ?_;clear hF;intro _ hF) | (refine hF.c (fun _=>stepG_region) rfl ?_;clear hF;intro _ hF;simp only [rg]) | (refine hF.c (fun _=>stepG_ret') rfl ?_;clear hF;intro _ hF) | ((refine hF.c (fun _=>(stepG_unwanted rfl rfl)) rfl ?_;clear hF;intro _ hF);walk_nrm) | ((refine hF.o rfl ?_;clear hF;intro _ hF);refine goes_oper_k rfl rfl (by k_ne) (fun K hK=>?_);go_simp;refine hK _ _ ⟨zaad ?_,?_⟩;(intro e he;have hm:=mem_listed he;simp [go_sem, *] at hm);clear hK K;try w_num) | (refine hF.c (fun _=>stepG_block) rfl ?_;clear hF;intro _ hF))
 (refine hF.c (fun _=>condF (by first | rfl | (simp [Act.eval];omega))) rfl ?_;clear hF;intro _ hF)
 iterate 9 (first | (refine hF.c (fun _=>stepG_seq) rfl ?_;clear hF;intro _ hF) | (refine hF.c (fun _=>stepG_skip) rfl ?_;clear hF;intro _ hF) | (refine hF.c (fun _=>stepG_region_end) rfl ?_;clear hF;intro _ hF) | (refine hF.c (fun _=>stepG_region) rfl ?_;clear hF;intro _ hF;simp only [rg]) | (refine hF.c (fun _=>stepG_ret') rfl ?_;clear hF;intro _ hF) | ((refine hF.c (fun _=>(stepG_unwanted rfl rfl)) rfl ?_;clear hF;intro _ hF);walk_nrm) | ((refine hF.o rfl ?_;clear hF;intro _ hF);refine goes_oper_k rfl rfl (by k_ne) (fun K hK=>?_);go_simp;refine hK _ _ ⟨zaad ?_,?_⟩;(intro e he;have hm:=mem_listed he;simp [go_sem, *] at hm);clear hK K;try w_num) | (refine hF.c (fun _=>stepG_block) rfl ?_;clear hF;intro _ hF))
 ((refine hF.o rfl ?_;clear hF;intro _ hF);refine goes_call rfl rfl (by k_ne) rfl H.f_uAdd (nm_uAdd L) rfl ⟨StillW.nil _ _,?_⟩;walk_nrmf uAddFn)
 iterate 10 (first | (refine hF.c (fun _=>stepG_seq) rfl ?_;clear hF;intro _ hF) | (refine hF.c (fun _=>stepG_skip) rfl ?_;clear hF;intro _ hF) | (refine hF.c (fun _=>stepG_region_end) rfl ?_;clear hF;intro _ hF) | (refine hF.c (fun _=>stepG_region) rfl ?_;clear hF;intro _ hF;simp only [rg]) | (refine hF.c (fun _=>stepG_ret') rfl ?_;clear hF;intro _ hF) | ((refine hF.c (fun _=>(stepG_unwanted rfl rfl)) rfl ?_;clear hF;intro _ hF);walk_nrm) | ((refine hF.o rfl ?_;clear hF;intro _ hF);refine goes_oper_k rfl rfl (by k_ne) (fun K hK=>?_);go_simp;refine hK _ _ ⟨zaad ?_,?_⟩;(intro e he;have hm:=mem_listed he;simp [go_sem, *] at hm);clear hK K;try w_num) | (refine hF.c (fun _=>stepG_block) rfl ?_;clear hF;intro _ hF))
 refine Walk.padd rfl rfl fun w₂ r v hv hw=>?_
 replace hF:=hF.rely r
 clear r
 rcases Nat.eq_zero_or_pos v with rfl | hvp
 · -- the first one
   have z:((0:Nat):Int) * KK=0:=by simp
   have z1:(((0+1:Nat):Nat):Int) * KK=4294967296:=by decide
   rw [z] at hw
   rw [z1]
   refine ⟨_,(stepG_add_atomic rfl rfl (by k_ne) rfl H.f_addU64 (x_addU64_n L) (x_addU64_b L) (x_addU64_x L) .u64 (x_addU64_f L) rfl rfl (WgAt.cellSt hw) (WgAt.thaw hw 0)).trans (by rw [show IntKind.u64.wrap (0+4294967296)=4294967296 from by decide];rfl),?_⟩
   replace hF:=(hF.set ho hr 4294967296 0).tag rfl .added
   clear hw
   walk_nrm
   ((refine hF.o rfl ?_;clear hF;intro _ hF);refine goes_oper_k rfl rfl (by k_ne) (fun K hK=>?_);go_simp;refine hK _ _ ⟨zaad ?_,?_⟩;(intro e he;have hm:=mem_listed he;simp [go_sem, *] at hm);clear hK K;try w_num)
   (refine hF.c (fun _=>stepG_region_end) rfl ?_;clear hF;intro _ hF)
   (refine hF.c (fun _=>stepG_ret') rfl ?_;clear hF;intro _ hF)
   ((refine hF.o rfl ?_;clear hF;intro _ hF);refine goes_leave1 rfl rfl H.f_uAdd rfl ⟨StillW.nil _ _,?_⟩;walk_nrm)
   ((refine hF.o rfl ?_;clear hF;intro _ hF);refine goes_oper_k rfl rfl (by k_ne) (fun K hK=>?_);go_simp;refine hK _ _ ⟨zaad ?_,?_⟩;(intro e he;have hm:=mem_listed he;simp [go_sem, *] at hm);clear hK K;try w_num)
   (refine hF.c (fun _=>stepG_region_end) rfl ?_;clear hF;intro _ hF)
   iterate 2 ((refine hF.c (fun _=>stepG_seq) rfl ?_;clear hF;intro _ hF))
   (refine hF.c (fun _=>stepG_region) rfl ?_;clear hF;intro _ hF;simp only [rg])
   iterate 4 (((refine hF.o rfl ?_;clear hF;intro _ hF);refine goes_oper_k rfl rfl (by k_ne) (fun K hK=>?_);go_simp;refine hK _ _ ⟨zaad ?_,?_⟩;(intro e he;have hm:=mem_listed he;simp [go_sem, *] at hm);clear hK K;try w_num))
   iterate 2 (((refine hF.c (fun _=>(stepG_unwanted rfl rfl)) rfl ?_;clear hF;intro _ hF);walk_nrm))
   ((refine hF.o rfl ?_;clear hF;intro _ hF);refine goes_oper_k rfl rfl (by k_ne) (fun K hK=>?_);go_simp;refine hK _ _ ⟨zaad ?_,?_⟩;(intro e he;have hm:=mem_listed he;simp [go_sem, *] at hm);clear hK K;try w_num)
   (refine hF.c (fun _=>stepG_region_end) rfl ?_;clear hF;intro _ hF)
   (refine hF.c (fun _=>condF (by first | rfl | (simp [Act.eval];omega))) rfl ?_;clear hF;intro _ hF)
   (refine hF.c (fun _=>stepG_skip) rfl ?_;clear hF;intro _ hF)
   (refine hF.c (fun _=>stepG_seq) rfl ?_;clear hF;intro _ hF)
   (refine hF.c (fun _=>stepG_region) rfl ?_;clear hF;intro _ hF;simp only [rg])
   iterate 4 (((refine hF.o rfl ?_;clear hF;intro _ hF);refine goes_oper_k rfl rfl (by k_ne) (fun K hK=>?_);go_simp;refine hK _ _ ⟨zaad ?_,?_⟩;(intro e he;have hm:=mem_listed he;simp [go_sem, *] at hm);clear hK K;try w_num))
   (refine hF.c (fun _=>stepG_region_end) rfl ?_;clear hF;intro _ hF)
   (refine hF.c (fun _=>stepG_seq) rfl ?_;clear hF;intro _ hF)
   (refine hF.c (fun _=>stepG_region) rfl ?_;clear hF;intro _ hF;simp only [rg])
   iterate 4 (((refine hF.o rfl ?_;clear hF;intro _ hF);refine goes_oper_k rfl rfl (by k_ne) (fun K hK=>?_);go_simp;refine hK _ _ ⟨zaad ?_,?_⟩;(intro e he;have hm:=mem_listed he;simp [go_sem, *] at hm);clear hK K;try w_num))
   (refine hF.c (fun _=>stepG_region_end) rfl ?_;clear hF;intro _ hF)
   iterate 2 ((refine hF.c (fun _=>stepG_seq) rfl ?_;clear hF;intro _ hF))
   (refine hF.c (fun _=>stepG_region) rfl ?_;clear hF;intro _ hF;simp only [rg])
   iterate 10 (((refine hF.o rfl ?_;clear hF;intro _ hF);refine goes_oper_k rfl rfl (by k_ne) (fun K hK=>?_);go_simp;refine hK _ _ ⟨zaad ?_,?_⟩;(intro e he;have hm:=mem_listed he;simp [go_sem, *] at hm);clear hK K;try w_num))
   (refine hF.c (fun _=>stepG_region_end) rfl ?_;clear hF;intro _ hF)
   (refine hF.c (fun _=>condT (by first | rfl | (simp [Act.eval];omega))) rfl ?_;clear hF;intro _ hF)
   (refine hF.c (fun _=>stepG_region) rfl ?_;clear hF;intro _ hF;simp only [rg])
   iterate 3 (((refine hF.o rfl ?_;clear hF;intro _ hF);refine goes_oper_k rfl rfl (by k_ne) (fun K hK=>?_);go_simp;refine hK _ _ ⟨zaad ?_,?_⟩;(intro e he;have hm:=mem_listed he;simp [go_sem, *] at hm);clear hK K;try w_num))
   ((refine hF.o rfl ?_;clear hF;intro _ hF);refine goes_oper_k rfl rfl (by k_ne) (fun Kx hKx=>?_);have hcv:=run_convert_to_unsafe (P:=P) H.underlying_tPU32 H.underlying_tUP H.room_tU32 hF.cell1.choose_spec;have hce:=fun es=>events_convert_to_unsafe (P:=P) H.underlying_tPU32 H.underlying_tUP H.room_tU32 hF.cell1.choose_spec es;go_simp;refine hKx _ _ ⟨zaad ?_,?_⟩;(intro ex hex;have hmx:=mem_listed hex;simp [go_sem,hce] at hmx);clear hKx Kx hcv hce)
   refine Walk.psay (o:=1) rfl rfl hk (.inl rfl) (fun w₁=>stepG_markAt .read (by simp) rfl rfl (by k_ne) rfl H.f_raceRead (x_raceRead_n L) (x_raceRead_b L) (x_raceRead_x L) (x_raceRead_f L) (ad:=⟨wg,1,none⟩) (by simp [Act.eval])) fun w₁ r=>?_
   replace hF:=hF.rely r
   clear r
   walk_nrm
   (refine hF.c (fun _=>stepG_region_end) rfl ?_;clear hF;intro _ hF)
   iterate 2 ((refine hF.c (fun _=>stepG_seq) rfl ?_;clear hF;intro _ hF))
   (refine hF.c (fun _=>stepG_region) rfl ?_;clear hF;intro _ hF;simp only [rg])
   iterate 2 (((refine hF.o rfl ?_;clear hF;intro _ hF);refine goes_oper_k rfl rfl (by k_ne) (fun K hK=>?_);go_simp;refine hK _ _ ⟨zaad ?_,?_⟩;(intro e he;have hm:=mem_listed he;simp [go_sem, *] at hm);clear hK K;try w_num))
   (refine hF.c (fun _=>stepG_region_end) rfl ?_;clear hF;intro _ hF)
   (refine hF.c (fun _=>condF (by first | rfl | (simp [Act.eval];omega))) rfl ?_;clear hF;intro _ hF)
   (refine hF.c (fun _=>stepG_skip) rfl ?_;clear hF;intro _ hF)
   iterate 2 ((refine hF.c (fun _=>stepG_seq) rfl ?_;clear hF;intro _ hF))
   (refine hF.c (fun _=>stepG_region) rfl ?_;clear hF;intro _ hF;simp only [rg])
   iterate 3 (((refine hF.o rfl ?_;clear hF;intro _ hF);refine goes_oper_k rfl rfl (by k_ne) (fun K hK=>?_);go_simp;refine hK _ _ ⟨zaad ?_,?_⟩;(intro e he;have hm:=mem_listed he;simp [go_sem, *] at hm);clear hK K;try w_num))
   iterate 2 (((refine hF.c (fun _=>(stepG_unwanted rfl rfl)) rfl ?_;clear hF;intro _ hF);walk_nrm))
   iterate 2 (((refine hF.o rfl ?_;clear hF;intro _ hF);refine goes_oper_k rfl rfl (by k_ne) (fun K hK=>?_);go_simp;refine hK _ _ ⟨zaad ?_,?_⟩;(intro e he;have hm:=mem_listed he;simp [go_sem, *] at hm);clear hK K;try w_num))
   iterate 4 (((refine hF.c (fun _=>(stepG_unwanted rfl rfl)) rfl ?_;clear hF;intro _ hF);walk_nrm))
   ((refine hF.o rfl ?_;clear hF;intro _ hF);refine goes_oper_k rfl rfl (by k_ne) (fun K hK=>?_);go_simp;refine hK _ _ ⟨zaad ?_,?_⟩;(intro e he;have hm:=mem_listed he;simp [go_sem, *] at hm);clear hK K;try w_num)
   (refine hF.c (fun _=>stepG_region_end) rfl ?_;clear hF;intro _ hF)
   (refine hF.c (fun _=>condF (by first | rfl | (simp [Act.eval];omega))) rfl ?_;clear hF;intro _ hF)
   (refine hF.c (fun _=>stepG_skip) rfl ?_;clear hF;intro _ hF)
   iterate 2 ((refine hF.c (fun _=>stepG_seq) rfl ?_;clear hF;intro _ hF))
   (refine hF.c (fun _=>stepG_region) rfl ?_;clear hF;intro _ hF;simp only [rg])
   iterate 3 (((refine hF.o rfl ?_;clear hF;intro _ hF);refine goes_oper_k rfl rfl (by k_ne) (fun K hK=>?_);go_simp;refine hK _ _ ⟨zaad ?_,?_⟩;(intro e he;have hm:=mem_listed he;simp [go_sem, *] at hm);clear hK K;try w_num))
   iterate 2 (((refine hF.c (fun _=>(stepG_unwanted rfl rfl)) rfl ?_;clear hF;intro _ hF);walk_nrm))
   ((refine hF.o rfl ?_;clear hF;intro _ hF);refine goes_oper_k rfl rfl (by k_ne) (fun K hK=>?_);go_simp;refine hK _ _ ⟨zaad ?_,?_⟩;(intro e he;have hm:=mem_listed he;simp [go_sem, *] at hm);clear hK K;try w_num)
   (refine hF.c (fun _=>stepG_region_end) rfl ?_;clear hF;intro _ hF)
   (refine hF.c (fun _=>condT (by first | rfl | (simp [Act.eval];omega))) rfl ?_;clear hF;intro _ hF)
   (refine hF.c (fun _=>stepG_ret') rfl ?_;clear hF;intro _ hF)
   refine Walk.pmark rfl rfl (fun _ _=>.ena) (fun w₁=>stepG_unwind_entry (v:=.tuple #[]) (evs:= #[mk .enable]) rfl H.f_enable (x_enable_n L) (x_enable_b L) (x_enable_x L) (x_enable_f L) (by simp [Extern.Race.none_]) (by simp [mk]) (by simp [mk])) fun w₁ r=>?_
   replace hF:=(hF.rely r).tag rfl .pend
   clear r
   refine Walk.leave rfl rfl H.f_add rfl fun w₁ r=>?_
   exact hT w₁ (hF.rely r)
 · -- one more
   obtain ⟨V,hV⟩:∃V:Int,V=((v+1:Nat):Int):=⟨_,rfl⟩
   obtain ⟨S,hS⟩:∃S:Int,S=V * KK:=⟨_,rfl⟩
   have eS:IntKind.u64.wrap ((v:Int) * KK+4294967296)=S:=by rw [IntKind.wrap_u64,hS,hV];simp only [KK];omega
   rw [<- hV, <- hS]
   have a1:S / 4294967296=V:=by rw [hS];simp only [KK];omega
   have b1:bits .and .u64 S 2147483648=0:=by rw [hS,hV];have:=st_flag (v+1) 0 (by omega) (by omega);simpa [KK] using this
   have b2:bits .and .u64 S 2147483647=0:=by rw [hS,hV];have:=st_waiters (v+1) 0 (by omega) (by omega);simpa [KK] using this
   have c1:IntKind.i32.wrap V=V:=by rw [IntKind.wrap_i32];omega
   have hV1:1<V:=by omega
   have hV2:V<2147483648:=by omega
   have q1:(V == 1)=false:=by simp;omega
   have q2:decide (V=1)=false:=decide_eq_false (by omega)
   have q3:decide (V<0)=false:=decide_eq_false (by omega)
   have q4:decide (0<V)=true:=decide_eq_true (by omega)
   have q5:(V == 0)=false:=by simp;omega
   have q6:decide (V=0)=false:=decide_eq_false (by omega)
   refine ⟨_,(stepG_add_atomic rfl rfl (by k_ne) rfl H.f_addU64 (x_addU64_n L) (x_addU64_b L) (x_addU64_x L) .u64 (x_addU64_f L) rfl rfl (WgAt.cellSt hw) (WgAt.thaw hw 0)).trans (by rw [eS];rfl),?_⟩
   replace hF:=(hF.set ho hr S 0).tag rfl .added
   clear hw hS hV eS
   walk_nrm
   ((refine hF.o rfl ?_;clear hF;intro _ hF);refine goes_oper_k rfl rfl (by k_ne) (fun K hK=>?_);go_simp;refine hK _ _ ⟨zaad ?_,?_⟩;(intro e he;have hm:=mem_listed he;simp [go_sem, *] at hm);clear hK K;try w_num)
   (refine hF.c (fun _=>stepG_region_end) rfl ?_;clear hF;intro _ hF)
   (refine hF.c (fun _=>stepG_ret') rfl ?_;clear hF;intro _ hF)
   ((refine hF.o rfl ?_;clear hF;intro _ hF);refine goes_leave1 rfl rfl H.f_uAdd rfl ⟨StillW.nil _ _,?_⟩;walk_nrm)
   ((refine hF.o rfl ?_;clear hF;intro _ hF);refine goes_oper_k rfl rfl (by k_ne) (fun K hK=>?_);go_simp;refine hK _ _ ⟨zaad ?_,?_⟩;(intro e he;have hm:=mem_listed he;simp [go_sem, *] at hm);clear hK K;try w_num)
   (refine hF.c (fun _=>stepG_region_end) rfl ?_;clear hF;intro _ hF)
   iterate 2 ((refine hF.c (fun _=>stepG_seq) rfl ?_;clear hF;intro _ hF))
   (refine hF.c (fun _=>stepG_region) rfl ?_;clear hF;intro _ hF;simp only [rg])
   iterate 4 (((refine hF.o rfl ?_;clear hF;intro _ hF);refine goes_oper_k rfl rfl (by k_ne) (fun K hK=>?_);go_simp;refine hK _ _ ⟨zaad ?_,?_⟩;(intro e he;have hm:=mem_listed he;simp [go_sem, *] at hm);clear hK K;try w_num))
   iterate 2 (((refine hF.c (fun _=>(stepG_unwanted rfl rfl)) rfl ?_;clear hF;intro _ hF);walk_nrm))
   ((refine hF.o rfl ?_;clear hF;intro _ hF);refine goes_oper_k rfl rfl (by k_ne) (fun K hK=>?_);go_simp;refine hK _ _ ⟨zaad ?_,?_⟩;(intro e he;have hm:=mem_listed he;simp [go_sem, *] at hm);clear hK K;try w_num)
   (refine hF.c (fun _=>stepG_region_end) rfl ?_;clear hF;intro _ hF)
   (refine hF.c (fun _=>condF (by first | rfl | (simp [Act.eval];omega))) rfl ?_;clear hF;intro _ hF)
   (refine hF.c (fun _=>stepG_skip) rfl ?_;clear hF;intro _ hF)
   (refine hF.c (fun _=>stepG_seq) rfl ?_;clear hF;intro _ hF)
   (refine hF.c (fun _=>stepG_region) rfl ?_;clear hF;intro _ hF;simp only [rg])
   iterate 4 (((refine hF.o rfl ?_;clear hF;intro _ hF);refine goes_oper_k rfl rfl (by k_ne) (fun K hK=>?_);go_simp;refine hK _ _ ⟨zaad ?_,?_⟩;(intro e he;have hm:=mem_listed he;simp [go_sem, *] at hm);clear hK K;try w_num))
   (refine hF.c (fun _=>stepG_region_end) rfl ?_;clear hF;intro _ hF)
   (refine hF.c (fun _=>stepG_seq) rfl ?_;clear hF;intro _ hF)
   (refine hF.c (fun _=>stepG_region) rfl ?_;clear hF;intro _ hF;simp only [rg])
   iterate 4 (((refine hF.o rfl ?_;clear hF;intro _ hF);refine goes_oper_k rfl rfl (by k_ne) (fun K hK=>?_);go_simp;refine hK _ _ ⟨zaad ?_,?_⟩;(intro e he;have hm:=mem_listed he;simp [go_sem, *] at hm);clear hK K;try w_num))
   (refine hF.c (fun _=>stepG_region_end) rfl ?_;clear hF;intro _ hF)
   iterate 2 ((refine hF.c (fun _=>stepG_seq) rfl ?_;clear hF;intro _ hF))
   (refine hF.c (fun _=>stepG_region) rfl ?_;clear hF;intro _ hF;simp only [rg])
   iterate 10 (((refine hF.o rfl ?_;clear hF;intro _ hF);refine goes_oper_k rfl rfl (by k_ne) (fun K hK=>?_);go_simp;refine hK _ _ ⟨zaad ?_,?_⟩;(intro e he;have hm:=mem_listed he;simp [go_sem, *] at hm);clear hK K;try w_num))
   (refine hF.c (fun _=>stepG_region_end) rfl ?_;clear hF;intro _ hF)
   (refine hF.c (fun _=>condF (by first | rfl | (simp [Act.eval];omega))) rfl ?_;clear hF;intro _ hF)
   (refine hF.c (fun _=>stepG_skip) rfl ?_;clear hF;intro _ hF)
   iterate 2 ((refine hF.c (fun _=>stepG_seq) rfl ?_;clear hF;intro _ hF))
   (refine hF.c (fun _=>stepG_region) rfl ?_;clear hF;intro _ hF;simp only [rg])
   iterate 2 (((refine hF.o rfl ?_;clear hF;intro _ hF);refine goes_oper_k rfl rfl (by k_ne) (fun K hK=>?_);go_simp;refine hK _ _ ⟨zaad ?_,?_⟩;(intro e he;have hm:=mem_listed he;simp [go_sem, *] at hm);clear hK K;try w_num))
   (refine hF.c (fun _=>stepG_region_end) rfl ?_;clear hF;intro _ hF)
   (refine hF.c (fun _=>condF (by first | rfl | (simp [Act.eval];omega))) rfl ?_;clear hF;intro _ hF)
   (refine hF.c (fun _=>stepG_skip) rfl ?_;clear hF;intro _ hF)
   iterate 2 ((refine hF.c (fun _=>stepG_seq) rfl ?_;clear hF;intro _ hF))
   (refine hF.c (fun _=>stepG_region) rfl ?_;clear hF;intro _ hF;simp only [rg])
   iterate 3 (((refine hF.o rfl ?_;clear hF;intro _ hF);refine goes_oper_k rfl rfl (by k_ne) (fun K hK=>?_);go_simp;refine hK _ _ ⟨zaad ?_,?_⟩;(intro e he;have hm:=mem_listed he;simp [go_sem, *] at hm);clear hK K;try w_num))
   iterate 2 (((refine hF.c (fun _=>(stepG_unwanted rfl rfl)) rfl ?_;clear hF;intro _ hF);walk_nrm))
   iterate 2 (((refine hF.o rfl ?_;clear hF;intro _ hF);refine goes_oper_k rfl rfl (by k_ne) (fun K hK=>?_);go_simp;refine hK _ _ ⟨zaad ?_,?_⟩;(intro e he;have hm:=mem_listed he;simp [go_sem, *] at hm);clear hK K;try w_num))
   iterate 4 (((refine hF.c (fun _=>(stepG_unwanted rfl rfl)) rfl ?_;clear hF;intro _ hF);walk_nrm))
   ((refine hF.o rfl ?_;clear hF;intro _ hF);refine goes_oper_k rfl rfl (by k_ne) (fun K hK=>?_);go_simp;refine hK _ _ ⟨zaad ?_,?_⟩;(intro e he;have hm:=mem_listed he;simp [go_sem, *] at hm);clear hK K;try w_num)
   (refine hF.c (fun _=>stepG_region_end) rfl ?_;clear hF;intro _ hF)
   (refine hF.c (fun _=>condF (by first | rfl | (simp [Act.eval];omega))) rfl ?_;clear hF;intro _ hF)
   (refine hF.c (fun _=>stepG_skip) rfl ?_;clear hF;intro _ hF)
   iterate 2 ((refine hF.c (fun _=>stepG_seq) rfl ?_;clear hF;intro _ hF))
   (refine hF.c (fun _=>stepG_region) rfl ?_;clear hF;intro _ hF;simp only [rg])
   iterate 3 (((refine hF.o rfl ?_;clear hF;intro _ hF);refine goes_oper_k rfl rfl (by k_ne) (fun K hK=>?_);go_simp;refine hK _ _ ⟨zaad ?_,?_⟩;(intro e he;have hm:=mem_listed he;simp [go_sem, *] at hm);clear hK K;try w_num))
   iterate 2 (((refine hF.c (fun _=>(stepG_unwanted rfl rfl)) rfl ?_;clear hF;intro _ hF);walk_nrm))
   ((refine hF.o rfl ?_;clear hF;intro _ hF);refine goes_oper_k rfl rfl (by k_ne) (fun K hK=>?_);go_simp;refine hK _ _ ⟨zaad ?_,?_⟩;(intro e he;have hm:=mem_listed he;simp [go_sem, *] at hm);clear hK K;try w_num)
   (refine hF.c (fun _=>stepG_region_end) rfl ?_;clear hF;intro _ hF)
   (refine hF.c (fun _=>condT (by first | rfl | (simp [Act.eval];omega))) rfl ?_;clear hF;intro _ hF)
   (refine hF.c (fun _=>stepG_ret') rfl ?_;clear hF;intro _ hF)
   refine Walk.pmark rfl rfl (fun _ _=>.ena) (fun w₁=>stepG_unwind_entry (v:=.tuple #[]) (evs:= #[mk .enable]) rfl H.f_enable (x_enable_n L) (x_enable_b L) (x_enable_x L) (x_enable_f L) (by simp [Extern.Race.none_]) (by simp [mk]) (by simp [mk])) fun w₁ r=>?_
   replace hF:=(hF.rely r).tag rfl .pend
   clear r
   refine Walk.leave rfl rfl H.f_add rfl fun w₁ r=>?_
   exact hT w₁ (hF.rely r)
end
end Go.Co
namespace Go.Co
open Go Go.Conc Go.RowKit Go.Conc.Lib
open Go.ConcR (KK wgBlock WgAt stA smA rd wr mk)
open Go.ConcR.Gen
open Go.ConcN (st_flag st_waiters)
section
variable {P:Program} {L:WgLink} {Post:Value->World->Prop} {main:Bool} {s:LG} {w:World} {wg ch:Nat} {out:List Value}
theorem WS.ktag {ty:TypeId} {w₀:World} {n:Nat} (h:WS ty s wg w₀ w) (hs:s.kid=some ⟨ch,wg,out,n⟩) (n':Nat):WS ty { s with kid:=some ⟨ch,wg,out,n'⟩ } wg w₀ w:=
 ⟨⟨h.rel.tape,h.rel.os,h.rel.output,h.rel.size,h.rel.own,h.rel.ro,fun f e=>by cases e;exact h.rel.kid ⟨ch,wg,out,n⟩ hs,h.rel.fk⟩,h.live,.inr ⟨_,rfl,rfl⟩⟩
theorem Walk.kmark {ty:TypeId} {g g':Goroutine} {n n':Nat} {m:Mark} (hc:core g=g) (hs:s.kid=some ⟨ch,wg,out,n⟩) (hfk:s.fk=none) (h0:n≠0) (h6:n≠6) (h7:n'≠7) (hp:∀st sm,KT wg n st sm n' st sm #[ConcR.mk m])
 (hst:∀w₁,stepG P main g w₁ = .go g' w₁ #[ConcR.mk m]) (h:∀w₁,Rely ty s w w₁->Walk P ty Post main { s with kid:=some ⟨ch,wg,out,n'⟩ } g' w₁):Walk P ty Post main s g w:=
 .mk hc fun w₁ r=>.quit ⟨ch,wg,out,n⟩ hs hfk (fun e=>absurd e h6) h0 fun st sm hw hf=>⟨n',st,sm,_,g',hp st sm,by rw [zabu hw];exact hst w₁,fun e=>absurd e h7,fun _=>by rw [zabu hw];exact h w₁ r⟩
theorem Walk.kadd {ty:TypeId} {g:Goroutine} (hc:core g=g) (hs:s.kid=some ⟨ch,wg,out,3⟩) (hfk:s.fk=none)
 (
  h:∀w₁,Rely ty s w w₁->∀v wt:Nat,wt<=1->v<2147483647->WgAt ty wg w₁ ((v+1) * KK+wt) 0->∃g',stepG P main g w₁ = .go g' (w₁.setCell (stA wg) (.int .u64 (v * KK+wt))) #[rd (stA wg),wr (stA wg)] /\
  (¬ (v=0/\wt=1)->∃q,QuitsD P q 1 g')/\(v=0/\wt=1->Walk P ty Post main { s with kid:=some ⟨ch,wg,out,4⟩ } g' (setWg ty w₁ wg 1 0))):Walk P ty Post main s g w:=
 .mk hc fun w₁ r=>.quit ⟨ch,wg,out,3⟩ hs hfk (fun e=>by cases e) (show (3:Nat)≠0 by decide) fun st sm hw hf=>by
  obtain ⟨v,wt,h1,h2,rfl,rfl⟩:=hf
  obtain ⟨g',h3,h4,h5⟩:=h w₁ r v wt h1 h2 hw
  by_cases hl:v=0/\wt=1
  · obtain ⟨rfl,rfl⟩:=hl
    have e1:((0:Nat):Int) * KK+((1:Nat):Int)=1:=by simp
    have e2:(((0:Nat):Int)+1) * KK+((1:Nat):Int)=KK+1:=by simp
    rw [e1] at h3
    refine ⟨4,1,0,_,g',by rw [e2];exact .addl,by rw [h3,zadv hw],fun e=>(by cases e),fun _=>h5 ⟨rfl,rfl⟩⟩
  · exact ⟨7,_,_,_,g',.addq h1 hl,by rw [h3,zadv hw],fun _=>h4 hl,fun e=>absurd rfl e⟩
theorem Walk.kld {ty:TypeId} {g:Goroutine} (hc:core g=g) (hs:s.kid=some ⟨ch,wg,out,4⟩) (hfk:s.fk=none)
 (h:∀w₁,Rely ty s w w₁->WgAt ty wg w₁ 1 0->∃g',stepG P main g w₁ = .go g' w₁ #[rd (stA wg)]/\Walk P ty Post main { s with kid:=some ⟨ch,wg,out,5⟩ } g' w₁):Walk P ty Post main s g w:=
 .mk hc fun w₁ r=>.quit ⟨ch,wg,out,4⟩ hs hfk (fun e=>by cases e) (show (4:Nat)≠0 by decide) fun st sm hw hf=>by
  obtain ⟨rfl,rfl⟩:=hf
  have hw:WgAt ty wg w₁ _ _:=hw
  obtain ⟨g',h3,h4⟩:=h w₁ r hw
  exact ⟨5,1,0,_,g',.ld,by show _=GStep.go g' (setWg ty w₁ wg 1 0) _;rw [zabu hw];exact h3,fun e=>(by cases e),fun _=>by show Walk P ty Post main _ g' (setWg ty w₁ wg 1 0);rw [zabu hw];exact h4⟩
theorem Walk.kst {ty:TypeId} {g:Goroutine} (hc:core g=g) (hs:s.kid=some ⟨ch,wg,out,5⟩) (hfk:s.fk=none)
 (h:∀w₁,Rely ty s w w₁->WgAt ty wg w₁ 1 0->∃g',stepG P main g w₁ = .go g' (w₁.setCell (stA wg) (.int .u64 0)) #[wr (stA wg)]/\Walk P ty Post main { s with kid:=some ⟨ch,wg,out,6⟩ } g' (setWg ty w₁ wg 0 0)):Walk P ty Post main s g w:=
 .mk hc fun w₁ r=>.quit ⟨ch,wg,out,5⟩ hs hfk (fun e=>by cases e) (show (5:Nat)≠0 by decide) fun st sm hw hf=>by
  obtain ⟨rfl,rfl⟩:=hf
  have hw:WgAt ty wg w₁ _ _:=hw
  obtain ⟨g',h3,h4⟩:=h w₁ r hw
  exact ⟨6,0,0,_,g',.st,by rw [h3,zadv hw],fun e=>(by cases e),fun _=>h4⟩
theorem Walk.ksem {ty:TypeId} {g:Goroutine} (hc:core g=g) (hs:s.kid=some ⟨ch,wg,out,6⟩) (hfk:s.fk=none) (hm:mayWake P g=true)
 (h:∀w₁,Rely ty s w w₁->WgAt ty wg w₁ 0 0->∃g',stepG P main g w₁ = .go g' (w₁.setCell (smA wg) (.int .u32 1)) (semEvents (smA wg))/\∃q,QuitsD P q 1 g'):Walk P ty Post main s g w:=
 .mk hc fun w₁ r=>.quit ⟨ch,wg,out,6⟩ hs hfk (fun _=>hm) (show (6:Nat)≠0 by decide) fun st sm hw hf=>by
  obtain ⟨rfl,rfl⟩:=hf
  have hw:WgAt ty wg w₁ _ _:=hw
  obtain ⟨g',h3,h4⟩:=h w₁ r hw
  exact ⟨7,0,1,_,g',.sem,by rw [h3,zaiz hw],fun _=>h4,fun e=>absurd rfl e⟩
set_option maxRecDepth 100000 in
set_option maxHeartbeats 8000000 in
theorem zasm (H:WgLib P L) (hs:s.kid=some ⟨ch,wg,out,1⟩) (hfk:s.fk=none) (ho:¬ s.own wg) (hr:¬ s.ro wg) {w₀:World} (hF:WS L.tWg s wg w₀ w) {c:Frame} {cs:List Frame} {qt:Nat}
 (hcm:c.mode = .returning) (hT:QuitsD P qt 0 (G c cs)) :
 Walk P L.tWg Post false s (G ((baseD L.done).at { tmps:= #[.pointer (some ⟨wg,0,none⟩)]++Array.replicate ((doneFn L).ntmps - (#[Value.pointer (some ⟨wg,0,none⟩)]:Array Value).size) undef,defers:=[] } [.code ((doneFn L).body.getD .skip)]) (c::cs)) w:=by
 lib_facts
 walk_nrmf doneFn
 (refine hF.c (fun _=>stepG_region) rfl ?_;clear hF;intro _ hF;simp only [rg])
 ((refine hF.o rfl ?_;clear hF;intro _ hF);refine goes_oper_k rfl rfl (by k_ne) (fun K hK=>?_);go_simp;refine hK _ _ ⟨zaad ?_,?_⟩;(intro e he;have hm:=mem_listed he;simp [go_sem, *] at hm);clear hK K;try w_num)
 ((refine hF.o rfl ?_;clear hF;intro _ hF);refine goes_call rfl rfl (by k_ne) rfl H.f_add (nm_add L) rfl ⟨StillW.nil _ _,?_⟩;walk_nrmf addFn)
 (refine hF.c (fun _=>stepG_seq) rfl ?_;clear hF;intro _ hF)
 (refine hF.c (fun _=>condT (by first | rfl | (simp [Act.eval];omega))) rfl ?_;clear hF;intro _ hF)
 iterate 2 ((refine hF.c (fun _=>stepG_seq) rfl ?_;clear hF;intro _ hF))
 (refine hF.c (fun _=>stepG_region) rfl ?_;clear hF;intro _ hF;simp only [rg])
 iterate 2 (((refine hF.o rfl ?_;clear hF;intro _ hF);refine goes_oper_k rfl rfl (by k_ne) (fun K hK=>?_);go_simp;refine hK _ _ ⟨zaad ?_,?_⟩;(intro e he;have hm:=mem_listed he;simp [go_sem, *] at hm);clear hK K;try w_num))
 (refine hF.c (fun _=>stepG_region_end) rfl ?_;clear hF;intro _ hF)
 (refine hF.c (fun _=>condT (by first | rfl | (simp [Act.eval];omega))) rfl ?_;clear hF;intro _ hF)
 (refine hF.c (fun _=>stepG_region) rfl ?_;clear hF;intro _ hF;simp only [rg])
 ((refine hF.o rfl ?_;clear hF;intro _ hF);refine goes_oper_k rfl rfl (by k_ne) (fun K hK=>?_);go_simp;refine hK _ _ ⟨zaad ?_,?_⟩;(intro e he;have hm:=mem_listed he;simp [go_sem, *] at hm);clear hK K;try w_num)
 ((refine hF.o rfl ?_;clear hF;intro _ hF);refine goes_oper_k rfl rfl (by k_ne) (fun Kx hKx=>?_);have hcv:=run_convert_to_unsafe (P:=P) H.underlying_tWgP H.underlying_tUP H.room_tWg hF.cell0.choose_spec;have hce:=fun es=>events_convert_to_unsafe (P:=P) H.underlying_tWgP H.underlying_tUP H.room_tWg hF.cell0.choose_spec es;go_simp;refine hKx _ _ ⟨zaad ?_,?_⟩;(intro ex hex;have hmx:=mem_listed hex;simp [go_sem,hce] at hmx);clear hKx Kx hcv hce)
 refine Walk.kmark rfl hs hfk (by decide) (by decide) (by decide) (fun _ _=>.rel) (fun w₁=>stepG_markAt .releaseMerge (by simp) rfl rfl (by k_ne) rfl H.f_relMerge (x_relMerge_n L) (x_relMerge_b L) (x_relMerge_x L) (x_relMerge_f L) (by simp [Act.eval,stA])) fun w₁ r=>?_
 replace hF:=(hF.rely r).ktag hs 2
 clear r
 walk_nrm
 (refine hF.c (fun _=>stepG_region_end) rfl ?_;clear hF;intro _ hF)
 (refine hF.c (fun _=>stepG_seq) rfl ?_;clear hF;intro _ hF)
 (refine hF.c (fun _=>stepG_region) rfl ?_;clear hF;intro _ hF;simp only [rg])
 refine Walk.kmark rfl rfl hfk (by decide) (by decide) (by decide) (fun _ _=>.dis) (fun w₁=>stepG_mark0 .disable (by simp) rfl rfl (by k_ne) rfl H.f_disable (x_disable_n L) (x_disable_b L) (x_disable_x L) (x_disable_f L)) fun w₁ r=>?_
 replace hF:=(hF.rely r).ktag rfl 3
 clear r
 walk_nrm
 (refine hF.c (fun _=>stepG_region_end) rfl ?_;clear hF;intro _ hF)
 (refine hF.c (fun _=>stepG_region) rfl ?_;clear hF;intro _ hF;simp only [rg])
 ((refine hF.c (fun _=>(stepG_defer rfl rfl (by k_ne) rfl)) rfl ?_;clear hF;intro _ hF);walk_nrm)
 (refine hF.c (fun _=>stepG_region_end) rfl ?_;clear hF;intro _ hF)
 (refine hF.c (fun _=>stepG_seq) rfl ?_;clear hF;intro _ hF)
 (refine hF.c (fun _=>stepG_region) rfl ?_;clear hF;intro _ hF;simp only [rg])
 ((refine hF.o rfl ?_;clear hF;intro _ hF);refine goes_oper_k rfl rfl (by k_ne) (fun K hK=>?_);go_simp;refine hK _ _ ⟨zaad ?_,?_⟩;(intro e he;have hm:=mem_listed he;simp [go_sem, *] at hm);clear hK K;try w_num)
 (refine hF.c (fun _=>stepG_region_end) rfl ?_;clear hF;intro _ hF)
 iterate 2 ((refine hF.c (fun _=>stepG_seq) rfl ?_;clear hF;intro _ hF))
 (refine hF.c (fun _=>stepG_region) rfl ?_;clear hF;intro _ hF;simp only [rg])
 ((refine hF.c (fun _=>(stepG_entry_pure (.bool false) rfl rfl (by k_ne) rfl H.f_inBubble (x_inBubble_n L) (x_inBubble_b L) (x_inBubble_x L) (x_inBubble_f L))) rfl ?_;clear hF;intro _ hF);walk_nrm)
 (refine hF.c (fun _=>stepG_region_end) rfl ?_;clear hF;intro _ hF)
 (refine hF.c (fun _=>condF (by first | rfl | (simp [Act.eval];omega))) rfl ?_;clear hF;intro _ hF)
 (refine hF.c (fun _=>stepG_skip) rfl ?_;clear hF;intro _ hF)
 (refine hF.c (fun _=>stepG_seq) rfl ?_;clear hF;intro _ hF)
 (refine hF.c (fun _=>stepG_region) rfl ?_;clear hF;intro _ hF;simp only [rg])
 iterate 6 (((refine hF.o rfl ?_;clear hF;intro _ hF);refine goes_oper_k rfl rfl (by k_ne) (fun K hK=>?_);go_simp;refine hK _ _ ⟨zaad ?_,?_⟩;(intro e he;have hm:=mem_listed he;simp [go_sem, *] at hm);clear hK K;try w_num))
 ((refine hF.o rfl ?_;clear hF;intro _ hF);refine goes_call rfl rfl (by k_ne) rfl H.f_uAdd (nm_uAdd L) rfl ⟨StillW.nil _ _,?_⟩;walk_nrmf uAddFn)
 (refine hF.c (fun _=>stepG_seq) rfl ?_;clear hF;intro _ hF)
 (refine hF.c (fun _=>stepG_region) rfl ?_;clear hF;intro _ hF;simp only [rg])
 ((refine hF.o rfl ?_;clear hF;intro _ hF);refine goes_oper_k rfl rfl (by k_ne) (fun K hK=>?_);go_simp;refine hK _ _ ⟨zaad ?_,?_⟩;(intro e he;have hm:=mem_listed he;simp [go_sem, *] at hm);clear hK K;try w_num)
 (refine hF.c (fun _=>stepG_region_end) rfl ?_;clear hF;intro _ hF)
 (refine hF.c (fun _=>stepG_seq) rfl ?_;clear hF;intro _ hF)
 (refine hF.c (fun _=>stepG_region) rfl ?_;clear hF;intro _ hF;simp only [rg])
 iterate 4 (((refine hF.o rfl ?_;clear hF;intro _ hF);refine goes_oper_k rfl rfl (by k_ne) (fun K hK=>?_);go_simp;refine hK _ _ ⟨zaad ?_,?_⟩;(intro e he;have hm:=mem_listed he;simp [go_sem, *] at hm);clear hK K;try w_num))
 refine Walk.kadd rfl rfl hfk fun w₂ r v wt hwt hv hw=>?_
 replace hF:=hF.rely r
 clear r
 have e0:IntKind.u64.wrap (KK+18446744069414584320)=0:=by decide
 have e1:IntKind.u64.wrap (KK+1+18446744069414584320)=1:=by decide
 rcases Nat.eq_zero_or_pos v with rfl | hvp <;> (obtain rfl | rfl:wt=0\/wt=1:=by omega)
 · replace hw:WgAt L.tWg wg w₂ KK 0:=by simpa using hw
   have z:((0:Nat):Int) * KK+((0:Nat):Int)=0:=by simp
   rw [z]
   refine ⟨_,(stepG_add_atomic rfl rfl (by k_ne) rfl H.f_addU64 (x_addU64_n L) (x_addU64_b L) (x_addU64_x L) .u64 (x_addU64_f L) rfl rfl (WgAt.cellSt hw) (WgAt.thaw hw 0)).trans (by rw [e0];rfl),fun _=>⟨qt+92,?_⟩,fun hl=>absurd hl.2 (by decide)⟩
   clear hw hF
   walk_nrm
   (refine QuitsD.value (.int .u64 (0)) rfl rfl (by k_ne) (fun _=>by go_simp;try (first | omega | (w_num;omega) | w_num | decide)) (fun _=>by simp [go_sem, *]) ?_;walk_nrm)
   q_c stepG_region_end
   q_c stepG_ret'
   q_leave1 H.f_uAdd
   (refine QuitsD.value (.int .u64 (0)) rfl rfl (by k_ne) (fun _=>by go_simp;try (first | omega | (w_num;omega) | w_num | decide)) (fun _=>by simp [go_sem, *]) ?_;walk_nrm)
   q_c stepG_region_end
   iterate 2 (q_c stepG_seq)
   q_reg
   (refine QuitsD.value (.int .u64 (0)) rfl rfl (by k_ne) (fun _=>by go_simp;try (first | omega | (w_num;omega) | w_num | decide)) (fun _=>by simp [go_sem, *]) ?_;walk_nrm)
   (refine QuitsD.value (.int .u64 0) rfl rfl (by k_ne) (fun _=>by go_simp;try (first | omega | (w_num;omega) | w_num | decide)) (fun _=>by simp [go_sem, *]) ?_;walk_nrm)
   iterate 2 ((refine QuitsD.value (.bool false) rfl rfl (by k_ne) (fun _=>by go_simp;try (first | omega | (w_num;omega) | w_num | decide)) (fun _=>by simp [go_sem, *]) ?_;walk_nrm))
   iterate 2 (q_skip)
   (refine QuitsD.value (.bool false) rfl rfl (by k_ne) (fun _=>by go_simp;try (first | omega | (w_num;omega) | w_num | decide)) (fun _=>by simp [go_sem, *]) ?_;walk_nrm)
   q_c stepG_region_end
   q_cond false
   q_c stepG_skip
   q_c stepG_seq
   q_reg
   (refine QuitsD.value (.int .u64 (0)) rfl rfl (by k_ne) (fun _=>by go_simp;try (first | omega | (w_num;omega) | w_num | decide)) (fun _=>by simp [go_sem, *]) ?_;walk_nrm)
   (refine QuitsD.value (.int .u64 (0)) rfl rfl (by k_ne) (fun _=>by go_simp;try (first | omega | (w_num;omega) | w_num | decide)) (fun _=>by simp [go_sem, *]) ?_;walk_nrm)
   iterate 2 ((refine QuitsD.value (.int .i32 (0)) rfl rfl (by k_ne) (fun _=>by go_simp;try (first | omega | (w_num;omega) | w_num | decide)) (fun _=>by simp [go_sem, *]) ?_;walk_nrm))
   q_c stepG_region_end
   q_c stepG_seq
   q_reg
   (refine QuitsD.value (.int .u64 (0)) rfl rfl (by k_ne) (fun _=>by go_simp;try (first | omega | (w_num;omega) | w_num | decide)) (fun _=>by simp [go_sem, *]) ?_;walk_nrm)
   (refine QuitsD.value (.int .u64 0) rfl rfl (by k_ne) (fun _=>by go_simp;try (first | omega | (w_num;omega) | w_num | decide)) (fun _=>by simp [go_sem, *]) ?_;walk_nrm)
   iterate 2 ((refine QuitsD.value (.int .u32 0) rfl rfl (by k_ne) (fun _=>by go_simp;try (first | omega | (w_num;omega) | w_num | decide)) (fun _=>by simp [go_sem, *]) ?_;walk_nrm))
   q_c stepG_region_end
   iterate 2 (q_c stepG_seq)
   q_reg
   (refine QuitsD.value (.bool true) rfl rfl (by k_ne) (fun _=>by go_simp;try (first | omega | (w_num;omega) | w_num | decide)) (fun _=>by simp [go_sem, *]) ?_;walk_nrm)
   (refine QuitsD.value (.int .i64 (-1)) rfl rfl (by k_ne) (fun _=>by go_simp;try (first | omega | (w_num;omega) | w_num | decide)) (fun _=>by simp [go_sem, *]) ?_;walk_nrm)
   iterate 3 ((refine QuitsD.value (.bool false) rfl rfl (by k_ne) (fun _=>by go_simp;try (first | omega | (w_num;omega) | w_num | decide)) (fun _=>by simp [go_sem, *]) ?_;walk_nrm))
   iterate 4 (q_skip)
   (refine QuitsD.value (.bool false) rfl rfl (by k_ne) (fun _=>by go_simp;try (first | omega | (w_num;omega) | w_num | decide)) (fun _=>by simp [go_sem, *]) ?_;walk_nrm)
   q_c stepG_region_end
   q_cond false
   q_c stepG_skip
   iterate 2 (q_c stepG_seq)
   q_reg
   (refine QuitsD.value (.int .i32 (0)) rfl rfl (by k_ne) (fun _=>by go_simp;try (first | omega | (w_num;omega) | w_num | decide)) (fun _=>by simp [go_sem, *]) ?_;walk_nrm)
   (refine QuitsD.value (.bool false) rfl rfl (by k_ne) (fun _=>by go_simp;try (first | omega | (w_num;omega) | w_num | decide)) (fun _=>by simp [go_sem, *]) ?_;walk_nrm)
   q_c stepG_region_end
   q_cond false
   q_c stepG_skip
   iterate 2 (q_c stepG_seq)
   q_reg
   (refine QuitsD.value (.int .u32 0) rfl rfl (by k_ne) (fun _=>by go_simp;try (first | omega | (w_num;omega) | w_num | decide)) (fun _=>by simp [go_sem, *]) ?_;walk_nrm)
   iterate 2 ((refine QuitsD.value (.bool false) rfl rfl (by k_ne) (fun _=>by go_simp;try (first | omega | (w_num;omega) | w_num | decide)) (fun _=>by simp [go_sem, *]) ?_;walk_nrm))
   iterate 2 (q_skip)
   iterate 2 ((refine QuitsD.value (.bool false) rfl rfl (by k_ne) (fun _=>by go_simp;try (first | omega | (w_num;omega) | w_num | decide)) (fun _=>by simp [go_sem, *]) ?_;walk_nrm))
   iterate 4 (q_skip)
   (refine QuitsD.value (.bool false) rfl rfl (by k_ne) (fun _=>by go_simp;try (first | omega | (w_num;omega) | w_num | decide)) (fun _=>by simp [go_sem, *]) ?_;walk_nrm)
   q_c stepG_region_end
   q_cond false
   q_c stepG_skip
   iterate 2 (q_c stepG_seq)
   q_reg
   (refine QuitsD.value (.int .i32 0) rfl rfl (by k_ne) (fun _=>by go_simp;try (first | omega | (w_num;omega) | w_num | decide)) (fun _=>by simp [go_sem, *]) ?_;walk_nrm)
   iterate 2 ((refine QuitsD.value (.bool false) rfl rfl (by k_ne) (fun _=>by go_simp;try (first | omega | (w_num;omega) | w_num | decide)) (fun _=>by simp [go_sem, *]) ?_;walk_nrm))
   (refine QuitsD.value (.int .u32 0) rfl rfl (by k_ne) (fun _=>by go_simp;try (first | omega | (w_num;omega) | w_num | decide)) (fun _=>by simp [go_sem, *]) ?_;walk_nrm)
   iterate 2 ((refine QuitsD.value (.bool true) rfl rfl (by k_ne) (fun _=>by go_simp;try (first | omega | (w_num;omega) | w_num | decide)) (fun _=>by simp [go_sem, *]) ?_;walk_nrm))
   q_c stepG_region_end
   q_cond true
   (q_c stepG_ret';q_enable;q_leave0 H.f_add;q_c stepG_region_end;q_c stepG_end;exact QuitsD.leaveD rfl rfl H.f_done rfl hcm hT)
 · replace hw:WgAt L.tWg wg w₂ (KK+1) 0:=by simpa using hw
   have z:((0:Nat):Int) * KK+((1:Nat):Int)=1:=by simp
   rw [z]
   refine ⟨_,(stepG_add_atomic rfl rfl (by k_ne) rfl H.f_addU64 (x_addU64_n L) (x_addU64_b L) (x_addU64_x L) .u64 (x_addU64_f L) rfl rfl (WgAt.cellSt hw) (WgAt.thaw hw 0)).trans (by rw [e1];rfl),fun hl=>absurd ⟨rfl,rfl⟩ hl,fun _=>?_⟩
   replace hF:=(hF.set ho hr 1 0).ktag rfl 4
   clear hw
   walk_nrm
   ((refine hF.o rfl ?_;clear hF;intro _ hF);refine goes_oper_k rfl rfl (by k_ne) (fun K hK=>?_);go_simp;refine hK _ _ ⟨zaad ?_,?_⟩;(intro e he;have hm:=mem_listed he;simp [go_sem, *] at hm);clear hK K;try w_num)
   (refine hF.c (fun _=>stepG_region_end) rfl ?_;clear hF;intro _ hF)
   (refine hF.c (fun _=>stepG_ret') rfl ?_;clear hF;intro _ hF)
   ((refine hF.o rfl ?_;clear hF;intro _ hF);refine goes_leave1 rfl rfl H.f_uAdd rfl ⟨StillW.nil _ _,?_⟩;walk_nrm)
   ((refine hF.o rfl ?_;clear hF;intro _ hF);refine goes_oper_k rfl rfl (by k_ne) (fun K hK=>?_);go_simp;refine hK _ _ ⟨zaad ?_,?_⟩;(intro e he;have hm:=mem_listed he;simp [go_sem, *] at hm);clear hK K;try w_num)
   (refine hF.c (fun _=>stepG_region_end) rfl ?_;clear hF;intro _ hF)
   iterate 2 ((refine hF.c (fun _=>stepG_seq) rfl ?_;clear hF;intro _ hF))
   (refine hF.c (fun _=>stepG_region) rfl ?_;clear hF;intro _ hF;simp only [rg])
   iterate 4 (((refine hF.o rfl ?_;clear hF;intro _ hF);refine goes_oper_k rfl rfl (by k_ne) (fun K hK=>?_);go_simp;refine hK _ _ ⟨zaad ?_,?_⟩;(intro e he;have hm:=mem_listed he;simp [go_sem, *] at hm);clear hK K;try w_num))
   iterate 2 (((refine hF.c (fun _=>(stepG_unwanted rfl rfl)) rfl ?_;clear hF;intro _ hF);walk_nrm))
   ((refine hF.o rfl ?_;clear hF;intro _ hF);refine goes_oper_k rfl rfl (by k_ne) (fun K hK=>?_);go_simp;refine hK _ _ ⟨zaad ?_,?_⟩;(intro e he;have hm:=mem_listed he;simp [go_sem, *] at hm);clear hK K;try w_num)
   (refine hF.c (fun _=>stepG_region_end) rfl ?_;clear hF;intro _ hF)
   (refine hF.c (fun _=>condF (by first | rfl | (simp [Act.eval];omega))) rfl ?_;clear hF;intro _ hF)
   (refine hF.c (fun _=>stepG_skip) rfl ?_;clear hF;intro _ hF)
   (refine hF.c (fun _=>stepG_seq) rfl ?_;clear hF;intro _ hF)
   (refine hF.c (fun _=>stepG_region) rfl ?_;clear hF;intro _ hF;simp only [rg])
   iterate 4 (((refine hF.o rfl ?_;clear hF;intro _ hF);refine goes_oper_k rfl rfl (by k_ne) (fun K hK=>?_);go_simp;refine hK _ _ ⟨zaad ?_,?_⟩;(intro e he;have hm:=mem_listed he;simp [go_sem, *] at hm);clear hK K;try w_num))
   (refine hF.c (fun _=>stepG_region_end) rfl ?_;clear hF;intro _ hF)
   (refine hF.c (fun _=>stepG_seq) rfl ?_;clear hF;intro _ hF)
   (refine hF.c (fun _=>stepG_region) rfl ?_;clear hF;intro _ hF;simp only [rg])
   iterate 4 (((refine hF.o rfl ?_;clear hF;intro _ hF);refine goes_oper_k rfl rfl (by k_ne) (fun K hK=>?_);go_simp;refine hK _ _ ⟨zaad ?_,?_⟩;(intro e he;have hm:=mem_listed he;simp [go_sem, *] at hm);clear hK K;try w_num))
   (refine hF.c (fun _=>stepG_region_end) rfl ?_;clear hF;intro _ hF)
   iterate 2 ((refine hF.c (fun _=>stepG_seq) rfl ?_;clear hF;intro _ hF))
   (refine hF.c (fun _=>stepG_region) rfl ?_;clear hF;intro _ hF;simp only [rg])
   iterate 5 (((refine hF.o rfl ?_;clear hF;intro _ hF);refine goes_oper_k rfl rfl (by k_ne) (fun K hK=>?_);go_simp;refine hK _ _ ⟨zaad ?_,?_⟩;(intro e he;have hm:=mem_listed he;simp [go_sem, *] at hm);clear hK K;try w_num))
   iterate 4 (((refine hF.c (fun _=>(stepG_unwanted rfl rfl)) rfl ?_;clear hF;intro _ hF);walk_nrm))
   ((refine hF.o rfl ?_;clear hF;intro _ hF);refine goes_oper_k rfl rfl (by k_ne) (fun K hK=>?_);go_simp;refine hK _ _ ⟨zaad ?_,?_⟩;(intro e he;have hm:=mem_listed he;simp [go_sem, *] at hm);clear hK K;try w_num)
   (refine hF.c (fun _=>stepG_region_end) rfl ?_;clear hF;intro _ hF)
   (refine hF.c (fun _=>condF (by first | rfl | (simp [Act.eval];omega))) rfl ?_;clear hF;intro _ hF)
   (refine hF.c (fun _=>stepG_skip) rfl ?_;clear hF;intro _ hF)
   iterate 2 ((refine hF.c (fun _=>stepG_seq) rfl ?_;clear hF;intro _ hF))
   (refine hF.c (fun _=>stepG_region) rfl ?_;clear hF;intro _ hF;simp only [rg])
   iterate 2 (((refine hF.o rfl ?_;clear hF;intro _ hF);refine goes_oper_k rfl rfl (by k_ne) (fun K hK=>?_);go_simp;refine hK _ _ ⟨zaad ?_,?_⟩;(intro e he;have hm:=mem_listed he;simp [go_sem, *] at hm);clear hK K;try w_num))
   (refine hF.c (fun _=>stepG_region_end) rfl ?_;clear hF;intro _ hF)
   (refine hF.c (fun _=>condF (by first | rfl | (simp [Act.eval];omega))) rfl ?_;clear hF;intro _ hF)
   (refine hF.c (fun _=>stepG_skip) rfl ?_;clear hF;intro _ hF)
   iterate 2 ((refine hF.c (fun _=>stepG_seq) rfl ?_;clear hF;intro _ hF))
   (refine hF.c (fun _=>stepG_region) rfl ?_;clear hF;intro _ hF;simp only [rg])
   iterate 7 (((refine hF.o rfl ?_;clear hF;intro _ hF);refine goes_oper_k rfl rfl (by k_ne) (fun K hK=>?_);go_simp;refine hK _ _ ⟨zaad ?_,?_⟩;(intro e he;have hm:=mem_listed he;simp [go_sem, *] at hm);clear hK K;try w_num))
   iterate 4 (((refine hF.c (fun _=>(stepG_unwanted rfl rfl)) rfl ?_;clear hF;intro _ hF);walk_nrm))
   ((refine hF.o rfl ?_;clear hF;intro _ hF);refine goes_oper_k rfl rfl (by k_ne) (fun K hK=>?_);go_simp;refine hK _ _ ⟨zaad ?_,?_⟩;(intro e he;have hm:=mem_listed he;simp [go_sem, *] at hm);clear hK K;try w_num)
   (refine hF.c (fun _=>stepG_region_end) rfl ?_;clear hF;intro _ hF)
   (refine hF.c (fun _=>condF (by first | rfl | (simp [Act.eval];omega))) rfl ?_;clear hF;intro _ hF)
   (refine hF.c (fun _=>stepG_skip) rfl ?_;clear hF;intro _ hF)
   iterate 2 ((refine hF.c (fun _=>stepG_seq) rfl ?_;clear hF;intro _ hF))
   (refine hF.c (fun _=>stepG_region) rfl ?_;clear hF;intro _ hF;simp only [rg])
   iterate 6 (((refine hF.o rfl ?_;clear hF;intro _ hF);refine goes_oper_k rfl rfl (by k_ne) (fun K hK=>?_);go_simp;refine hK _ _ ⟨zaad ?_,?_⟩;(intro e he;have hm:=mem_listed he;simp [go_sem, *] at hm);clear hK K;try w_num))
   (refine hF.c (fun _=>stepG_region_end) rfl ?_;clear hF;intro _ hF)
   (refine hF.c (fun _=>condF (by first | rfl | (simp [Act.eval];omega))) rfl ?_;clear hF;intro _ hF)
   (refine hF.c (fun _=>stepG_skip) rfl ?_;clear hF;intro _ hF)
   iterate 2 ((refine hF.c (fun _=>stepG_seq) rfl ?_;clear hF;intro _ hF))
   (refine hF.c (fun _=>stepG_region) rfl ?_;clear hF;intro _ hF;simp only [rg])
   iterate 3 (((refine hF.o rfl ?_;clear hF;intro _ hF);refine goes_oper_k rfl rfl (by k_ne) (fun K hK=>?_);go_simp;refine hK _ _ ⟨zaad ?_,?_⟩;(intro e he;have hm:=mem_listed he;simp [go_sem, *] at hm);clear hK K;try w_num))
   ((refine hF.o rfl ?_;clear hF;intro _ hF);refine goes_call rfl rfl (by k_ne) rfl H.f_uLoad (nm_uLoad L) rfl ⟨StillW.nil _ _,?_⟩;walk_nrmf uLoadFn)
   (refine hF.c (fun _=>stepG_seq) rfl ?_;clear hF;intro _ hF)
   (refine hF.c (fun _=>stepG_region) rfl ?_;clear hF;intro _ hF;simp only [rg])
   ((refine hF.o rfl ?_;clear hF;intro _ hF);refine goes_oper_k rfl rfl (by k_ne) (fun K hK=>?_);go_simp;refine hK _ _ ⟨zaad ?_,?_⟩;(intro e he;have hm:=mem_listed he;simp [go_sem, *] at hm);clear hK K;try w_num)
   (refine hF.c (fun _=>stepG_region_end) rfl ?_;clear hF;intro _ hF)
   (refine hF.c (fun _=>stepG_seq) rfl ?_;clear hF;intro _ hF)
   (refine hF.c (fun _=>stepG_region) rfl ?_;clear hF;intro _ hF;simp only [rg])
   iterate 3 (((refine hF.o rfl ?_;clear hF;intro _ hF);refine goes_oper_k rfl rfl (by k_ne) (fun K hK=>?_);go_simp;refine hK _ _ ⟨zaad ?_,?_⟩;(intro e he;have hm:=mem_listed he;simp [go_sem, *] at hm);clear hK K;try w_num))
   refine Walk.kld rfl rfl hfk fun w₃ r hw=>⟨_,stepG_load_atomic rfl rfl (by k_ne) rfl H.f_loadU64 (x_loadU64_n L) (x_loadU64_b L) (x_loadU64_x L) .u64 (x_loadU64_f L) rfl (WgAt.cellSt hw),?_⟩
   replace hF:=(hF.rely r).ktag rfl 5
   clear r hw
   walk_nrm
   ((refine hF.o rfl ?_;clear hF;intro _ hF);refine goes_oper_k rfl rfl (by k_ne) (fun K hK=>?_);go_simp;refine hK _ _ ⟨zaad ?_,?_⟩;(intro e he;have hm:=mem_listed he;simp [go_sem, *] at hm);clear hK K;try w_num)
   (refine hF.c (fun _=>stepG_region_end) rfl ?_;clear hF;intro _ hF)
   (refine hF.c (fun _=>stepG_ret') rfl ?_;clear hF;intro _ hF)
   ((refine hF.o rfl ?_;clear hF;intro _ hF);refine goes_leave1 rfl rfl H.f_uLoad rfl ⟨StillW.nil _ _,?_⟩;walk_nrm)
   iterate 2 (((refine hF.o rfl ?_;clear hF;intro _ hF);refine goes_oper_k rfl rfl (by k_ne) (fun K hK=>?_);go_simp;refine hK _ _ ⟨zaad ?_,?_⟩;(intro e he;have hm:=mem_listed he;simp [go_sem, *] at hm);clear hK K;try w_num))
   (refine hF.c (fun _=>stepG_region_end) rfl ?_;clear hF;intro _ hF)
   (refine hF.c (fun _=>condF (by first | rfl | (simp [Act.eval];omega))) rfl ?_;clear hF;intro _ hF)
   (refine hF.c (fun _=>stepG_skip) rfl ?_;clear hF;intro _ hF)
   (refine hF.c (fun _=>stepG_seq) rfl ?_;clear hF;intro _ hF)
   (refine hF.c (fun _=>stepG_region) rfl ?_;clear hF;intro _ hF;simp only [rg])
   iterate 3 (((refine hF.o rfl ?_;clear hF;intro _ hF);refine goes_oper_k rfl rfl (by k_ne) (fun K hK=>?_);go_simp;refine hK _ _ ⟨zaad ?_,?_⟩;(intro e he;have hm:=mem_listed he;simp [go_sem, *] at hm);clear hK K;try w_num))
   ((refine hF.o rfl ?_;clear hF;intro _ hF);refine goes_call rfl rfl (by k_ne) rfl H.f_uStore (nm_uStore L) rfl ⟨StillW.nil _ _,?_⟩;walk_nrmf uStoreFn)
   (refine hF.c (fun _=>stepG_region) rfl ?_;clear hF;intro _ hF;simp only [rg])
   iterate 4 (((refine hF.o rfl ?_;clear hF;intro _ hF);refine goes_oper_k rfl rfl (by k_ne) (fun K hK=>?_);go_simp;refine hK _ _ ⟨zaad ?_,?_⟩;(intro e he;have hm:=mem_listed he;simp [go_sem, *] at hm);clear hK K;try w_num))
   refine Walk.kst rfl rfl hfk fun w₄ r hw=>⟨_,stepG_store_atomic rfl rfl (by k_ne) rfl H.f_storeU64 (x_storeU64_n L) (x_storeU64_b L) (x_storeU64_x L) (x_storeU64_f L) rfl rfl (WgAt.cellSt hw) (WgAt.thaw hw 0),?_⟩
   replace hF:=((hF.rely r).set ho hr 0 0).ktag rfl 6
   clear r hw
   walk_nrm
   (refine hF.c (fun _=>stepG_region_end) rfl ?_;clear hF;intro _ hF)
   (refine hF.c (fun _=>stepG_end) rfl ?_;clear hF;intro _ hF)
   ((refine hF.o rfl ?_;clear hF;intro _ hF);refine goes_leave0 rfl rfl H.f_uStore rfl ⟨StillW.nil _ _,?_⟩;walk_nrm)
   (refine hF.c (fun _=>stepG_region_end) rfl ?_;clear hF;intro _ hF)
   iterate 2 ((refine hF.c (fun _=>stepG_seq) rfl ?_;clear hF;intro _ hF))
   (refine hF.c (fun _=>stepG_region) rfl ?_;clear hF;intro _ hF;simp only [rg])
   ((refine hF.o rfl ?_;clear hF;intro _ hF);refine goes_oper_k rfl rfl (by k_ne) (fun K hK=>?_);go_simp;refine hK _ _ ⟨zaad ?_,?_⟩;(intro e he;have hm:=mem_listed he;simp [go_sem, *] at hm);clear hK K;try w_num)
   (refine hF.c (fun _=>stepG_region_end) rfl ?_;clear hF;intro _ hF)
   (refine hF.c (fun _=>condF (by first | rfl | (simp [Act.eval];omega))) rfl ?_;clear hF;intro _ hF)
   (refine hF.c (fun _=>stepG_skip) rfl ?_;clear hF;intro _ hF)
   (refine hF.c (fun _=>stepG_block) rfl ?_;clear hF;intro _ hF)
   (refine hF.c (fun _=>stepG_loop) rfl ?_;clear hF;intro _ hF)
   iterate 2 ((refine hF.c (fun _=>stepG_seq) rfl ?_;clear hF;intro _ hF))
   (refine hF.c (fun _=>stepG_region) rfl ?_;clear hF;intro _ hF;simp only [rg])
   iterate 2 (((refine hF.o rfl ?_;clear hF;intro _ hF);refine goes_oper_k rfl rfl (by k_ne) (fun K hK=>?_);go_simp;refine hK _ _ ⟨zaad ?_,?_⟩;(intro e he;have hm:=mem_listed he;simp [go_sem, *] at hm);clear hK K;try w_num))
   (refine hF.c (fun _=>stepG_region_end) rfl ?_;clear hF;intro _ hF)
   (refine hF.c (fun _=>condT (by first | rfl | (simp [Act.eval];omega))) rfl ?_;clear hF;intro _ hF)
   (refine hF.c (fun _=>stepG_skip) rfl ?_;clear hF;intro _ hF)
   (refine hF.c (fun _=>stepG_seq) rfl ?_;clear hF;intro _ hF)
   (refine hF.c (fun _=>stepG_block) rfl ?_;clear hF;intro _ hF)
   (refine hF.c (fun _=>stepG_region) rfl ?_;clear hF;intro _ hF;simp only [rg])
   iterate 3 (((refine hF.o rfl ?_;clear hF;intro _ hF);refine goes_oper_k rfl rfl (by k_ne) (fun K hK=>?_);go_simp;refine hK _ _ ⟨zaad ?_,?_⟩;(intro e he;have hm:=mem_listed he;simp [go_sem, *] at hm);clear hK K;try w_num))
   refine Walk.ksem rfl rfl hfk (mayWake_entry rfl rfl H.f_semrelease (x_semrelease_b L)) fun w₅ r hw=>⟨_,(stepG_semrelease rfl rfl (by k_ne) rfl H.f_semrelease (x_semrelease_n L) (x_semrelease_b L) (x_semrelease_x L) (x_semrelease_f L) (by simp [Act.eval,smA]) (WgAt.cellSm hw) (WgAt.thaw hw 1)).trans (by rfl),qt+22,?_⟩
   clear hw hF r
   walk_nrm
   q_c stepG_region_end
   q_c stepG_inBlock
   q_reg
   (refine QuitsD.value (.int .u32 1) rfl rfl (by k_ne) (fun _=>by go_simp;try (first | omega | (w_num;omega) | w_num | decide)) (fun _=>by simp [go_sem, *]) ?_;walk_nrm)
   iterate 2 ((refine QuitsD.value (.int .u32 0) rfl rfl (by k_ne) (fun _=>by go_simp;try (first | omega | (w_num;omega) | w_num | decide)) (fun _=>by simp [go_sem, *]) ?_;walk_nrm))
   q_c stepG_region_end
   q_c stepG_inLoop
   iterate 2 (q_c stepG_seq)
   q_reg
   (refine QuitsD.value (.int .u32 0) rfl rfl (by k_ne) (fun _=>by go_simp;try (first | omega | (w_num;omega) | w_num | decide)) (fun _=>by simp [go_sem, *]) ?_;walk_nrm)
   (refine QuitsD.value (.bool false) rfl rfl (by k_ne) (fun _=>by go_simp;try (first | omega | (w_num;omega) | w_num | decide)) (fun _=>by simp [go_sem, *]) ?_;walk_nrm)
   q_c stepG_region_end
   q_cond false
   q_exit
   q_c stepG_end
   q_enable
   q_leave0 H.f_add
   q_c stepG_region_end
   q_c stepG_end
   exact QuitsD.leaveD rfl rfl H.f_done rfl hcm hT
 · replace hw:WgAt L.tWg wg w₂ (((v:Nat)+1) * KK+0) 0:=by simpa using hw
   have z:((v:Nat):Int) * KK+((0:Nat):Int)=(v:Int) * KK+0:=by simp
   rw [z]
   have eS:IntKind.u64.wrap (((v:Nat)+1) * KK+0+18446744069414584320)=(v:Int) * KK+0:=by rw [IntKind.wrap_u64];simp only [KK];omega
   obtain ⟨S,hS⟩:∃S:Int,S=(v:Int) * KK+0:=⟨_,rfl⟩
   rw [<- hS] at eS ⊢
   have a1:S / 4294967296=(v:Int):=by rw [hS];simp only [KK];omega
   have a2:0<=S/\S<9223372036854775808:=by rw [hS];simp only [KK];omega
   have b1:bits .and .u64 S 2147483648=0:=by rw [hS];have:=st_flag v 0 (by omega) (by omega);simpa [KK] using this
   have b2:bits .and .u64 S 2147483647=0:=by rw [hS];have:=st_waiters v 0 (by omega) (by omega);simpa [KK] using this
   clear hS z
   refine ⟨_,(stepG_add_atomic rfl rfl (by k_ne) rfl H.f_addU64 (x_addU64_n L) (x_addU64_b L) (x_addU64_x L) .u64 (x_addU64_f L) rfl rfl (WgAt.cellSt hw) (WgAt.thaw hw 0)).trans (by rw [eS];rfl),fun _=>⟨qt+92,?_⟩,fun hl=>absurd hl.1 (by omega)⟩
   clear hw hF
   walk_nrm
   (refine QuitsD.value (.int .u64 (S)) rfl rfl (by k_ne) (fun _=>by go_simp;try (first | omega | (w_num;omega) | w_num | decide)) (fun _=>by simp [go_sem, *]) ?_;walk_nrm)
   q_c stepG_region_end
   q_c stepG_ret'
   q_leave1 H.f_uAdd
   (refine QuitsD.value (.int .u64 (S)) rfl rfl (by k_ne) (fun _=>by go_simp;try (first | omega | (w_num;omega) | w_num | decide)) (fun _=>by simp [go_sem, *]) ?_;walk_nrm)
   q_c stepG_region_end
   iterate 2 (q_c stepG_seq)
   q_reg
   (refine QuitsD.value (.int .u64 (S)) rfl rfl (by k_ne) (fun _=>by go_simp;try (first | omega | (w_num;omega) | w_num | decide)) (fun _=>by simp [go_sem, *]) ?_;walk_nrm)
   (refine QuitsD.value (.int .u64 0) rfl rfl (by k_ne) (fun _=>by go_simp;try (first | omega | (w_num;omega) | w_num | decide)) (fun _=>by simp [go_sem, *]) ?_;walk_nrm)
   iterate 2 ((refine QuitsD.value (.bool false) rfl rfl (by k_ne) (fun _=>by go_simp;try (first | omega | (w_num;omega) | w_num | decide)) (fun _=>by simp [go_sem, *]) ?_;walk_nrm))
   iterate 2 (q_skip)
   (refine QuitsD.value (.bool false) rfl rfl (by k_ne) (fun _=>by go_simp;try (first | omega | (w_num;omega) | w_num | decide)) (fun _=>by simp [go_sem, *]) ?_;walk_nrm)
   q_c stepG_region_end
   q_cond false
   q_c stepG_skip
   q_c stepG_seq
   q_reg
   (refine QuitsD.value (.int .u64 (S)) rfl rfl (by k_ne) (fun _=>by go_simp;try (first | omega | (w_num;omega) | w_num | decide)) (fun _=>by simp [go_sem, *]) ?_;walk_nrm)
   (refine QuitsD.value (.int .u64 ((v:Int))) rfl rfl (by k_ne) (fun _=>by go_simp;try (first | omega | (w_num;omega) | w_num | decide)) (fun _=>by simp [go_sem, *]) ?_;walk_nrm)
   iterate 2 ((refine QuitsD.value (.int .i32 ((v:Int))) rfl rfl (by k_ne) (fun _=>by go_simp;try (first | omega | (w_num;omega) | w_num | decide)) (fun _=>by simp [go_sem, *]) ?_;walk_nrm))
   q_c stepG_region_end
   q_c stepG_seq
   q_reg
   (refine QuitsD.value (.int .u64 (S)) rfl rfl (by k_ne) (fun _=>by go_simp;try (first | omega | (w_num;omega) | w_num | decide)) (fun _=>by simp [go_sem, *]) ?_;walk_nrm)
   (refine QuitsD.value (.int .u64 0) rfl rfl (by k_ne) (fun _=>by go_simp;try (first | omega | (w_num;omega) | w_num | decide)) (fun _=>by simp [go_sem, *]) ?_;walk_nrm)
   iterate 2 ((refine QuitsD.value (.int .u32 0) rfl rfl (by k_ne) (fun _=>by go_simp;try (first | omega | (w_num;omega) | w_num | decide)) (fun _=>by simp [go_sem, *]) ?_;walk_nrm))
   q_c stepG_region_end
   iterate 2 (q_c stepG_seq)
   q_reg
   (refine QuitsD.value (.bool true) rfl rfl (by k_ne) (fun _=>by go_simp;try (first | omega | (w_num;omega) | w_num | decide)) (fun _=>by simp [go_sem, *]) ?_;walk_nrm)
   (refine QuitsD.value (.int .i64 (-1)) rfl rfl (by k_ne) (fun _=>by go_simp;try (first | omega | (w_num;omega) | w_num | decide)) (fun _=>by simp [go_sem, *]) ?_;walk_nrm)
   iterate 3 ((refine QuitsD.value (.bool false) rfl rfl (by k_ne) (fun _=>by go_simp;try (first | omega | (w_num;omega) | w_num | decide)) (fun _=>by simp [go_sem, *]) ?_;walk_nrm))
   iterate 4 (q_skip)
   (refine QuitsD.value (.bool false) rfl rfl (by k_ne) (fun _=>by go_simp;try (first | omega | (w_num;omega) | w_num | decide)) (fun _=>by simp [go_sem, *]) ?_;walk_nrm)
   q_c stepG_region_end
   q_cond false
   q_c stepG_skip
   iterate 2 (q_c stepG_seq)
   q_reg
   (refine QuitsD.value (.int .i32 ((v:Int))) rfl rfl (by k_ne) (fun _=>by go_simp;try (first | omega | (w_num;omega) | w_num | decide)) (fun _=>by simp [go_sem, *]) ?_;walk_nrm)
   (refine QuitsD.value (.bool false) rfl rfl (by k_ne) (fun _=>by go_simp;try (first | omega | (w_num;omega) | w_num | decide)) (fun _=>by simp [go_sem, *]) ?_;walk_nrm)
   q_c stepG_region_end
   q_cond false
   q_c stepG_skip
   iterate 2 (q_c stepG_seq)
   q_reg
   (refine QuitsD.value (.int .u32 0) rfl rfl (by k_ne) (fun _=>by go_simp;try (first | omega | (w_num;omega) | w_num | decide)) (fun _=>by simp [go_sem, *]) ?_;walk_nrm)
   iterate 2 ((refine QuitsD.value (.bool false) rfl rfl (by k_ne) (fun _=>by go_simp;try (first | omega | (w_num;omega) | w_num | decide)) (fun _=>by simp [go_sem, *]) ?_;walk_nrm))
   iterate 2 (q_skip)
   iterate 2 ((refine QuitsD.value (.bool false) rfl rfl (by k_ne) (fun _=>by go_simp;try (first | omega | (w_num;omega) | w_num | decide)) (fun _=>by simp [go_sem, *]) ?_;walk_nrm))
   iterate 4 (q_skip)
   (refine QuitsD.value (.bool false) rfl rfl (by k_ne) (fun _=>by go_simp;try (first | omega | (w_num;omega) | w_num | decide)) (fun _=>by simp [go_sem, *]) ?_;walk_nrm)
   q_c stepG_region_end
   q_cond false
   q_c stepG_skip
   iterate 2 (q_c stepG_seq)
   q_reg
   (refine QuitsD.value (.int .i32 ((v:Int))) rfl rfl (by k_ne) (fun _=>by go_simp;try (first | omega | (w_num;omega) | w_num | decide)) (fun _=>by simp [go_sem, *]) ?_;walk_nrm)
   iterate 2 ((refine QuitsD.value (.bool true) rfl rfl (by k_ne) (fun _=>by go_simp;try (first | omega | (w_num;omega) | w_num | decide)) (fun _=>by simp [go_sem, *]) ?_;walk_nrm))
   iterate 2 (q_skip)
   (refine QuitsD.value (.bool true) rfl rfl (by k_ne) (fun _=>by go_simp;try (first | omega | (w_num;omega) | w_num | decide)) (fun _=>by simp [go_sem, *]) ?_;walk_nrm)
   q_c stepG_region_end
   q_cond true
   (q_c stepG_ret';q_enable;q_leave0 H.f_add;q_c stepG_region_end;q_c stepG_end;exact QuitsD.leaveD rfl rfl H.f_done rfl hcm hT)
 · replace hw:WgAt L.tWg wg w₂ (((v:Nat)+1) * KK+1) 0:=by simpa using hw
   have z:((v:Nat):Int) * KK+((1:Nat):Int)=(v:Int) * KK+1:=by simp
   rw [z]
   have eS:IntKind.u64.wrap (((v:Nat)+1) * KK+1+18446744069414584320)=(v:Int) * KK+1:=by rw [IntKind.wrap_u64];simp only [KK];omega
   obtain ⟨S,hS⟩:∃S:Int,S=(v:Int) * KK+1:=⟨_,rfl⟩
   rw [<- hS] at eS ⊢
   have a1:S / 4294967296=(v:Int):=by rw [hS];simp only [KK];omega
   have a2:0<=S/\S<9223372036854775808:=by rw [hS];simp only [KK];omega
   have b1:bits .and .u64 S 2147483648=0:=by rw [hS];have:=st_flag v 1 (by omega) (by omega);simpa [KK] using this
   have b2:bits .and .u64 S 2147483647=1:=by rw [hS];have:=st_waiters v 1 (by omega) (by omega);simpa [KK] using this
   clear hS z
   refine ⟨_,(stepG_add_atomic rfl rfl (by k_ne) rfl H.f_addU64 (x_addU64_n L) (x_addU64_b L) (x_addU64_x L) .u64 (x_addU64_f L) rfl rfl (WgAt.cellSt hw) (WgAt.thaw hw 0)).trans (by rw [eS];rfl),fun _=>⟨qt+92,?_⟩,fun hl=>absurd hl.1 (by omega)⟩
   clear hw hF
   walk_nrm
   (refine QuitsD.value (.int .u64 (S)) rfl rfl (by k_ne) (fun _=>by go_simp;try (first | omega | (w_num;omega) | w_num | decide)) (fun _=>by simp [go_sem, *]) ?_;walk_nrm)
   q_c stepG_region_end
   q_c stepG_ret'
   q_leave1 H.f_uAdd
   (refine QuitsD.value (.int .u64 (S)) rfl rfl (by k_ne) (fun _=>by go_simp;try (first | omega | (w_num;omega) | w_num | decide)) (fun _=>by simp [go_sem, *]) ?_;walk_nrm)
   q_c stepG_region_end
   iterate 2 (q_c stepG_seq)
   q_reg
   (refine QuitsD.value (.int .u64 (S)) rfl rfl (by k_ne) (fun _=>by go_simp;try (first | omega | (w_num;omega) | w_num | decide)) (fun _=>by simp [go_sem, *]) ?_;walk_nrm)
   (refine QuitsD.value (.int .u64 0) rfl rfl (by k_ne) (fun _=>by go_simp;try (first | omega | (w_num;omega) | w_num | decide)) (fun _=>by simp [go_sem, *]) ?_;walk_nrm)
   iterate 2 ((refine QuitsD.value (.bool false) rfl rfl (by k_ne) (fun _=>by go_simp;try (first | omega | (w_num;omega) | w_num | decide)) (fun _=>by simp [go_sem, *]) ?_;walk_nrm))
   iterate 2 (q_skip)
   (refine QuitsD.value (.bool false) rfl rfl (by k_ne) (fun _=>by go_simp;try (first | omega | (w_num;omega) | w_num | decide)) (fun _=>by simp [go_sem, *]) ?_;walk_nrm)
   q_c stepG_region_end
   q_cond false
   q_c stepG_skip
   q_c stepG_seq
   q_reg
   (refine QuitsD.value (.int .u64 (S)) rfl rfl (by k_ne) (fun _=>by go_simp;try (first | omega | (w_num;omega) | w_num | decide)) (fun _=>by simp [go_sem, *]) ?_;walk_nrm)
   (refine QuitsD.value (.int .u64 ((v:Int))) rfl rfl (by k_ne) (fun _=>by go_simp;try (first | omega | (w_num;omega) | w_num | decide)) (fun _=>by simp [go_sem, *]) ?_;walk_nrm)
   iterate 2 ((refine QuitsD.value (.int .i32 ((v:Int))) rfl rfl (by k_ne) (fun _=>by go_simp;try (first | omega | (w_num;omega) | w_num | decide)) (fun _=>by simp [go_sem, *]) ?_;walk_nrm))
   q_c stepG_region_end
   q_c stepG_seq
   q_reg
   (refine QuitsD.value (.int .u64 (S)) rfl rfl (by k_ne) (fun _=>by go_simp;try (first | omega | (w_num;omega) | w_num | decide)) (fun _=>by simp [go_sem, *]) ?_;walk_nrm)
   (refine QuitsD.value (.int .u64 1) rfl rfl (by k_ne) (fun _=>by go_simp;try (first | omega | (w_num;omega) | w_num | decide)) (fun _=>by simp [go_sem, *]) ?_;walk_nrm)
   iterate 2 ((refine QuitsD.value (.int .u32 1) rfl rfl (by k_ne) (fun _=>by go_simp;try (first | omega | (w_num;omega) | w_num | decide)) (fun _=>by simp [go_sem, *]) ?_;walk_nrm))
   q_c stepG_region_end
   iterate 2 (q_c stepG_seq)
   q_reg
   (refine QuitsD.value (.bool true) rfl rfl (by k_ne) (fun _=>by go_simp;try (first | omega | (w_num;omega) | w_num | decide)) (fun _=>by simp [go_sem, *]) ?_;walk_nrm)
   (refine QuitsD.value (.int .i64 (-1)) rfl rfl (by k_ne) (fun _=>by go_simp;try (first | omega | (w_num;omega) | w_num | decide)) (fun _=>by simp [go_sem, *]) ?_;walk_nrm)
   iterate 3 ((refine QuitsD.value (.bool false) rfl rfl (by k_ne) (fun _=>by go_simp;try (first | omega | (w_num;omega) | w_num | decide)) (fun _=>by simp [go_sem, *]) ?_;walk_nrm))
   iterate 4 (q_skip)
   (refine QuitsD.value (.bool false) rfl rfl (by k_ne) (fun _=>by go_simp;try (first | omega | (w_num;omega) | w_num | decide)) (fun _=>by simp [go_sem, *]) ?_;walk_nrm)
   q_c stepG_region_end
   q_cond false
   q_c stepG_skip
   iterate 2 (q_c stepG_seq)
   q_reg
   (refine QuitsD.value (.int .i32 ((v:Int))) rfl rfl (by k_ne) (fun _=>by go_simp;try (first | omega | (w_num;omega) | w_num | decide)) (fun _=>by simp [go_sem, *]) ?_;walk_nrm)
   (refine QuitsD.value (.bool false) rfl rfl (by k_ne) (fun _=>by go_simp;try (first | omega | (w_num;omega) | w_num | decide)) (fun _=>by simp [go_sem, *]) ?_;walk_nrm)
   q_c stepG_region_end
   q_cond false
   q_c stepG_skip
   iterate 2 (q_c stepG_seq)
   q_reg
   (refine QuitsD.value (.int .u32 1) rfl rfl (by k_ne) (fun _=>by go_simp;try (first | omega | (w_num;omega) | w_num | decide)) (fun _=>by simp [go_sem, *]) ?_;walk_nrm)
   iterate 2 ((refine QuitsD.value (.bool true) rfl rfl (by k_ne) (fun _=>by go_simp;try (first | omega | (w_num;omega) | w_num | decide)) (fun _=>by simp [go_sem, *]) ?_;walk_nrm))
   (refine QuitsD.value (.int .i64 (-1)) rfl rfl (by k_ne) (fun _=>by go_simp;try (first | omega | (w_num;omega) | w_num | decide)) (fun _=>by simp [go_sem, *]) ?_;walk_nrm)
   iterate 3 ((refine QuitsD.value (.bool false) rfl rfl (by k_ne) (fun _=>by go_simp;try (first | omega | (w_num;omega) | w_num | decide)) (fun _=>by simp [go_sem, *]) ?_;walk_nrm))
   iterate 4 (q_skip)
   (refine QuitsD.value (.bool false) rfl rfl (by k_ne) (fun _=>by go_simp;try (first | omega | (w_num;omega) | w_num | decide)) (fun _=>by simp [go_sem, *]) ?_;walk_nrm)
   q_c stepG_region_end
   q_cond false
   q_c stepG_skip
   iterate 2 (q_c stepG_seq)
   q_reg
   (refine QuitsD.value (.int .i32 ((v:Int))) rfl rfl (by k_ne) (fun _=>by go_simp;try (first | omega | (w_num;omega) | w_num | decide)) (fun _=>by simp [go_sem, *]) ?_;walk_nrm)
   iterate 2 ((refine QuitsD.value (.bool true) rfl rfl (by k_ne) (fun _=>by go_simp;try (first | omega | (w_num;omega) | w_num | decide)) (fun _=>by simp [go_sem, *]) ?_;walk_nrm))
   iterate 2 (q_skip)
   (refine QuitsD.value (.bool true) rfl rfl (by k_ne) (fun _=>by go_simp;try (first | omega | (w_num;omega) | w_num | decide)) (fun _=>by simp [go_sem, *]) ?_;walk_nrm)
   q_c stepG_region_end
   q_cond true
   (q_c stepG_ret';q_enable;q_leave0 H.f_add;q_c stepG_region_end;q_c stepG_end;exact QuitsD.leaveD rfl rfl H.f_done rfl hcm hT)
end
end Go.Co
namespace Go.Co
open Go Go.Conc Go.RowKit Go.Conc.Lib
open Go.ConcR (KK wgBlock WgAt stA smA rd wr mk)
open Go.ConcR.Gen
open Go.ConcN (st_flag st_waiters)
section
variable {P:Program} {L:WgLink} {Post:Value->World->Prop} {main:Bool} {s:LG} {w:World} {wg:Nat} {kids:List (Nat×List Value×Bool)}
theorem Walk.pw1 {ty:TypeId} {g:Goroutine} {b:Nat} (hc:core g=g) (hs:s.fk=some ⟨wg,kids,.w1 b⟩)
 (h:∀w₁,Rely ty s w w₁->∀v:Nat,v<=b->v<2147483648->WgAt ty wg w₁ (v * KK) 0->∃g',stepG P main g w₁ = .go g' w₁ #[rd (stA wg)]/\(v=0->Walk P ty Post main { s with fk:=some ⟨wg,kids,.ke⟩ } g' w₁)/\(v≠0->Walk P ty Post main { s with fk:=some ⟨wg,kids,.w2 v⟩ } g' w₁)):Walk P ty Post main s g w:=
 .mk hc fun w₁ r=>.part ⟨wg,kids,.w1 b⟩ hs fun st sm hw hf=>by
  obtain ⟨v,h1,h2,rfl,rfl⟩:=hf
  obtain ⟨g',h3,h4,h5⟩:=h w₁ r v h1 h2 hw
  have e:=zabu (show WgAt ty wg w₁ _ _ from hw)
  by_cases hv:v=0
  · subst hv
    have z:((0:Nat):Int) * KK=0:=by simp
    rw [z] at e
    exact .inr ⟨.ke,0,0,_,g',by rw [z];exact .w1z,by show _=GStep.go g' (setWg ty w₁ wg 0 0) _;rw [e];exact h3,by show Walk P ty Post main _ g' (setWg ty w₁ wg 0 0);rw [e];exact h4 rfl⟩
  · exact .inr ⟨.w2 v,_,0,_,g',.w1n hv h1,by show _=GStep.go g' (setWg ty w₁ wg _ 0) _;rw [e];exact h3,by show Walk P ty Post main _ g' (setWg ty w₁ wg _ 0);rw [e];exact h5 hv⟩
theorem Walk.pw2 {ty:TypeId} {g:Goroutine} {v:Nat} (hc:core g=g) (hs:s.fk=some ⟨wg,kids,.w2 v⟩)
 (
  h:∀w₁,Rely ty s w w₁->∀v':Nat,v'<=v->v'<2147483648->WgAt ty wg w₁ (v' * KK) 0->(v'=v->∃g',stepG P main g w₁ = .go g' (w₁.setCell (stA wg) (.int .u64 (v * KK+1))) #[rd (stA wg),wr (stA wg)]/\Walk P ty Post main { s with fk:=some ⟨wg,kids,.w3⟩ } g' (setWg ty w₁ wg (v * KK+1) 0)) /\
  (v'<v->∃g',stepG P main g w₁ = .go g' w₁ #[rd (stA wg)]/\Walk P ty Post main { s with fk:=some ⟨wg,kids,.w1 v'⟩ } g' w₁)):Walk P ty Post main s g w:=
 .mk hc fun w₁ r=>.part ⟨wg,kids,.w2 v⟩ hs fun st sm hw hf=>by
  obtain ⟨v',h1,h0,h2,rfl,rfl⟩:=hf
  obtain ⟨h3,h4⟩:=h w₁ r v' h1 h2 hw
  have e:=zabu (show WgAt ty wg w₁ _ _ from hw)
  by_cases hv:v'=v
  · subst hv
    obtain ⟨g',h5,h6⟩:=h3 rfl
    exact .inr ⟨.w3,_,0,_,g',.w2h,by rw [h5,zadv (show WgAt ty wg w₁ _ _ from hw)],h6⟩
  · obtain ⟨g',h5,h6⟩:=h4 (by omega)
    exact .inr ⟨.w1 v',_,0,_,g',.w2m (by omega),by show _=GStep.go g' (setWg ty w₁ wg _ 0) _;rw [e];exact h5,by show Walk P ty Post main _ g' (setWg ty w₁ wg _ 0);rw [e];exact h6⟩
theorem Walk.pw3 {ty:TypeId} {g:Goroutine} (hc:core g=g) (hs:s.fk=some ⟨wg,kids,.w3⟩)
 (h1:∀w₁ st,WgAt ty wg w₁ st 0->stepG P main g w₁ = .go { g with status:=.blocked } w₁ #[])
 (h2:∀w₁,Rely ty s w w₁->WgAt ty wg w₁ 0 1->∃g',stepG P main g w₁ = .go g' (w₁.setCell (smA wg) (.int .u32 0)) (semEvents (smA wg))/\Walk P ty Post main { s with fk:=some ⟨wg,kids,.w4⟩ } g' (setWg ty w₁ wg 0 0)):Walk P ty Post main s g w:=
 .mk hc fun w₁ r=>.part ⟨wg,kids,.w3⟩ hs fun st sm hw hf=>by
  by_cases hz:sm=0
  · subst hz;exact .inl ⟨rfl,rfl,h1 w₁ st hw⟩
  · obtain ⟨rfl,rfl⟩:st=0/\sm=1:=hf.resolve_left hz
    obtain ⟨g',h3,h4⟩:=h2 w₁ r hw
    exact .inr ⟨.w4,0,0,_,g',.w3,by rw [h3,zaiz (show WgAt ty wg w₁ _ _ from hw)],h4⟩
theorem Walk.pw4 {ty:TypeId} {g:Goroutine} (hc:core g=g) (hs:s.fk=some ⟨wg,kids,.w4⟩)
 (h:∀w₁,Rely ty s w w₁->WgAt ty wg w₁ 0 0->∃g',stepG P main g w₁ = .go g' w₁ #[rd (stA wg)]/\Walk P ty Post main { s with fk:=some ⟨wg,kids,.ke⟩ } g' w₁):Walk P ty Post main s g w:=
 .mk hc fun w₁ r=>.part ⟨wg,kids,.w4⟩ hs fun st sm hw hf=>by
  obtain ⟨rfl,rfl⟩:=hf
  obtain ⟨g',h3,h4⟩:=h w₁ r hw
  have e:=zabu (show WgAt ty wg w₁ _ _ from hw)
  exact .inr ⟨.ke,0,0,_,g',.w4,by show _=GStep.go g' (setWg ty w₁ wg _ 0) _;rw [e];exact h3,by show Walk P ty Post main _ g' (setWg ty w₁ wg _ 0);rw [e];exact h4⟩
theorem Walk.pjoin {ty:TypeId} {g g':Goroutine} (hc:core g=g) (hs:s.fk=some ⟨wg,kids,.acq⟩) (hst:∀w₁,stepG P main g w₁ = .go g' w₁ #[ConcR.mk (.acquire (stA wg))])
 (h:∀w₁,Rely ty s w w₁->Walk P ty Post main { s with fk:=none } g' w₁):Walk P ty Post main s g w:=
 .mk hc fun w₁ r=>.join ⟨wg,kids,.acq⟩ g' hs rfl (hst w₁) (h w₁ r)
theorem Walk.pwdis {ty:TypeId} {g g':Goroutine} (hc:core g=g) (hs:s.fk=some ⟨wg,kids,.idle⟩) (hD:∀x∈kids,x.2.2=true) (hst:∀w₁,stepG P main g w₁ = .go g' w₁ #[ConcR.mk .disable])
 (h:∀w₁,Rely ty s w w₁->Walk P ty Post main { s with fk:=some ⟨wg,kids,.w1 kids.length⟩ } g' w₁):Walk P ty Post main s g w:=
 .pmark hc hs (fun _ _=>.wdis hD) hst h
structure WJ (ty:TypeId) (s:LG) (w₀ w:World):Prop where
 rel:Rely ty s w₀ w
theorem WJ.rely {ty:TypeId} {w₀ w₁:World} (h:WJ ty s w₀ w) (r:Rely ty s w w₁):WJ ty s w₀ w₁:=⟨h.rel.trans r⟩
theorem WJ.c {P:Program} {ty:TypeId} {Post:Value->World->Prop} {main:Bool} {s:LG} {w₀ w:World} {g g':Goroutine} (hF:WJ ty s w₀ w) (e:∀w,stepG P main g w = .go g' w #[]) (hc:core g=g) (h:∀w,WJ ty s w₀ w->Walk P ty Post main s g' w):Walk P ty Post main s g w:=
 .go1 hc fun w₁ h₁=>by rw [e];exact ⟨StillW.nil _ _,h _ (hF.rely h₁)⟩
theorem WJ.o {P:Program} {ty:TypeId} {Post:Value->World->Prop} {main:Bool} {s:LG} {w₀ w:World} {g:Goroutine} (hF:WJ ty s w₀ w) (hc:core g=g) (h:∀w,WJ ty s w₀ w->(stepG P main g w).goes fun g' w' es=>StillW s w w' es/\Walk P ty Post main s g' w'):Walk P ty Post main s g w:=
 .go1 hc fun w₁ h₁=>h _ (hF.rely h₁)
theorem WS.joined {ty:TypeId} {w₀:World} (h:WS ty s wg w₀ w):WJ ty { s with fk:=none } w₀ w:=
 ⟨⟨h.rel.tape,h.rel.os,h.rel.output,h.rel.size,h.rel.own,h.rel.ro,h.rel.kid,fun f e=>by cases e⟩⟩
set_option maxRecDepth 100000 in
set_option maxHeartbeats 8000000 in
theorem zap0 (H:WgLib P L) (ho:¬ s.own wg) (hr:¬ s.ro wg) (hk:∀k,s.kid=some k->k.st=0) {w₀:World} {c:Frame} {cs:List Frame}
 (hT:∀w₁,WJ L.tWg { s with fk:=none } w₀ w₁->Walk P L.tWg Post main { s with fk:=none } (G (c.finish (.tuple #[])) cs) w₁) (n:Nat) :
 ∀(w:World) (T:Array Value),T.size=84->T[0]?=some (.pointer (some ⟨wg,0,none⟩))->WS L.tWg { s with fk:=some ⟨wg,kids,.w1 n⟩ } wg w₀ w->
 Walk P L.tWg Post main { s with fk:=some ⟨wg,kids,.w1 n⟩ } (G ((base L.wait).at ⟨T,[]⟩ [.code (L7 L),.inLoop (L7 L),.inBlock 0]) (c::cs)) w:=by
 induction n using Nat.strongRecOn with
 | ind n ih=>
 intro w T hT84 t0 hF
 lib_facts
 obtain ⟨v0,v1,v2,v3,v4,v5,v6,v7,v8,v9,v10,v11,v12,v13,v14,v15,v16,v17,v18,v19,v20,v21,v22,v23,v24,v25,v26,v27,v28,v29,v30,v31,v32,v33,v34,v35,v36,v37,v38,v39,v40,v41,v42,v43,v44,v45,v46,v47,v48,v49,v50,v51,v52,v53,v54,v55,v56,v57,v58,v59,v60,v61,v62,v63,v64,v65,v66,v67,v68,v69,v70,v71,v72,v73,v74,v75,v76,v77,v78,v79,v80,v81,v82,v83,rfl⟩:=array84 T hT84
 simp only [List.getElem?_toArray,List.getElem?_cons_zero,Option.some.injEq] at t0
 subst t0
 clear hT84
 simp only [L7,body_wait,waitFn,Option.getD_some] at ih ⊢
 (refine hF.c (fun _=>stepG_block) rfl ?_;clear hF;intro _ hF)
 (refine hF.c (fun _=>stepG_seq) rfl ?_;clear hF;intro _ hF)
 (refine hF.c (fun _=>stepG_region) rfl ?_;clear hF;intro _ hF;simp only [rg])
 iterate 3 (((refine hF.o rfl ?_;clear hF;intro _ hF);refine goes_oper_k rfl rfl (by k_ne) (fun K hK=>?_);go_simp;refine hK _ _ ⟨zaad ?_,?_⟩;(intro e he;have hm:=mem_listed he;simp [go_sem, *] at hm);clear hK K;try w_num))
 ((refine hF.o rfl ?_;clear hF;intro _ hF);refine goes_call rfl rfl (by k_ne) rfl H.f_uLoad (nm_uLoad L) rfl ⟨StillW.nil _ _,?_⟩;walk_nrmf uLoadFn)
 (refine hF.c (fun _=>stepG_seq) rfl ?_;clear hF;intro _ hF)
 (refine hF.c (fun _=>stepG_region) rfl ?_;clear hF;intro _ hF;simp only [rg])
 ((refine hF.o rfl ?_;clear hF;intro _ hF);refine goes_oper_k rfl rfl (by k_ne) (fun K hK=>?_);go_simp;refine hK _ _ ⟨zaad ?_,?_⟩;(intro e he;have hm:=mem_listed he;simp [go_sem, *] at hm);clear hK K;try w_num)
 (refine hF.c (fun _=>stepG_region_end) rfl ?_;clear hF;intro _ hF)
 (refine hF.c (fun _=>stepG_seq) rfl ?_;clear hF;intro _ hF)
 (refine hF.c (fun _=>stepG_region) rfl ?_;clear hF;intro _ hF;simp only [rg])
 iterate 3 (((refine hF.o rfl ?_;clear hF;intro _ hF);refine goes_oper_k rfl rfl (by k_ne) (fun K hK=>?_);go_simp;refine hK _ _ ⟨zaad ?_,?_⟩;(intro e he;have hm:=mem_listed he;simp [go_sem, *] at hm);clear hK K;try w_num))
 refine Walk.pw1 rfl rfl fun w₁ r v hvn hv hw=>?_
 replace hF:=hF.rely r
 clear r
 rcases Nat.eq_zero_or_pos v with rfl | hvp
 · replace hw:WgAt L.tWg wg w₁ 0 0:=by simpa using hw
   refine ⟨_,stepG_load_atomic (v:=0) rfl rfl (by k_ne) rfl H.f_loadU64 (x_loadU64_n L) (x_loadU64_b L) (x_loadU64_x L) .u64 (x_loadU64_f L) rfl (WgAt.cellSt hw),fun _=>?_,fun h=>absurd rfl h⟩
   replace hF:=hF.tag rfl .ke
   clear hw ih
   walk_nrm
   ((refine hF.o rfl ?_;clear hF;intro _ hF);refine goes_oper_k rfl rfl (by k_ne) (fun K hK=>?_);go_simp;refine hK _ _ ⟨zaad ?_,?_⟩;(intro e he;have hm:=mem_listed he;simp [go_sem, *] at hm);clear hK K;try w_num)
   (refine hF.c (fun _=>stepG_region_end) rfl ?_;clear hF;intro _ hF)
   (refine hF.c (fun _=>stepG_ret') rfl ?_;clear hF;intro _ hF)
   ((refine hF.o rfl ?_;clear hF;intro _ hF);refine goes_leave1 rfl rfl H.f_uLoad rfl ⟨StillW.nil _ _,?_⟩;walk_nrm)
   ((refine hF.o rfl ?_;clear hF;intro _ hF);refine goes_oper_k rfl rfl (by k_ne) (fun K hK=>?_);go_simp;refine hK _ _ ⟨zaad ?_,?_⟩;(intro e he;have hm:=mem_listed he;simp [go_sem, *] at hm);clear hK K;try w_num)
   (refine hF.c (fun _=>stepG_region_end) rfl ?_;clear hF;intro _ hF)
   (refine hF.c (fun _=>stepG_seq) rfl ?_;clear hF;intro _ hF)
   (refine hF.c (fun _=>stepG_region) rfl ?_;clear hF;intro _ hF;simp only [rg])
   iterate 4 (((refine hF.o rfl ?_;clear hF;intro _ hF);refine goes_oper_k rfl rfl (by k_ne) (fun K hK=>?_);go_simp;refine hK _ _ ⟨zaad ?_,?_⟩;(intro e he;have hm:=mem_listed he;simp [go_sem, *] at hm);clear hK K;try w_num))
   (refine hF.c (fun _=>stepG_region_end) rfl ?_;clear hF;intro _ hF)
   (refine hF.c (fun _=>stepG_seq) rfl ?_;clear hF;intro _ hF)
   (refine hF.c (fun _=>stepG_region) rfl ?_;clear hF;intro _ hF;simp only [rg])
   iterate 4 (((refine hF.o rfl ?_;clear hF;intro _ hF);refine goes_oper_k rfl rfl (by k_ne) (fun K hK=>?_);go_simp;refine hK _ _ ⟨zaad ?_,?_⟩;(intro e he;have hm:=mem_listed he;simp [go_sem, *] at hm);clear hK K;try w_num))
   (refine hF.c (fun _=>stepG_region_end) rfl ?_;clear hF;intro _ hF)
   iterate 2 ((refine hF.c (fun _=>stepG_seq) rfl ?_;clear hF;intro _ hF))
   (refine hF.c (fun _=>stepG_region) rfl ?_;clear hF;intro _ hF;simp only [rg])
   iterate 2 (((refine hF.o rfl ?_;clear hF;intro _ hF);refine goes_oper_k rfl rfl (by k_ne) (fun K hK=>?_);go_simp;refine hK _ _ ⟨zaad ?_,?_⟩;(intro e he;have hm:=mem_listed he;simp [go_sem, *] at hm);clear hK K;try w_num))
   (refine hF.c (fun _=>stepG_region_end) rfl ?_;clear hF;intro _ hF)
   (refine hF.c (fun _=>condT (by first | rfl | (simp [Act.eval];omega))) rfl ?_;clear hF;intro _ hF)
   (refine hF.c (fun _=>stepG_seq) rfl ?_;clear hF;intro _ hF)
   (refine hF.c (fun _=>condT (by first | rfl | (simp [Act.eval];omega))) rfl ?_;clear hF;intro _ hF)
   (refine hF.c (fun _=>stepG_seq) rfl ?_;clear hF;intro _ hF)
   (refine hF.c (fun _=>stepG_region) rfl ?_;clear hF;intro _ hF;simp only [rg])
   refine Walk.pmark rfl rfl (fun _ _=>.ke) (fun w₁=>stepG_mark0 .enable (by simp) rfl rfl (by k_ne) rfl H.f_enable (x_enable_n L) (x_enable_b L) (x_enable_x L) (x_enable_f L)) fun w₁ r=>?_
   replace hF:=(hF.rely r).tag rfl .acq
   clear r
   walk_nrm
   (refine hF.c (fun _=>stepG_region_end) rfl ?_;clear hF;intro _ hF)
   (refine hF.c (fun _=>stepG_region) rfl ?_;clear hF;intro _ hF;simp only [rg])
   ((refine hF.o rfl ?_;clear hF;intro _ hF);refine goes_oper_k rfl rfl (by k_ne) (fun K hK=>?_);go_simp;refine hK _ _ ⟨zaad ?_,?_⟩;(intro e he;have hm:=mem_listed he;simp [go_sem, *] at hm);clear hK K;try w_num)
   ((refine hF.o rfl ?_;clear hF;intro _ hF);refine goes_oper_k rfl rfl (by k_ne) (fun Kx hKx=>?_);have hcv:=run_convert_to_unsafe (P:=P) H.underlying_tWgP H.underlying_tUP H.room_tWg hF.cell0.choose_spec;have hce:=fun es=>events_convert_to_unsafe (P:=P) H.underlying_tWgP H.underlying_tUP H.room_tWg hF.cell0.choose_spec es;go_simp;refine hKx _ _ ⟨zaad ?_,?_⟩;(intro ex hex;have hmx:=mem_listed hex;simp [go_sem,hce] at hmx);clear hKx Kx hcv hce)
   refine Walk.pjoin rfl rfl (fun w₁=>stepG_markAt .acquire (by simp) rfl rfl (by k_ne) rfl H.f_acquire (x_acquire_n L) (x_acquire_b L) (x_acquire_x L) (x_acquire_f L) (by simp [Act.eval,stA])) fun w₁ r=>?_
   replace hF:=(hF.rely r).joined
   clear r
   walk_nrm
   (refine hF.c (fun _=>stepG_region_end) rfl ?_;clear hF;intro _ hF)
   iterate 2 ((refine hF.c (fun _=>stepG_seq) rfl ?_;clear hF;intro _ hF))
   (refine hF.c (fun _=>stepG_region) rfl ?_;clear hF;intro _ hF;simp only [rg])
   iterate 8 (((refine hF.o rfl ?_;clear hF;intro _ hF);refine goes_oper_k rfl rfl (by k_ne) (fun K hK=>?_);go_simp;refine hK _ _ ⟨zaad ?_,?_⟩;(intro e he;have hm:=mem_listed he;simp [go_sem, *] at hm);clear hK K;try w_num))
   iterate 2 (((refine hF.c (fun _=>(stepG_unwanted rfl rfl)) rfl ?_;clear hF;intro _ hF);walk_nrm))
   ((refine hF.o rfl ?_;clear hF;intro _ hF);refine goes_oper_k rfl rfl (by k_ne) (fun K hK=>?_);go_simp;refine hK _ _ ⟨zaad ?_,?_⟩;(intro e he;have hm:=mem_listed he;simp [go_sem, *] at hm);clear hK K;try w_num)
   (refine hF.c (fun _=>stepG_region_end) rfl ?_;clear hF;intro _ hF)
   (refine hF.c (fun _=>condF (by first | rfl | (simp [Act.eval];omega))) rfl ?_;clear hF;intro _ hF)
   (refine hF.c (fun _=>stepG_skip) rfl ?_;clear hF;intro _ hF)
   (refine hF.c (fun _=>stepG_ret') rfl ?_;clear hF;intro _ hF)
   refine Walk.leave rfl rfl H.f_wait rfl fun w₁ r=>?_
   exact hT w₁ (hF.rely r)
 · obtain ⟨S,hS⟩:∃S:Int,(v:Int) * KK=S:=⟨_,rfl⟩
   have a1:S / 4294967296=(v:Int):=by rw [<- hS];simp only [KK];omega
   have b1:bits .and .u64 S 2147483648=0:=by rw [<- hS];have:=st_flag v 0 (by omega) (by omega);simpa [KK] using this
   have b2:bits .and .u64 S 2147483647=0:=by rw [<- hS];have:=st_waiters v 0 (by omega) (by omega);simpa [KK] using this
   have c1:IntKind.i32.wrap (v:Int)=(v:Int):=by rw [IntKind.wrap_i32];omega
   have u1:IntKind.u64.wrap (S+1)=S+1:=by rw [IntKind.wrap_u64, <- hS];simp only [KK];omega
   have q3:decide ((v:Int)<0)=false:=decide_eq_false (by omega)
   have q4:decide (0<(v:Int))=true:=decide_eq_true (by omega)
   have q5:((v:Int) == 0)=false:=by simp;omega
   have q6:decide ((v:Int)=0)=false:=decide_eq_false (by omega)
   rw [hS] at hw
   refine ⟨_,stepG_load_atomic (v:=S) rfl rfl (by k_ne) rfl H.f_loadU64 (x_loadU64_n L) (x_loadU64_b L) (x_loadU64_x L) .u64 (x_loadU64_f L) rfl (WgAt.cellSt hw),fun h0=>absurd h0 (by omega),fun _=>?_⟩
   replace hF:=hF.tag rfl (.w2 v)
   clear hw
   walk_nrm
   ((refine hF.o rfl ?_;clear hF;intro _ hF);refine goes_oper_k rfl rfl (by k_ne) (fun K hK=>?_);go_simp;refine hK _ _ ⟨zaad ?_,?_⟩;(intro e he;have hm:=mem_listed he;simp [go_sem, *] at hm);clear hK K;try w_num)
   (refine hF.c (fun _=>stepG_region_end) rfl ?_;clear hF;intro _ hF)
   (refine hF.c (fun _=>stepG_ret') rfl ?_;clear hF;intro _ hF)
   ((refine hF.o rfl ?_;clear hF;intro _ hF);refine goes_leave1 rfl rfl H.f_uLoad rfl ⟨StillW.nil _ _,?_⟩;walk_nrm)
   ((refine hF.o rfl ?_;clear hF;intro _ hF);refine goes_oper_k rfl rfl (by k_ne) (fun K hK=>?_);go_simp;refine hK _ _ ⟨zaad ?_,?_⟩;(intro e he;have hm:=mem_listed he;simp [go_sem, *] at hm);clear hK K;try w_num)
   (refine hF.c (fun _=>stepG_region_end) rfl ?_;clear hF;intro _ hF)
   (refine hF.c (fun _=>stepG_seq) rfl ?_;clear hF;intro _ hF)
   (refine hF.c (fun _=>stepG_region) rfl ?_;clear hF;intro _ hF;simp only [rg])
   iterate 4 (((refine hF.o rfl ?_;clear hF;intro _ hF);refine goes_oper_k rfl rfl (by k_ne) (fun K hK=>?_);go_simp;refine hK _ _ ⟨zaad ?_,?_⟩;(intro e he;have hm:=mem_listed he;simp [go_sem, *] at hm);clear hK K;try w_num))
   (refine hF.c (fun _=>stepG_region_end) rfl ?_;clear hF;intro _ hF)
   (refine hF.c (fun _=>stepG_seq) rfl ?_;clear hF;intro _ hF)
   (refine hF.c (fun _=>stepG_region) rfl ?_;clear hF;intro _ hF;simp only [rg])
   iterate 4 (((refine hF.o rfl ?_;clear hF;intro _ hF);refine goes_oper_k rfl rfl (by k_ne) (fun K hK=>?_);go_simp;refine hK _ _ ⟨zaad ?_,?_⟩;(intro e he;have hm:=mem_listed he;simp [go_sem, *] at hm);clear hK K;try w_num))
   (refine hF.c (fun _=>stepG_region_end) rfl ?_;clear hF;intro _ hF)
   iterate 2 ((refine hF.c (fun _=>stepG_seq) rfl ?_;clear hF;intro _ hF))
   (refine hF.c (fun _=>stepG_region) rfl ?_;clear hF;intro _ hF;simp only [rg])
   iterate 2 (((refine hF.o rfl ?_;clear hF;intro _ hF);refine goes_oper_k rfl rfl (by k_ne) (fun K hK=>?_);go_simp;refine hK _ _ ⟨zaad ?_,?_⟩;(intro e he;have hm:=mem_listed he;simp [go_sem, *] at hm);clear hK K;try w_num))
   (refine hF.c (fun _=>stepG_region_end) rfl ?_;clear hF;intro _ hF)
   (refine hF.c (fun _=>condF (by first | rfl | (simp [Act.eval];omega))) rfl ?_;clear hF;intro _ hF)
   (refine hF.c (fun _=>stepG_skip) rfl ?_;clear hF;intro _ hF)
   (refine hF.c (fun _=>stepG_seq) rfl ?_;clear hF;intro _ hF)
   (refine hF.c (fun _=>stepG_region) rfl ?_;clear hF;intro _ hF;simp only [rg])
   iterate 6 (((refine hF.o rfl ?_;clear hF;intro _ hF);refine goes_oper_k rfl rfl (by k_ne) (fun K hK=>?_);go_simp;refine hK _ _ ⟨zaad ?_,?_⟩;(intro e he;have hm:=mem_listed he;simp [go_sem, *] at hm);clear hK K;try w_num))
   ((refine hF.o rfl ?_;clear hF;intro _ hF);refine goes_call rfl rfl (by k_ne) rfl H.f_uCas (nm_uCas L) rfl ⟨StillW.nil _ _,?_⟩;walk_nrmf uCasFn)
   (refine hF.c (fun _=>stepG_seq) rfl ?_;clear hF;intro _ hF)
   (refine hF.c (fun _=>stepG_region) rfl ?_;clear hF;intro _ hF;simp only [rg])
   ((refine hF.o rfl ?_;clear hF;intro _ hF);refine goes_oper_k rfl rfl (by k_ne) (fun K hK=>?_);go_simp;refine hK _ _ ⟨zaad ?_,?_⟩;(intro e he;have hm:=mem_listed he;simp [go_sem, *] at hm);clear hK K;try w_num)
   (refine hF.c (fun _=>stepG_region_end) rfl ?_;clear hF;intro _ hF)
   (refine hF.c (fun _=>stepG_seq) rfl ?_;clear hF;intro _ hF)
   (refine hF.c (fun _=>stepG_region) rfl ?_;clear hF;intro _ hF;simp only [rg])
   iterate 5 (((refine hF.o rfl ?_;clear hF;intro _ hF);refine goes_oper_k rfl rfl (by k_ne) (fun K hK=>?_);go_simp;refine hK _ _ ⟨zaad ?_,?_⟩;(intro e he;have hm:=mem_listed he;simp [go_sem, *] at hm);clear hK K;try w_num))
   refine Walk.pw2 rfl rfl fun w₂ r v' hv2 hv' hw=>⟨fun e=>?_,fun e=>?_⟩
   · replace hF:=hF.rely r
     subst e
     rw [hS] at hw ⊢
     refine ⟨_,(stepG_cas_hit (v:=S) (n:=S+1) rfl rfl (by k_ne) rfl H.f_casU64 (x_casU64_n L) (x_casU64_b L) (x_casU64_x L) .u64 (x_casU64_f L) rfl rfl rfl (WgAt.cellSt hw) (WgAt.thaw hw 0)).trans (by rfl),?_⟩
     replace hF:=(hF.set ho hr (S+1) 0).tag rfl .w3
     clear hw r ih
     walk_nrm
     ((refine hF.o rfl ?_;clear hF;intro _ hF);refine goes_oper_k rfl rfl (by k_ne) (fun K hK=>?_);go_simp;refine hK _ _ ⟨zaad ?_,?_⟩;(intro e he;have hm:=mem_listed he;simp [go_sem, *] at hm);clear hK K;try w_num)
     (refine hF.c (fun _=>stepG_region_end) rfl ?_;clear hF;intro _ hF)
     (refine hF.c (fun _=>stepG_ret') rfl ?_;clear hF;intro _ hF)
     ((refine hF.o rfl ?_;clear hF;intro _ hF);refine goes_leave1 rfl rfl H.f_uCas rfl ⟨StillW.nil _ _,?_⟩;walk_nrm)
     (refine hF.c (fun _=>stepG_region_end) rfl ?_;clear hF;intro _ hF)
     (refine hF.c (fun _=>condT (by first | rfl | (simp [Act.eval];omega))) rfl ?_;clear hF;intro _ hF)
     iterate 2 ((refine hF.c (fun _=>stepG_seq) rfl ?_;clear hF;intro _ hF))
     (refine hF.c (fun _=>stepG_region) rfl ?_;clear hF;intro _ hF;simp only [rg])
     iterate 4 (((refine hF.o rfl ?_;clear hF;intro _ hF);refine goes_oper_k rfl rfl (by k_ne) (fun K hK=>?_);go_simp;refine hK _ _ ⟨zaad ?_,?_⟩;(intro e he;have hm:=mem_listed he;simp [go_sem, *] at hm);clear hK K;try w_num))
     (refine hF.c (fun _=>stepG_region_end) rfl ?_;clear hF;intro _ hF)
     (refine hF.c (fun _=>condT (by first | rfl | (simp [Act.eval];omega))) rfl ?_;clear hF;intro _ hF)
     (refine hF.c (fun _=>stepG_region) rfl ?_;clear hF;intro _ hF;simp only [rg])
     iterate 3 (((refine hF.o rfl ?_;clear hF;intro _ hF);refine goes_oper_k rfl rfl (by k_ne) (fun K hK=>?_);go_simp;refine hK _ _ ⟨zaad ?_,?_⟩;(intro e he;have hm:=mem_listed he;simp [go_sem, *] at hm);clear hK K;try w_num))
     ((refine hF.o rfl ?_;clear hF;intro _ hF);refine goes_oper_k rfl rfl (by k_ne) (fun Kx hKx=>?_);have hcv:=run_convert_to_unsafe (P:=P) H.underlying_tPU32 H.underlying_tUP H.room_tU32 hF.cell1.choose_spec;have hce:=fun es=>events_convert_to_unsafe (P:=P) H.underlying_tPU32 H.underlying_tUP H.room_tU32 hF.cell1.choose_spec es;go_simp;refine hKx _ _ ⟨zaad ?_,?_⟩;(intro ex hex;have hmx:=mem_listed hex;simp [go_sem,hce] at hmx);clear hKx Kx hcv hce)
     refine Walk.psay (o:=1) rfl rfl hk (.inr rfl) (fun w₁=>stepG_markAt .write (by simp) rfl rfl (by k_ne) rfl H.f_raceWrite (x_raceWrite_n L) (x_raceWrite_b L) (x_raceWrite_x L) (x_raceWrite_f L) (ad:=⟨wg,1,none⟩) (by simp [Act.eval])) fun w₁ r=>?_
     replace hF:=hF.rely r
     clear r
     walk_nrm
     (refine hF.c (fun _=>stepG_region_end) rfl ?_;clear hF;intro _ hF)
     (refine hF.c (fun _=>stepG_seq) rfl ?_;clear hF;intro _ hF)
     (refine hF.c (fun _=>stepG_region) rfl ?_;clear hF;intro _ hF;simp only [rg])
     ((refine hF.o rfl ?_;clear hF;intro _ hF);refine goes_oper_k rfl rfl (by k_ne) (fun K hK=>?_);go_simp;refine hK _ _ ⟨zaad ?_,?_⟩;(intro e he;have hm:=mem_listed he;simp [go_sem, *] at hm);clear hK K;try w_num)
     (refine hF.c (fun _=>stepG_region_end) rfl ?_;clear hF;intro _ hF)
     iterate 2 ((refine hF.c (fun _=>stepG_seq) rfl ?_;clear hF;intro _ hF))
     (refine hF.c (fun _=>stepG_region) rfl ?_;clear hF;intro _ hF;simp only [rg])
     iterate 4 (((refine hF.o rfl ?_;clear hF;intro _ hF);refine goes_oper_k rfl rfl (by k_ne) (fun K hK=>?_);go_simp;refine hK _ _ ⟨zaad ?_,?_⟩;(intro e he;have hm:=mem_listed he;simp [go_sem, *] at hm);clear hK K;try w_num))
     ((refine hF.c (fun _=>(stepG_unwanted rfl rfl)) rfl ?_;clear hF;intro _ hF);walk_nrm)
     ((refine hF.o rfl ?_;clear hF;intro _ hF);refine goes_oper_k rfl rfl (by k_ne) (fun K hK=>?_);go_simp;refine hK _ _ ⟨zaad ?_,?_⟩;(intro e he;have hm:=mem_listed he;simp [go_sem, *] at hm);clear hK K;try w_num)
     (refine hF.c (fun _=>stepG_region_end) rfl ?_;clear hF;intro _ hF)
     (refine hF.c (fun _=>condF (by first | rfl | (simp [Act.eval];omega))) rfl ?_;clear hF;intro _ hF)
     (refine hF.c (fun _=>stepG_skip) rfl ?_;clear hF;intro _ hF)
     (refine hF.c (fun _=>stepG_seq) rfl ?_;clear hF;intro _ hF)
     (refine hF.c (fun _=>stepG_region) rfl ?_;clear hF;intro _ hF;simp only [rg])
     iterate 4 (((refine hF.o rfl ?_;clear hF;intro _ hF);refine goes_oper_k rfl rfl (by k_ne) (fun K hK=>?_);go_simp;refine hK _ _ ⟨zaad ?_,?_⟩;(intro e he;have hm:=mem_listed he;simp [go_sem, *] at hm);clear hK K;try w_num))
     refine Walk.pw3 rfl rfl (fun w₁ st hw=>stepG_semacquire_wait rfl rfl rfl H.f_semacquire (x_semacquire_n L) (x_semacquire_b L) (x_semacquire_x L) (x_semacquire_f L) (by simp [Act.eval,smA]) (WgAt.cellSm hw)) fun w₃ r hw=>?_
     refine ⟨_,(stepG_semacquire (n:=1) rfl rfl (by k_ne) rfl H.f_semacquire (x_semacquire_n L) (x_semacquire_b L) (x_semacquire_x L) (x_semacquire_f L) (by simp [Act.eval,smA]) (WgAt.cellSm hw) (by k_ne) (WgAt.thaw hw 1)).trans (by rfl),?_⟩
     replace hF:=((hF.rely r).set ho hr 0 0).tag rfl .w4
     clear r hw
     walk_nrm
     (refine hF.c (fun _=>stepG_region_end) rfl ?_;clear hF;intro _ hF)
     (refine hF.c (fun _=>stepG_seq) rfl ?_;clear hF;intro _ hF)
     (refine hF.c (fun _=>stepG_region) rfl ?_;clear hF;intro _ hF;simp only [rg])
     iterate 3 (((refine hF.o rfl ?_;clear hF;intro _ hF);refine goes_oper_k rfl rfl (by k_ne) (fun K hK=>?_);go_simp;refine hK _ _ ⟨zaad ?_,?_⟩;(intro e he;have hm:=mem_listed he;simp [go_sem, *] at hm);clear hK K;try w_num))
     ((refine hF.o rfl ?_;clear hF;intro _ hF);refine goes_call rfl rfl (by k_ne) rfl H.f_uLoad (nm_uLoad L) rfl ⟨StillW.nil _ _,?_⟩;walk_nrmf uLoadFn)
     (refine hF.c (fun _=>stepG_seq) rfl ?_;clear hF;intro _ hF)
     (refine hF.c (fun _=>stepG_region) rfl ?_;clear hF;intro _ hF;simp only [rg])
     ((refine hF.o rfl ?_;clear hF;intro _ hF);refine goes_oper_k rfl rfl (by k_ne) (fun K hK=>?_);go_simp;refine hK _ _ ⟨zaad ?_,?_⟩;(intro e he;have hm:=mem_listed he;simp [go_sem, *] at hm);clear hK K;try w_num)
     (refine hF.c (fun _=>stepG_region_end) rfl ?_;clear hF;intro _ hF)
     (refine hF.c (fun _=>stepG_seq) rfl ?_;clear hF;intro _ hF)
     (refine hF.c (fun _=>stepG_region) rfl ?_;clear hF;intro _ hF;simp only [rg])
     iterate 3 (((refine hF.o rfl ?_;clear hF;intro _ hF);refine goes_oper_k rfl rfl (by k_ne) (fun K hK=>?_);go_simp;refine hK _ _ ⟨zaad ?_,?_⟩;(intro e he;have hm:=mem_listed he;simp [go_sem, *] at hm);clear hK K;try w_num))
     refine Walk.pw4 rfl rfl fun w₄ r hw=>⟨_,stepG_load_atomic (v:=0) rfl rfl (by k_ne) rfl H.f_loadU64 (x_loadU64_n L) (x_loadU64_b L) (x_loadU64_x L) .u64 (x_loadU64_f L) rfl (WgAt.cellSt hw),?_⟩
     replace hF:=(hF.rely r).tag rfl .ke
     clear r hw
     walk_nrm
     ((refine hF.o rfl ?_;clear hF;intro _ hF);refine goes_oper_k rfl rfl (by k_ne) (fun K hK=>?_);go_simp;refine hK _ _ ⟨zaad ?_,?_⟩;(intro e he;have hm:=mem_listed he;simp [go_sem, *] at hm);clear hK K;try w_num)
     (refine hF.c (fun _=>stepG_region_end) rfl ?_;clear hF;intro _ hF)
     (refine hF.c (fun _=>stepG_ret') rfl ?_;clear hF;intro _ hF)
     ((refine hF.o rfl ?_;clear hF;intro _ hF);refine goes_leave1 rfl rfl H.f_uLoad rfl ⟨StillW.nil _ _,?_⟩;walk_nrm)
     iterate 2 (((refine hF.o rfl ?_;clear hF;intro _ hF);refine goes_oper_k rfl rfl (by k_ne) (fun K hK=>?_);go_simp;refine hK _ _ ⟨zaad ?_,?_⟩;(intro e he;have hm:=mem_listed he;simp [go_sem, *] at hm);clear hK K;try w_num))
     (refine hF.c (fun _=>stepG_region_end) rfl ?_;clear hF;intro _ hF)
     (refine hF.c (fun _=>stepG_seq) rfl ?_;clear hF;intro _ hF)
     (refine hF.c (fun _=>condT (by first | rfl | (simp [Act.eval];omega))) rfl ?_;clear hF;intro _ hF)
     (refine hF.c (fun _=>stepG_seq) rfl ?_;clear hF;intro _ hF)
     (refine hF.c (fun _=>stepG_region) rfl ?_;clear hF;intro _ hF;simp only [rg])
     refine Walk.pmark rfl rfl (fun _ _=>.ke) (fun w₁=>stepG_mark0 .enable (by simp) rfl rfl (by k_ne) rfl H.f_enable (x_enable_n L) (x_enable_b L) (x_enable_x L) (x_enable_f L)) fun w₁ r=>?_
     replace hF:=(hF.rely r).tag rfl .acq
     clear r
     walk_nrm
     (refine hF.c (fun _=>stepG_region_end) rfl ?_;clear hF;intro _ hF)
     (refine hF.c (fun _=>stepG_region) rfl ?_;clear hF;intro _ hF;simp only [rg])
     ((refine hF.o rfl ?_;clear hF;intro _ hF);refine goes_oper_k rfl rfl (by k_ne) (fun K hK=>?_);go_simp;refine hK _ _ ⟨zaad ?_,?_⟩;(intro e he;have hm:=mem_listed he;simp [go_sem, *] at hm);clear hK K;try w_num)
     ((refine hF.o rfl ?_;clear hF;intro _ hF);refine goes_oper_k rfl rfl (by k_ne) (fun Kx hKx=>?_);have hcv:=run_convert_to_unsafe (P:=P) H.underlying_tWgP H.underlying_tUP H.room_tWg hF.cell0.choose_spec;have hce:=fun es=>events_convert_to_unsafe (P:=P) H.underlying_tWgP H.underlying_tUP H.room_tWg hF.cell0.choose_spec es;go_simp;refine hKx _ _ ⟨zaad ?_,?_⟩;(intro ex hex;have hmx:=mem_listed hex;simp [go_sem,hce] at hmx);clear hKx Kx hcv hce)
     refine Walk.pjoin rfl rfl (fun w₁=>stepG_markAt .acquire (by simp) rfl rfl (by k_ne) rfl H.f_acquire (x_acquire_n L) (x_acquire_b L) (x_acquire_x L) (x_acquire_f L) (by simp [Act.eval,stA])) fun w₁ r=>?_
     replace hF:=(hF.rely r).joined
     clear r
     walk_nrm
     (refine hF.c (fun _=>stepG_region_end) rfl ?_;clear hF;intro _ hF)
     iterate 2 ((refine hF.c (fun _=>stepG_seq) rfl ?_;clear hF;intro _ hF))
     (refine hF.c (fun _=>stepG_region) rfl ?_;clear hF;intro _ hF;simp only [rg])
     ((refine hF.o rfl ?_;clear hF;intro _ hF);refine goes_oper_k rfl rfl (by k_ne) (fun K hK=>?_);go_simp;refine hK _ _ ⟨zaad ?_,?_⟩;(intro e he;have hm:=mem_listed he;simp [go_sem, *] at hm);clear hK K;try w_num)
     (refine hF.c (fun _=>stepG_region_end) rfl ?_;clear hF;intro _ hF)
     (refine hF.c (fun _=>condF (by first | rfl | (simp [Act.eval];omega))) rfl ?_;clear hF;intro _ hF)
     (refine hF.c (fun _=>stepG_skip) rfl ?_;clear hF;intro _ hF)
     (refine hF.c (fun _=>stepG_ret') rfl ?_;clear hF;intro _ hF)
     refine Walk.leave rfl rfl H.f_wait rfl fun w₁ r=>?_
     exact hT w₁ (hF.rely r)
   · replace hF:=hF.rely r
     refine ⟨_,stepG_cas_miss (v:=(v':Int) * KK) (old:=S) (n:=S+1) rfl rfl (by k_ne) rfl H.f_casU64 (x_casU64_n L) (x_casU64_b L) (x_casU64_x L) .u64 (x_casU64_f L) rfl rfl rfl (WgAt.cellSt hw) (WgAt.thaw hw 0) (by rw [<- hS];simp only [KK];omega),?_⟩
     replace hF:=hF.tag rfl (.w1 v')
     clear hw r
     walk_nrm
     ((refine hF.o rfl ?_;clear hF;intro _ hF);refine goes_oper_k rfl rfl (by k_ne) (fun K hK=>?_);go_simp;refine hK _ _ ⟨zaad ?_,?_⟩;(intro e he;have hm:=mem_listed he;simp [go_sem, *] at hm);clear hK K;try w_num)
     (refine hF.c (fun _=>stepG_region_end) rfl ?_;clear hF;intro _ hF)
     (refine hF.c (fun _=>stepG_ret') rfl ?_;clear hF;intro _ hF)
     ((refine hF.o rfl ?_;clear hF;intro _ hF);refine goes_leave1 rfl rfl H.f_uCas rfl ⟨StillW.nil _ _,?_⟩;walk_nrm)
     (refine hF.c (fun _=>stepG_region_end) rfl ?_;clear hF;intro _ hF)
     (refine hF.c (fun _=>condF (by first | rfl | (simp [Act.eval];omega))) rfl ?_;clear hF;intro _ hF)
     (refine hF.c (fun _=>stepG_skip) rfl ?_;clear hF;intro _ hF)
     (refine hF.c (fun _=>stepG_inBlock) rfl ?_;clear hF;intro _ hF)
     (refine hF.c (fun _=>stepG_inLoop) rfl ?_;clear hF;intro _ hF)
     exact ih v' (by omega) _ _ (by simp) (by simp) hF
set_option maxRecDepth 100000 in
theorem zasz (H:WgLib P L) (hs:s.fk=some ⟨wg,kids,.idle⟩) (hD:∀x∈kids,x.2.2=true) (ho:¬ s.own wg) (hr:¬ s.ro wg) (hk:∀k,s.kid=some k->k.st=0) {w₀:World} (hF:WS L.tWg s wg w₀ w) {c:Frame} {cs:List Frame}
 (hT:∀w₁,WJ L.tWg { s with fk:=none } w₀ w₁->Walk P L.tWg Post main { s with fk:=none } (G (c.finish (.tuple #[])) cs) w₁) :
 Walk P L.tWg Post main s (G (Frame.enter P L.wait #[.pointer (some ⟨wg,0,none⟩)] .normal) (c::cs)) w:=by
 lib_facts
 have hL:=fun w T=>zap0 (kids:=kids) H ho hr hk hT kids.length w T
 simp only [L7,body_wait,waitFn,Option.getD_some] at hL
 rw [enter_at _ H.f_wait rfl]
 walk_nrmf waitFn
 (refine hF.c (fun _=>stepG_seq) rfl ?_;clear hF;intro _ hF)
 (refine hF.c (fun _=>condT (by first | rfl | (simp [Act.eval];omega))) rfl ?_;clear hF;intro _ hF)
 (refine hF.c (fun _=>stepG_region) rfl ?_;clear hF;intro _ hF;simp only [rg])
 refine Walk.pwdis rfl hs hD (fun w₁=>stepG_mark0 .disable (by simp) rfl rfl (by k_ne) rfl H.f_disable (x_disable_n L) (x_disable_b L) (x_disable_x L) (x_disable_f L)) fun w₁ r=>?_
 replace hF:=(hF.rely r).tag hs (.w1 kids.length)
 clear r
 walk_nrm
 (refine hF.c (fun _=>stepG_region_end) rfl ?_;clear hF;intro _ hF)
 (refine hF.c (fun _=>stepG_block) rfl ?_;clear hF;intro _ hF)
 (refine hF.c (fun _=>stepG_loop) rfl ?_;clear hF;intro _ hF)
 exact hL _ _ (by simp) (by simp) hF
end
end Go.Co
namespace Go.Co
open Go Go.Conc Go.RowKit
open Go.ConcR (KK wgBlock WgAt stA smA rd wr mk)
section
variable {P:Program} {ty:TypeId} {Post:Value->World->Prop} {main:Bool} {s:LG} {w:World} {wg ch:Nat} {g g' child:Goroutine}
theorem Walk.openG (hc:core g=g) (hfk:s.fk=none) (hk:∀k,s.kid=some k->k.st=0) (ho:s.own wg) (hr:¬ s.ro wg) (hst:∀w₁,stepG P main g w₁ = .go g' w₁ #[])
 (hat:WgAt ty wg w 0 0) (h:∀w₁,Rely ty s w w₁->Walk P ty Post main ⟨fun b=>s.own b/\b≠wg,s.ro,s.kid,some ⟨wg,[],.idle⟩⟩ g' w₁):Walk P ty Post main s g w:=
 .mk hc fun w₁ r=>.own ⟨fun b=>s.own b/\b≠wg,s.ro,s.kid,some ⟨wg,[],.idle⟩⟩ g' w₁ #[] (hst w₁)
  { tape:=rfl,os:=rfl,output:=rfl,size:=Nat.le_refl _,frame:=fun _ _ _=>rfl,own:=fun b hb=>.inl hb.1,ro:=fun b hb=>.inl hb,apart:=fun ha _ b hb hrb=>ha b hb.1 hrb,kid:=rfl,
    fk:=.inr ⟨hfk,hk,wg,rfl,ho,fun hb=>hb.2 rfl,hr,(r.own wg ho).trans hat⟩,ev:=fun e he=>absurd he (by simp),mute:=fun _ _ _=>rfl } (h w₁ r)
theorem Walk.give (A:Nat->Prop) (hA:∀b,A b->s.own b) (hc:core g=g) (hst:∀w₁,stepG P main g w₁ = .go g' w₁ #[])
 (h:∀w₁,Rely ty s w w₁->Walk P ty Post main ⟨fun b=>s.own b/\¬ A b,fun b=>s.ro b\/A b,s.kid,s.fk⟩ g' w₁):Walk P ty Post main s g w:=
 .mk hc fun w₁ r=>.own ⟨fun b=>s.own b/\¬ A b,fun b=>s.ro b\/A b,s.kid,s.fk⟩ g' w₁ #[] (hst w₁)
  { tape:=rfl,os:=rfl,output:=rfl,size:=Nat.le_refl _,frame:=fun _ _ _=>rfl,own:=fun b hb=>.inl hb.1,ro:=fun b hb=>hb.elim .inl fun hb=>.inr (.inl (hA b hb)),apart:=fun ha _ b hb hrb=>hrb.elim (ha b hb.1) hb.2,kid:=rfl,
    fk:=.inl rfl,ev:=fun e he=>absurd he (by simp),mute:=fun _ _ _=>rfl } (h w₁ r)
theorem Walk.spawnG {kids:List (Nat×List Value×Bool)} {L:List Value} (A:Nat->Prop) (hA:∀b,A b->s.own b/\b≠ch) (hc:core g=g) (hst:∀w₁,stepG P main g w₁ = .spawn g' child w₁ #[]) (hs:s.fk=some ⟨wg,kids,.pend⟩) (hl:kids.length<1000000)
 (ho:s.own ch) (hr:¬ s.ro ch) (hch:w.heap[ch]?=some (.chan 0 #[] false 0 0 false))
 (h1:∀w₁,Rely ty s w w₁->Walk P ty Post main ⟨fun b=>s.own b/\b≠ch/\¬ A b,fun b=>s.ro b\/A b,s.kid,some ⟨wg,kids++[(ch,L,false)],.idle⟩⟩ g' w₁)
 (h2:∀w₁,Rely ty s w w₁->Walk P ty Post false ⟨fun _=>False,fun b=>s.ro b\/A b,some ⟨ch,wg,L,0⟩,none⟩ child w₁):Walk P ty Post main s g w:=
 .mk hc fun w₁ r=>.spawn wg ch kids L ⟨fun b=>s.own b/\b≠ch/\¬ A b,fun b=>s.ro b\/A b,s.kid,some ⟨wg,kids++[(ch,L,false)],.idle⟩⟩ ⟨fun _=>False,fun b=>s.ro b\/A b,some ⟨ch,wg,L,0⟩,none⟩ g' child
  (hst w₁) hs hl ho ((r.own ch ho).trans hch) rfl rfl (fun b hb=>⟨hb.1,hb.2.1⟩) (fun b hb=>hb.elim (fun hb=>⟨.inl hb,fun e=>hr (e ▸ hb)⟩) fun hb=>⟨.inr (hA b hb).1,(hA b hb).2⟩)
  (fun ha b hb hrb=>hrb.elim (ha b hb.1) hb.2.2) (fun _ h=>h) (fun _ h=>h) rfl rfl (h1 w₁ r) (h2 w₁ r)
theorem Walk.sendG {v z:Value} {rest:List Value} (hc:core g=g) (hs:s.kid=some ⟨ch,wg,v::rest,0⟩) (hfk:s.fk=none) (hst:∀w₁,stepG P main g w₁ = .comm g #[scase ch v z] true .send w₁ #[])
 (h:∀w₁,Rely ty s w w₁->Walk P ty Post main { s with kid:=some ⟨ch,wg,rest,0⟩ } (Conc.served g undef) w₁):Walk P ty Post main s g w:=
 .mk hc fun w₁ r=>.send ⟨ch,wg,v::rest,0⟩ v z rest (hst w₁) hs rfl rfl hfk (h w₁ r)
theorem Walk.recvG {kids:List (Nat×List Value×Bool)} {i:Nat} {rem:List Value} {b:Bool} {z:Value} (hc:core g=g) (hs:s.fk=some ⟨wg,kids,.idle⟩) (hi:kids[i]?=some (ch,rem,false)) (hst:∀w₁,stepG P main g w₁ = .comm g #[rcase ch z] true (.recv b) w₁ #[])
 (h1:∀v rest,rem=v::rest->∀w₁,Rely ty s w w₁->Walk P ty Post main { s with fk:=some ⟨wg,kids.set i (ch,rest,false),.idle⟩ } (Conc.served g (recvd b v true)) w₁)
 (h2:rem=[]->∀w₁,Rely ty s w w₁->Walk P ty Post main { s with fk:=some ⟨wg,kids.set i (ch,[],true),.idle⟩ } (Conc.served g (recvd b z false)) w₁):Walk P ty Post main s g w:=
 .mk hc fun w₁ r=>.recv ⟨wg,kids,.idle⟩ i ch rem b z (hst w₁) hs rfl hi (fun v rest e=>h1 v rest e w₁ r) fun e=>h2 e w₁ r
theorem Walk.closeG (hc:core g=g) (hs:s.kid=some ⟨ch,wg,[],0⟩) (hfk:s.fk=none) (hm:mayWake P g=true) (hrun:g'.status = .running)
 (hst:∀w₁ sn rc,w₁.heap[ch]?=some (.chan 0 #[] false sn rc false)->stepG P main g w₁ = .go g' (w₁.setChan ch 0 #[] true sn rc false) #[⟨.obj ch,false,true⟩,⟨.obj ch,true,true⟩])
 (h:∀w₁ sn rc,Rely ty s w w₁->Walk P ty Post main { s with kid:=some ⟨ch,wg,[],1⟩ } g' (w₁.setChan ch 0 #[] true sn rc false)):Walk P ty Post main s g w:=
 .mk hc fun w₁ r=>.close ⟨ch,wg,[],0⟩ hs rfl rfl hfk hm fun sn rc hch=>⟨g',hst w₁ sn rc hch,hrun,h w₁ sn rc r⟩
end
end Go.Co
namespace Go.Co
open Go Go.Conc Go.AI Go.RowKit
open Go.ConcR (KK wgBlock WgAt stA smA rd wr mk)
theorem CoTri.weak {P:Program} {ty:TypeId} {Post:Value->World->Prop} {main:Bool} {f0:Option Fk} {q:Bool} {f:FuncId} {args:List AV} {h:H} {r:R} (T:CoTri P ty Post main (f0,true) f args h r):CoTri P ty Post main (f0,q) f args h r:=
 ⟨T.can,fun ι w vs s hR hC hV hF hfk=>by
  obtain ⟨h1,v,s',w',ι',k1,k2,k3⟩:=T.run ι w vs s hR hC hV hF hfk
  exact ⟨h1.mono fun v s w ⟨ι',q1,q2,q3⟩=>⟨ι',q1,q2.weak,q3⟩,v,s',w',ι',k1,k2.weak,k3⟩⟩
section
variable {P:Program} {ty:TypeId} {Post:Value->World->Prop} {main:Bool} {fn:FuncId} {ops:Array Oper} {i:Nat} {rest:List Nat} {o:Oper} {Q:Out} {a:Act} {s:LG} {w:World}
theorem zah5 {b:Frame} {k:List Item} {cs:List Frame} {v:Value} (ho:ops[i]?=some o):Conc.served (G (b.at a (.inRegion ops (i::rest)::k)) cs) v=G (b.at (a.put o.dst v) (.inRegion ops rest::k)) cs:=by
 unfold Conc.served
 have:(b.at a (.inRegion ops (i::rest)::k)).finish v=b.at (a.put o.dst v) (.inRegion ops rest::k):=by rw [Frame.finish_at,ho];rfl
 simp [G,this]
theorem zamw {b:Frame} {k:List Item} {cs:List Frame} {ch x:Operand} {c:Nat} (ho:ops[i]?=some o) (hw:Region.wanted o (yielded ops a.tmps)=true) (hk:b.kind≠.early) (hop:o.op = .send ch x) (hc:a.eval ch = .chan (some c)) :
 stepG P main (G (b.at a (.inRegion ops (i::rest)::k)) cs) w = .comm (G (b.at a (.inRegion ops (i::rest)::k)) cs) #[scase c (a.eval x) (.tuple #[])] true .send w #[]:=by
 have hr:(execOp a.eval o).run P w = .ok (.comm #[scase c (a.eval x) (.tuple #[])] true .send) w:=by
  unfold execOp;simp [hop,hc,scase]
 have he:(execOp a.eval o).events P w #[] = #[]:=by
  unfold execOp;simp [hop]
 have hk':(b.kind == CallKind.early)=false:=by simpa using hk
 rw [stepG_oper ho hw]
 simp [stepG.apply,hr,he,G,Frame.at,hk',GStep.after,seen_none]
theorem zamp {b:Frame} {k:List Item} {cs:List Frame} {ch:Operand} {t el:TypeId} {d:ChanDir} {j:TypeInfo} {z:Value} {bb:Bool} {c:Nat} (ho:ops[i]?=some o) (hw:Region.wanted o (yielded ops a.tmps)=true) (hk:b.kind≠.early) (hop:o.op = .recv t ch bb)
 (ht:P.underlying t=some (.chan d el)) (hi:P.info? el=some j) (hz:j.zero=some z) (hc:a.eval ch = .chan (some c)) :
 stepG P main (G (b.at a (.inRegion ops (i::rest)::k)) cs) w = .comm (G (b.at a (.inRegion ops (i::rest)::k)) cs) #[rcase c z] true (.recv bb) w #[]:=by
 have hr:(execOp a.eval o).run P w = .ok (.comm #[rcase c z] true (.recv bb)) w:=by
  unfold execOp;simp [hop,hc,rcase,run_underlying ht,zeroValue,typeInfo,hi,hz]
 have he:(execOp a.eval o).events P w #[] = #[]:=by
  unfold execOp;simp [hop,underlying,typeInfo,zeroValue,ht,hi,hz]
 have hk':(b.kind == CallKind.early)=false:=by simpa using hk
 rw [stepG_oper ho hw]
 simp [stepG.apply,hr,he,G,Frame.at,hk',GStep.after,seen_none]
theorem zatq {ch x:Operand} {c wg:Nat} {out:List Value} (ho:ops[i]?=some o) (hw:Region.wanted o (yielded ops a.tmps)=true) (hop:o.op = .send ch x) (hc:a.eval ch = .chan (some c)) (hs:s.kid=some ⟨c,wg,a.eval x::out,0⟩) (hfk:s.fk=none)
 (h:∀w₁,Rely ty s w w₁->CoO P ty Post main fn ops rest Q (a.put o.dst undef) { s with kid:=some ⟨c,wg,out,0⟩ } w₁):CoO P ty Post main fn ops (i::rest) Q a s w:=fun b k cs hb hk hq=>
 .sendG rfl hs hfk (fun _=>zamw ho hw hk hop hc) fun w₁ r=>by rw [zah5 ho];exact h w₁ r b k cs hb hk hq
theorem zat4 {ch:Operand} {t el:TypeId} {d:ChanDir} {j:TypeInfo} {z:Value} {bb:Bool} {c wg m:Nat} {kids:List (Nat×List Value×Bool)} {rem:List Value} (ho:ops[i]?=some o) (hw:Region.wanted o (yielded ops a.tmps)=true) (hop:o.op = .recv t ch bb)
 (ht:P.underlying t=some (.chan d el)) (hi:P.info? el=some j) (hz:j.zero=some z) (hc:a.eval ch = .chan (some c)) (hs:s.fk=some ⟨wg,kids,.idle⟩) (hm:kids[m]?=some (c,rem,false))
 (h1:∀v rest',rem=v::rest'->∀w₁,Rely ty s w w₁->CoO P ty Post main fn ops rest Q (a.put o.dst (recvd bb v true)) { s with fk:=some ⟨wg,kids.set m (c,rest',false),.idle⟩ } w₁)
 (h2:rem=[]->∀w₁,Rely ty s w w₁->CoO P ty Post main fn ops rest Q (a.put o.dst (recvd bb z false)) { s with fk:=some ⟨wg,kids.set m (c,[],true),.idle⟩ } w₁):CoO P ty Post main fn ops (i::rest) Q a s w:=fun b k cs hb hk hq=>
 .recvG rfl hs hm (fun _=>zamp ho hw hk hop ht hi hz hc) (fun v r' e w₁ r=>by rw [zah5 ho];exact h1 v r' e w₁ r b k cs hb hk hq) fun e w₁ r=>by rw [zah5 ho];exact h2 e w₁ r b k cs hb hk hq
theorem co_go {cc:Call} {f:Operand} {g:FuncId} {fs cp:Array Value} {ch wg:Nat} {kids:List (Nat×List Value×Bool)} {L:List Value} (A:Nat->Prop) (hA:∀b,A b->s.own b/\b≠ch) (ho:ops[i]?=some o) (hw:Region.wanted o (yielded ops a.tmps)=true) (hop:o.op = .go cc)
 (hcal:cc.callee = .value f) (hargs:cc.args = #[]) (ef:a.eval f = .func (.func g) fs cp) (hs:s.fk=some ⟨wg,kids,.pend⟩) (hl:kids.length<1000000) (hoc:s.own ch) (hrc:¬ s.ro ch) (hch:w.heap[ch]?=some (.chan 0 #[] false 0 0 false))
 (h1:∀w₁,Rely ty s w w₁->CoO P ty Post main fn ops rest Q (a.put o.dst undef) ⟨fun b=>s.own b/\b≠ch/\¬ A b,fun b=>s.ro b\/A b,s.kid,some ⟨wg,kids++[(ch,L,false)],.idle⟩⟩ w₁)
 (h2:∀w₁,Rely ty s w w₁->Walk P ty Post false ⟨fun _=>False,fun b=>s.ro b\/A b,some ⟨ch,wg,L,0⟩,none⟩ (born P { target:=.fn (.func g) cp,args:=fs }) w₁):CoO P ty Post main fn ops (i::rest) Q a s w:=fun b k cs hb hk hq=>by
 have hr:∀w:World,(execOp a.eval o).run P w = .ok (.spawn { target:=.fn (.func g) cp,args:=fs }) w:=fun w=>by
  unfold execOp;simp [hop,resolve,hcal,hargs,ef,Deferred.ofValue]
 have he:∀w:World,(execOp a.eval o).events P w #[] = #[]:=fun w=>by
  unfold execOp;simp [hop,resolve,hcal,hargs,ef,Deferred.ofValue]
 refine Walk.spawnG (L:=L) A hA rfl (fun w₁=>?_) hs hl hoc hrc hch (fun w₁ r=>h1 w₁ r b k cs hb hk hq) h2
 rw [stepG_spawn ho hw hk (hr w₁) rfl,listed_nil (he w₁)]
theorem zagd {x y:Code} (hO:∀w₁,Rely ty s w w₁->∃s',Own1 ty s w₁ s' w₁ #[]/\CoC P ty Post main fn x (Out.seq (fun a s w=>CoC P ty Post main fn y Q a s w) Q) a s' w₁):CoC P ty Post main fn (.seq x y) Q a s w:=fun b k cs hb hk hc=>
 .mk rfl fun w₁ r=>by
  obtain ⟨s',h1,h2⟩:=hO w₁ r
  refine .own s' _ w₁ #[] stepG_seq h1 (h2 b (.code y::k) cs hb hk fun e a' s' w' q=>?_)
  cases e with
  | normal=>exact q b k cs hb hk hc
  | exit id=>exact (hc _ _ _ _ q).push rfl (by simp)
  | ret=>exact (hc _ _ _ _ q).push (x:=.code y) rfl (by simp)
  | goto l=>exact hc _ _ _ _ q
  | panic ch=>exact hc _ _ _ _ q
  | outgrown=>exact hc _ _ _ _ q
theorem Own1.give (A:Nat->Prop) (hA:∀b,A b->s.own b):Own1 ty s w ⟨fun b=>s.own b/\¬ A b,fun b=>s.ro b\/A b,s.kid,s.fk⟩ w #[]:=
 { tape:=rfl,os:=rfl,output:=rfl,size:=Nat.le_refl _,frame:=fun _ _ _=>rfl,own:=fun b hb=>.inl hb.1,ro:=fun b hb=>hb.elim .inl fun hb=>.inr (.inl (hA b hb)),apart:=fun ha _ b hb hrb=>hrb.elim (ha b hb.1) hb.2,kid:=rfl,
   fk:=.inl rfl,ev:=fun e he=>absurd he (by simp),mute:=fun _ _ _=>rfl }
theorem Own1.open_ {wg:Nat} (hfk:s.fk=none) (hk:∀k,s.kid=some k->k.st=0) (ho:s.own wg) (hr:¬ s.ro wg) (hat:WgAt ty wg w 0 0):Own1 ty s w ⟨fun b=>s.own b/\b≠wg,s.ro,s.kid,some ⟨wg,[],.idle⟩⟩ w #[]:=
 { tape:=rfl,os:=rfl,output:=rfl,size:=Nat.le_refl _,frame:=fun _ _ _=>rfl,own:=fun b hb=>.inl hb.1,ro:=fun b hb=>.inl hb,apart:=fun ha _ b hb hrb=>ha b hb.1 hrb,kid:=rfl,
   fk:=.inr ⟨hfk,hk,wg,rfl,ho,fun hb=>hb.2 rfl,hr,hat⟩,ev:=fun e he=>absurd he (by simp),mute:=fun _ _ _=>rfl }
theorem Own1.new1 {X:Obj} {es:Array Event} (hlt:∀b,s.own b\/s.ro b->b<w.heap.size) (hes:es = #[]):Own1 ty s w (s.plus w.heap.size (w.heap.size+1)) (w.alloc X) es:=by
 subst hes
 refine { tape:=rfl,os:=rfl,output:=rfl,size:=by simp,frame:=fun b hb _=>Below.heap_alloc w X b hb,own:=fun b hb=>hb.imp id fun h=>by simpa using h,ro:=fun b hb=>.inl hb,apart:=fun ha _ b hb hr=>hb.elim (fun h=>ha b h hr) fun h=>?_,kid:=rfl,fk:=.inl rfl,ev:=fun e he=>absurd he (by simp),mute:=fun _ _ _=>rfl }
 have:=hlt b (.inr hr);omega
theorem zaoh {cc:Call} {g:FuncId} {args:Array Value} (ho:ops[i]?=some o) (hw:Region.wanted o (yielded ops a.tmps)=true) (hop:o.op = .call cc) (hcal:cc.callee = .value (.func g)) (hargs:cc.args.map a.eval=args) (hcan:Callable P g) (hb:Busy s)
 (h:∀w₁,Rely ty s w w₁->CoF P ty Post main g args (fun v s w=>CoO P ty Post main fn ops rest Q (a.put o.dst v) s w) s w₁):CoO P ty Post main fn ops (i::rest) Q a s w:=by
 obtain ⟨fn',hfn,hbody,hname⟩:=id hcan
 have hx:execOp a.eval o=callFunc g args:=by
  rw [zae0 (f:=.func g) (g:=g) (fs:= #[]) (cp:= #[]) hop hcal rfl];simp [hargs]
 have hbare:Bare P (execOp a.eval o):=by rw [hx];with_reducible exact zacn hfn hname hbody
 refine co_op ho hw fun w₁ r=>?_
 have hrun:(execOp a.eval o).run P w₁ = .ok (.enter g args) w₁:=by rw [hx];exact zacz hcan w₁
 rw [hrun]
 exact ⟨s,Own1.reads (zab6 hbare hrun hb) w₁,h w₁ r⟩
theorem zasr {cc:Call} {f:Operand} {g:FuncId} {fs cp args:Array Value} (ho:ops[i]?=some o) (hw:Region.wanted o (yielded ops a.tmps)=true) (hop:o.op = .call cc) (hcal:cc.callee = .value f) (ef:a.eval f = .func (.func g) fs cp) (hargs:fs++cc.args.map a.eval++cp=args) (hcan:Callable P g) (hb:Busy s)
 (h:∀w₁,Rely ty s w w₁->CoF P ty Post main g args (fun v s w=>CoO P ty Post main fn ops rest Q (a.put o.dst v) s w) s w₁):CoO P ty Post main fn ops (i::rest) Q a s w:=by
 obtain ⟨fn',hfn,hbody,hname⟩:=id hcan
 have hx:execOp a.eval o=callFunc g args:=by
  rw [zae0 (f:=f) (g:=g) (fs:=fs) (cp:=cp) hop hcal ef, <- hargs]
 have hbare:Bare P (execOp a.eval o):=by rw [hx];with_reducible exact zacn hfn hname hbody
 refine co_op ho hw fun w₁ r=>?_
 have hrun:(execOp a.eval o).run P w₁ = .ok (.enter g args) w₁:=by rw [hx];exact zacz hcan w₁
 rw [hrun]
 exact ⟨s,Own1.reads (zab6 hbare hrun hb) w₁,h w₁ r⟩
end
end Go.Co
namespace Go.AI
open Go Go.RowKit
noncomputable section
def Blk.fz (b:Blk):Blk:=@Blk.rec (fun _=>Blk) .dead (fun fl l=>.cells (bc (Nat.ble fl 1) 2 fl) l) (fun _ _=>.dead) b
def Tr.fz:Tr->Tr:=@Tr.rec (fun _=>Tr) .e (fun _ v _ fl fr=>.n fl v.fz fr)
def H.fz (h:H):H:=⟨h.n,h.t.fz,0⟩
theorem Blk.fz_dead:Blk.dead.fz = .dead:=rfl
theorem Tr.get_fz:∀(t:Tr) (i:Nat),t.fz.get i=(t.get i).fz:=by
 intro t
 induction t with
 | e=>intro i;rfl
 | n l v r ihl ihr=>
  intro i
  show (Tr.n l.fz v.fz r.fz).get i=_
  cases i with
  | zero=>rw [Tr.get_zero,Tr.get_zero];rfl
  | succ j=>
   rw [Tr.get_succ,Tr.get_succ,Tr.l_n,Tr.r_n,Tr.l_n,Tr.r_n]
   split
   · exact ihl _
   · exact ihr _
theorem H.get_fz (h:H) (b:Nat):h.fz.get b=(h.get b).fz:=Tr.get_fz _ _
theorem Blk.fz_fz (b:Blk):b.fz.fz=b.fz:=by
 cases b with
 | dead=>rfl
 | map es c=>rfl
 | cells fl l=>
  show Blk.cells (bc (Nat.ble (bc (Nat.ble fl 1) 2 fl) 1) 2 (bc (Nat.ble fl 1) 2 fl)) l = .cells (bc (Nat.ble fl 1) 2 fl) l
  cases h:Nat.ble fl 1 with
  | true=>rfl
  | false=>rw [zaag,h,zaag]
theorem Tr.fz_fz:∀t:Tr,t.fz.fz=t.fz:=by
 intro t
 induction t with
 | e=>rfl
 | n l v r ihl ihr=>
  show Tr.n l.fz.fz v.fz.fz r.fz.fz=Tr.n l.fz v.fz r.fz
  rw [ihl,ihr,Blk.fz_fz]
theorem H.fz_fz (h:H):h.fz.fz=h.fz:=by
 show H.mk h.n h.t.fz.fz 0=H.mk h.n h.t.fz 0
 rw [Tr.fz_fz]
theorem Blk.fz_own (b:Blk):¬ b.fz.own:=by
 cases b with
 | dead=>exact id
 | map es c=>exact id
 | cells fl l=>
  show ¬ bc (Nat.ble fl 1) 2 fl<2
  cases h:Nat.ble fl 1 with
  | true=>rw [bc_true];omega
  | false=>
   rw [zaag]
   intro hl
   rw [Nat.ble_eq_true_of_le (show fl<=1 by omega)] at h;cases h
theorem Own.fz {ι:Inj} {h:H} {B:Nat}:¬ Own ι h.fz B:=fun ⟨b,o,s,_,ho⟩=>by rw [H.get_fz] at ho;exact Blk.fz_own _ ho
theorem Blk.fz_cells {b:Blk} {fl:Nat} {l:List AV} (h:b.fz = .cells fl l):∃fl',b = .cells fl' l/\fl=bc (Nat.ble fl' 1) 2 fl':=by
 cases b with
 | dead=>cases h
 | map es c=>cases h
 | cells fl' l'=>cases h;exact ⟨fl',rfl,rfl⟩
theorem Rel.fz {ι:Inj} {h:H} {w:World} (r:Rel ι h w):Rel ι h.fz w where
 fresh:=r.fresh
 lt:=r.lt
 inj:=fun b c B o s o' s' hb=>absurd hb (by rw [H.get_fz];exact Blk.fz_own _)
 blk:=fun b hb=>by
  rw [H.get_fz] at hb ⊢
  cases hbb:h.get b with
  | dead=>rw [hbb] at hb;exact absurd rfl hb
  | map es c=>rw [hbb] at hb;exact absurd rfl hb
  | cells fl l=>
   obtain ⟨B,o,s,e,hR⟩:=r.blk b (by rw [hbb];simp)
   rw [hbb] at hR
   obtain ⟨c,t,lo,hi,h1,h2,h3,h4,h5⟩:=hR
   refine ⟨B,o,s,e,c,t,lo,hi,h1,h2,h3,fun h=>?_,fun h=>?_⟩
   · cases hf:Nat.ble fl 1 with
     | true=>rw [hf,bc_true] at h;cases h
     | false=>rw [hf,zaag] at h;exact h4 h
   · cases hf:Nat.ble fl 1 with
     | true=>rw [hf,bc_true] at h;cases h
     | false=>rw [hf,zaag] at h;exact h5 h
 pin:=fun b r' e' hp=>by
  rw [H.get_fz] at hp
  obtain ⟨h1,l,h2⟩:=hp
  obtain ⟨fl,h3,h4⟩:=Blk.fz_cells h2
  refine r.pin b r' e' ⟨h1,l,?_⟩
  rw [h3]
  cases hf:Nat.ble fl 1 with
  | true=>rw [hf,bc_true] at h4;omega
  | false=>rw [hf,zaag] at h4;rw [<- h4]
end
end Go.AI
namespace Go.Co
open Go Go.Conc Go.AI Go.RowKit
theorem ExtC.refk {q:Bool} {ι ι':Inj} {h h':H} {s s':LG} {w w':World} (e:ExtC q ι h s w ι' h' s' w') (x:Option Fk):ExtC q ι h { s with fk:=x } w ι' h' { s' with fk:=x } w':=
 ⟨e.le,e.os,e.tape,e.output,e.size,e.kid,rfl,e.ro,e.mine,e.roW,e.mineW,e.newR,e.new,e.block,e.own,e.num,e.lo,e.keep,e.keepW,e.dom,e.aside⟩
theorem zagk {ι:Inj} {h:H} {w w₁:World} (hr:Rel ι h w) (hs:w.heap.size<=w₁.heap.size) (keep:∀b B o z,ι b=some (B,o,z)->w₁.heap[B]?=w.heap[B]?):Rel ι h w₁:=by
 refine ⟨hr.fresh,fun b B o z e=>Nat.lt_of_lt_of_le (hr.lt b B o z e) hs,hr.inj,fun b hb=>?_,fun b r' e' hp=>?_⟩
 · obtain ⟨B,o,z,e,hR⟩:=hr.blk b hb
   exact ⟨B,o,z,e,by rw [keep _ _ _ _ e];exact hR⟩
 · obtain ⟨⟨z,hb⟩,hc⟩:=hr.pin b r' e' hp
   exact ⟨⟨z,hb⟩,by rw [zab2 (keep _ _ _ _ hb)];exact hc⟩
structure At (ι0:Inj) (h0:H) (s0:LG) (w0:World) (X:Nat->Prop) (ι:Inj) (h:H) (s:LG) (w:World):Prop where
 ext:ExtC false ι0 h0 s0 w0 ι h { s with fk:=s0.fk } w
 rel:Rel ι h w
 cov:Cov ι h s
 fit:Fit s w
 hid:∀B,X B->w0.heap.size<=B/\B<w.heap.size/\∀b o z,ι b≠some (B,o,z)
section
variable {ty:TypeId} {ι0 ι ι':Inj} {h0 h h':H} {s0 s s':LG} {w0 w w' w₁:World} {X Y:Nat->Prop}
theorem At.start (hR:Rel ι0 h0 w0) (hC:Cov ι0 h0 s0) (hF:Fit s0 w0):At ι0 h0 s0 w0 (fun _=>False) ι0 h0 s0 w0:=⟨.same hR hC,hR,hC,hF,fun _ h=>h.elim⟩
theorem At.rely (A:At ι0 h0 s0 w0 X ι h s w) (r:Rely ty s w w₁):At ι0 h0 s0 w0 X ι h s w₁:=
 ⟨A.ext.trans ((ExtC.rely A.rel A.cov r).refk s0.fk),zadj A.rel A.cov r,A.cov,A.fit.rely r,fun B hB=>let ⟨a,b,c⟩:=A.hid B hB; ⟨a,Nat.lt_of_lt_of_le b r.size,c⟩⟩
theorem At.eval {q:Bool} (A:At ι0 h0 s0 w0 X ι h s w) (e:ExtC q ι h s w ι' h' s' w') (hR:Rel ι' h' w') (hC:Cov ι' h' s') (hF:Fit s' w'):At ι0 h0 s0 w0 X ι' h' s' w':=
 ⟨A.ext.trans ((show ExtC false ι h s w ι' h' s' w' from ⟨e.le,e.os,e.tape,e.output,e.size,e.kid,e.fk,fun h=>Bool.noConfusion h,fun h=>Bool.noConfusion h,e.roW,e.mineW,e.newR,e.new,e.block,e.own,e.num,e.lo,e.keep,e.keepW,e.dom,e.aside⟩).refk s0.fk),hR,hC,hF,fun B hB=>by
  obtain ⟨a,b,c⟩:=A.hid B hB
  refine ⟨a,Nat.lt_of_lt_of_le b e.size,fun b' o z e'=>?_⟩
  rcases e.dom b' B o z e' with ⟨c',q',z',e2⟩ | h2
  · exact c _ _ _ e2
  · omega⟩
theorem At.turn (A:At ι0 h0 s0 w0 X ι h s w) (hk:s'.kid=s.kid) (ho:∀B,s'.own B->s.own B) (hr:∀B,s.ro B->s'.ro B) (hn:∀B,s'.ro B->s.ro B\/s.own B) (hm:∀B,s.own B->s'.own B\/X B) (hap:∀B,s'.own B->¬ s'.ro B)
 (hO:∀B,Own ι h B->s'.own B) (hlt:∀B,s0.own B->B<w0.heap.size):At ι0 h0 s0 w0 X ι h s' w where
 ext:=⟨A.ext.le,A.ext.os,A.ext.tape,A.ext.output,A.ext.size,hk.trans A.ext.kid,rfl,fun h=>Bool.noConfusion h,fun h=>Bool.noConfusion h,fun B hB=>hr B (A.ext.roW B hB),fun B hB=>by
  rcases A.ext.mineW B hB with h1 | h1
  · rcases hm B h1 with h2 | h2
    · exact .inl h2
    · have:=(A.hid B h2).1;have:=hlt B hB;omega
  · exact .inr (hr B h1),
  fun B hB=>(hn B hB).elim (A.ext.newR B) fun h1=>(A.ext.new B h1).elim (fun h2=>.inr (.inl h2)) fun h2=>.inr (.inr h2),fun B hB=>A.ext.new B (ho B hB),A.ext.block,A.ext.own,A.ext.num,A.ext.lo,A.ext.keep,A.ext.keepW,A.ext.dom,fun B hB h1 h2=>(hm B (A.ext.aside B hB h1 h2)).elim id fun h3=>by have:=(A.hid B h3).1;omega⟩
 rel:=A.rel
 cov:=⟨fun b B o z e=>(A.cov.all b B o z e).elim (fun h1=>(hm B h1).elim .inl fun h3=>absurd e ((A.hid B h3).2.2 b o z)) fun h1=>.inr (hr B h1),hO⟩
 fit:=⟨fun _ h=>h.elim,hap,fun B hB=>hB.elim (fun h1=>A.fit.lt B (.inl (ho B h1))) fun h1=>A.fit.lt B ((hn B h1).elim .inr .inl),fun k hk'=>A.fit.busy k (by rw [<- hk];exact hk'),trivial⟩
 hid:=A.hid
theorem At.fkTurn (A:At ι0 h0 s0 w0 X ι h s w) (x:Option Fk):At ι0 h0 s0 w0 X ι h { s with fk:=x } w:=⟨A.ext,A.rel,⟨A.cov.all,A.cov.own⟩,⟨A.fit.U,A.fit.apart,A.fit.lt,A.fit.busy,trivial⟩,A.hid⟩
theorem At.made (A:At ι0 h0 s0 w0 X ι h s w) (O:Obj):At ι0 h0 s0 w0 (fun B=>X B\/B=w.heap.size) ι h (s.plus w.heap.size (w.heap.size+1)) (w.alloc O):=by
 have hs:=A.ext.size
 have e:ExtC false ι h s w ι h (s.plus w.heap.size (w.heap.size+1)) (w.alloc O):={
  le:=.refl _,os:=rfl,tape:=rfl,output:=rfl,size:=by simp,kid:=rfl,fk:=rfl
  ro:=fun h=>Bool.noConfusion h
  mine:=fun h=>Bool.noConfusion h
  roW:=fun B hB=>hB
  mineW:=fun B hB=>.inl (.inl hB)
  newR:=fun B hB=>.inl hB
  new:=fun B hB=>hB.imp id fun h=>by simpa using h
  block:=fun B _ hlt=>Below.heap_alloc w O B hlt
  own:=fun B hB=>.inl hB
  num:=Nat.le_refl _,lo:=Nat.le_refl _,keep:=fun _ _ _=>rfl
  keepW:=fun b B o z _ _ _ e=>Below.heap_alloc w O B (A.rel.lt _ _ _ _ e)
  dom:=fun b B o z e=>.inl ⟨b,o,z,e⟩
  aside:=fun B x _ _=>.inl x }
 have hR:Rel ι h (w.alloc O):=zagk A.rel (by simp) fun b B o z e=>Below.heap_alloc w O B (A.rel.lt _ _ _ _ e)
 have hC:Cov ι h (s.plus w.heap.size (w.heap.size+1)):=⟨fun b B o z e=>(A.cov.all b B o z e).imp .inl id,fun B hB=>.inl (A.cov.own B hB)⟩
 have hF:Fit (s.plus w.heap.size (w.heap.size+1)) (w.alloc O):=by
  have:=A.fit.plus (w':=w.alloc O) (by simp)
  simpa using this
 have A':=A.eval e hR hC hF
 refine ⟨A'.ext,hR,hC,hF,fun B hB=>?_⟩
 rcases hB with hB | rfl
 · exact A'.hid B hB
 · have hs':w0.heap.size<=w.heap.size:=hs
   exact ⟨hs',by simp,fun b o z e=>by have:=A.rel.lt _ _ _ _ e;omega⟩
end
section
variable {P:Program} {ty:TypeId} {Post:Value->World->Prop} {main:Bool} {fn:FuncId} {ops:Array Oper} {i:Nat} {rest:List Nat} {o:Oper} {Q:Out} {a:Act} {N F:Nat}
variable {ι0 ι:Inj} {h0 h:H} {s0 s:LG} {w0 w:World} {X:Nat->Prop} {st:St}
structure Stp (ι:Inj) (s:LG) (w:World) (ι':Inj) (s':LG) (w':World):Prop where
 le:ι.le ι'
 kid:s'.kid=s.kid
 fk:s'.fk=s.fk
 ro:s'.ro=s.ro
 mine:∀B,s.own B->s'.own B
 new:∀B,s'.own B->s.own B\/w.heap.size<=B
 size:w.heap.size<=w'.heap.size
 hid:∀B,s.own B->B<w.heap.size->(∀b o z,ι b≠some (B,o,z))->w'.heap[B]?=w.heap[B]?
 rok:∀B,s.ro B->B<w.heap.size->w'.heap[B]?=w.heap[B]?
theorem Stp.of {ι':Inj} {h':H} {s':LG} {w':World} (e:ExtC true ι h s w ι' h' s' w'):Stp ι s w ι' s' w':=⟨e.le,e.kid,e.fk,e.ro rfl,e.mine rfl,fun B hB=>(e.new B hB).imp id fun h=>h.1,e.size,fun B h1 h2 h3=>e.block B (.inl ⟨h1,fun ⟨b,o,z,e1,_⟩=>h3 b o z e1⟩) h2,fun B h1 h2=>e.block B (.inr h1) h2⟩
open Classical in
theorem zaf8 {c:Code} {an:An} {st':St} {h':H} (A:At ι0 h0 s0 w0 X ι h s w) (hS:StR ι N st a) (hok:codeOk P true c=true)
 (hden:∀kn:K,den P (fun _ _ _=>none) N F c an st h kn (fun _ _ _=>none) (fun _ _=>none)=kn st' h')
 (hK:∀ι' s' a' w',At ι0 h0 s0 w0 X ι' h' s' w'->StR ι' N st' a'->a'.defers=a.defers->Stp ι s w ι' s' w'->Q .normal a' s' w'):CoC P ty Post main fn c Q a s w:=by
 have hd:=hden fun st1 h1=>if st1=st'/\h1=h' then some (.leaf .undef,h0) else none
 rw [if_pos ⟨rfl,rfl⟩] at hd
 have:=zaga (P:=P) (ty:=ty) (Post:=Post) (main:=main) (fn:=fn) (fk0:=(s.fk,true)) (Γ:=fun _ _ _=>none) (N:=N) (F:=F) (fun _ _ _ _ e=>by cases e) c an st h _ _ _ _ hok hd ι a s w A.rel A.cov A.fit rfl hS
 refine this.1.mono fun e a1 s1 w1 hp=>?_
 obtain ⟨ι1,st1,h1,hE,hR1,hC1,hF1,hS1,hd1,hk⟩:=hp
 cases e with
 | normal=>
  have hk:(if st1=st'/\h1=h' then some ((.leaf .undef:AV),h0) else none)=some _:=hk
  by_cases hc:st1=st'/\h1=h'
  · obtain ⟨rfl,rfl⟩:=hc
    exact hK ι1 s1 a1 w1 (A.eval hE hR1 hC1 hF1) hS1 hd1 (.of hE)
  · rw [if_neg hc] at hk;cases hk
 | ret=>cases hk
 | exit i=>cases hk
 | goto l=>exact hk.elim
 | panic c=>exact hk.elim
 | outgrown=>exact hk.elim
open Classical in
theorem ev_op {x:AV} {h':H} (A:At ι0 h0 s0 w0 X ι h s w) (hS:StR ι N st a) (ho:ops[i]?=some o) (hp:plainOp o=true) (hg:o.guard=none)
 (hd:∀k:AV->H->Option R,dOp P (fun _ _ _=>none) o st h k=k x h')
 (hK:∀ι' v s' w',At ι0 h0 s0 w0 X ι' h' s' w'->VR ι' x v->Stp ι s w ι' s' w'->CoO P ty Post main fn ops rest Q (a.put o.dst v) s' w'):CoO P ty Post main fn ops (i::rest) Q a s w:=by
 refine co_op ho (by simp [Region.wanted,hg]) fun w₁ r=>?_
 have A1:=A.rely r
 have e:=hd fun x1 h1=>if x1=x/\h1=h' then some (.leaf .undef,h0) else none
 rw [if_pos ⟨rfl,rfl⟩] at e
 have g:=zakz (P:=P) (ty:=ty) (Post:=Post) (main:=main) (fn:=fn) (fk0:=(s.fk,true)) (Γ:=fun _ _ _=>none) (fun _ _ _ _ e=>by cases e) hp A1.rel A1.cov A1.fit rfl hS e
 refine zafn (zabr rfl ?_ g)
 rintro v s' w' ⟨x1,v',ι',h1,hput,hE,hR',hC',hF',hV,hk'⟩
 rw [hput]
 by_cases hc:x1=x/\h1=h'
 · obtain ⟨rfl,rfl⟩:=hc
   have e2:=Stp.of hE
   exact hK ι' v' s' w' (A1.eval hE hR' hC' hF') hV ⟨e2.le,e2.kid,e2.fk,e2.ro,e2.mine,fun B hB=>(e2.new B hB).imp id fun h=>Nat.le_trans r.size h,Nat.le_trans r.size e2.size,fun B h1 h2 h3=>(e2.hid B h1 (Nat.lt_of_lt_of_le h2 r.size) h3).trans (r.own B h1),fun B h1 h2=>(e2.rok B h1 (Nat.lt_of_lt_of_le h2 r.size)).trans (r.ro B h1)⟩
 · have hk':(if x1=x/\h1=h' then some ((.leaf .undef:AV),h0) else none)=some _:=hk'
   rw [if_neg hc] at hk';cases hk'
end
end Go.Co
namespace Go.Co
open Go Go.Conc Go.AI Go.RowKit Go.Conc.Lib
open Go.ConcR (KK wgBlock WgAt stA smA rd wr mk)
section
variable {P:Program} {ty:TypeId} {Post:Value->World->Prop} {main:Bool} {fn:FuncId} {ops:Array Oper} {i:Nat} {rest:List Nat} {o:Oper} {Q:Out} {a:Act} {s:LG} {w:World}
theorem zai2 {t:TypeId} {x:Operand} {B q:Nat} {v:Value} {c:Array Value} {e:TypeId} {fr:Nat×Nat} (ho:ops[i]?=some o) (hw:Region.wanted o (yielded ops a.tmps)=true) (hop:o.op = .load t x) (hag:isAggT P t=some false) (hx:a.eval x = .pointer (some ⟨B,q,none⟩))
 (hown:s.own B\/s.ro B) (hB:w.heap[B]?=some (.cells c e fr)) (hv:c[q]?=some v) (hb:Busy s)
 (h:∀w₁,Rely ty s w w₁->CoO P ty Post main fn ops rest Q (a.put o.dst v) s w₁):CoO P ty Post main fn ops (i::rest) Q a s w:=by
 refine co_op ho hw fun w₁ r=>?_
 have hB1:w₁.heap[B]?=some (.cells c e fr):=(hown.elim (r.own B) (r.ro B)).trans hB
 have hcell:w₁.cell? ⟨B,q,none⟩=some v:=by rw [zadn hB1];exact hv
 have hrun:(execOp a.eval o).run P w₁ = .ok (.value v) w₁:=by simp [execOp,hop,hx,Instr.loadAt,Instr.sureAddr,loadVar,zabm hag,hcell]
 have hcf:Cf P (fun b=>b=B) (fun _=>False) (execOp a.eval o):=by
  unfold execOp;simp only [hop]
  exact Cf.val (zafi (fun ad e=>by rw [hx] at e;cases e;rfl) fun _=>trivial)
 rw [hrun]
 refine ⟨s,Own1.reads (zac3 hcf ?_ (fun _ h=>h.elim) hrun hb (fun b e=>by subst e;exact hown) (fun _ h=>h.elim)) w₁,h w₁ r⟩
 rintro b rfl
 refine ⟨(Array.getElem?_eq_some_iff.1 hB1).1,fun x hx=>?_⟩
 rw [hB1] at hx;cases hx;rfl
theorem zap1 {f:FuncId} {as:Array Operand} {ats:Array TypeId} (ho:ops[i]?=some o) (hw:Region.wanted o (yielded ops a.tmps)=true) (hop:o.op = .defer { callee:=.value (.func f),args:=as,argTypes:=ats })
 (h:CoO P ty Post main fn ops rest Q (Act.put ⟨a.tmps,dcall f (as.map a.eval)::a.defers⟩ o.dst undef) s w):CoO P ty Post main fn ops (i::rest) Q a s w:=fun b k cs hb hk hq=>
 .idle rfl (fun _=>stepG_defer ho hw hk hop) (h b k cs hb hk hq)
def dclose (ats:Array TypeId) (t:TypeId) (cs:Array Bool) (x:Value):Deferred:={ target:=.builtin .close ats t cs,args:= #[x] }
theorem zaqg {x:Operand} {ats:Array TypeId} (ho:ops[i]?=some o) (hw:Region.wanted o (yielded ops a.tmps)=true) (hop:o.op = .defer { callee:=.builtin .close,args:= #[x],argTypes:=ats })
 (h:∀bs,CoO P ty Post main fn ops rest Q (Act.put ⟨a.tmps,dclose ats o.type bs (a.eval x)::a.defers⟩ o.dst undef) s w):CoO P ty Post main fn ops (i::rest) Q a s w:=fun b k cs hb hk hq=>by
 obtain ⟨bs,hr⟩:∃bs,∀w:World,(execOp a.eval o).run P w = .ok (.defer (dclose ats o.type bs (a.eval x))) w:=⟨#[x].map (fun y=>match y with | .const _=>true | _=>false),fun w=>by
  unfold execOp
  simp [hop,resolve,dclose]
  cases x <;> rfl⟩
 refine .idle rfl (fun w₁=>?_) (h bs b k cs hb hk hq)
 have he:(execOp a.eval o).events P w₁ #[] = #[]:=by
  unfold execOp
  simp [hop,resolve]
 have hfin:(b.at ⟨a.tmps,dclose ats o.type bs (a.eval x)::a.defers⟩ (.inRegion ops (i::rest)::k)).finish undef=b.at (Act.put ⟨a.tmps,dclose ats o.type bs (a.eval x)::a.defers⟩ o.dst undef) (.inRegion ops rest::k):=by rw [Frame.finish_at,ho];rfl
 have hk':(b.kind == CallKind.early)=false:=by simpa using hk
 rw [stepG_oper ho hw, <- hfin]
 simp [stepG.apply,hr,he,G,Frame.at,hk',GStep.after,seen_none]
theorem zafc {b:Frame} {cs:List Frame} {todo:List Item} {ats:Array TypeId} {t:TypeId} {bs:Array Bool} {c sn rc:Nat} {ds:List Deferred} (hd:a.defers=dclose ats t bs (.chan (some c))::ds) (hq:(P.funcs[b.fn]?).any (·.norace)=false)
 (hc:w.heap[c]?=some (.chan 0 #[] false sn rc false)) :
 stepG P main (G { b.at a todo with mode:=.returning } cs) w = .go (G { b.at ⟨a.tmps,ds⟩ todo with mode:=.returning } cs) (w.setChan c 0 #[] true sn rc false) #[⟨.obj c,false,true⟩,⟨.obj c,true,true⟩]:=by
 have hr:(invoke (.builtin .close ats t bs) #[.chan (some c)]).run P w = .ok (.value (.tuple #[])) (w.setChan c 0 #[] true sn rc false):=by
  simp [invoke,builtin,run_close_open _ _ hc,World.setChan]
 have he:(invoke (.builtin .close ats t bs) #[.chan (some c)]).events P w #[] = #[⟨.obj c,false,true⟩,⟨.obj c,true,true⟩]:=by
  simp [invoke,builtin,events_close_open _ _ hc]
 have hs:seen P b.fn #[⟨.obj c,false,true⟩,⟨.obj c,true,true⟩] = #[⟨.obj c,false,true⟩,⟨.obj c,true,true⟩]:=
  seen_eq hq (by intro e he f;simp only [List.mem_toArray,List.mem_cons,List.not_mem_nil,or_false] at he;rcases he with rfl | rfl <;> simp)
 simp [G,stepG,unwind,callDeferred,Frame.at,hd,dclose,hr,he,hs,GStep.after]
end
end Go.Co
namespace Go.Co
open Go Go.Conc Go.AI Go.RowKit Go.Conc.Lib
open Go.ConcR (KK wgBlock WgAt stA smA rd wr mk)
section
variable {P:Program} {ty:TypeId} {Post:Value->World->Prop} {main:Bool} {fn:FuncId} {ops:Array Oper} {i:Nat} {rest:List Nat} {o:Oper} {Q:Out} {a:Act} {s:LG} {w:World}
theorem zalv {cc:Call} {g:FuncId} {args:Array Value} (ho:ops[i]?=some o) (hw:Region.wanted o (yielded ops a.tmps)=true) (hop:o.op = .call cc) (hcal:cc.callee = .value (.func g)) (hargs:cc.args.map a.eval=args) (hcan:Callable P g) (hb:Busy s)
 (h:∀w₁,Rely ty s w w₁->LiveS ty s w₁->CoF P ty Post main g args (fun v s w=>CoO P ty Post main fn ops rest Q (a.put o.dst v) s w) s w₁):CoO P ty Post main fn ops (i::rest) Q a s w:=by
 obtain ⟨fn',hfn,hbody,hname⟩:=id hcan
 have hx:execOp a.eval o=callFunc g args:=by
  rw [zae0 (f:=.func g) (g:=g) (fs:= #[]) (cp:= #[]) hop hcal rfl];simp [hargs]
 have hbare:Bare P (execOp a.eval o):=by rw [hx];with_reducible exact zacn hfn hname hbody
 intro b k cs hbf hk hc
 subst hbf
 refine .mkL rfl fun w₁ r hl=>?_
 have hrun:(execOp a.eval o).run P w₁ = .ok (.enter g args) w₁:=by rw [hx];exact zacz hcan w₁
 refine .own s _ w₁ _ (stepG_enter ho hw hk hrun) (Own1.reads (zab6 hbare hrun hb) w₁) (h w₁ r hl _ cs fun v s' w' q=>?_)
 have hfin:(b.at a (.inRegion ops (i::rest)::k)).finish v=b.at (a.put o.dst v) (.inRegion ops rest::k):=by rw [Frame.finish_at,ho];rfl
 rw [hfin];exact q b k cs rfl hk hc
variable {L:WgLink} {wg:Nat} {kids:List (Nat×List Value×Bool)}
theorem zauc (H:WgLib P L) (hs:s.fk=some ⟨wg,kids,.idle⟩) (ho:¬ s.own wg) (hr:¬ s.ro wg) (hk:∀k,s.kid=some k->k.st=0) (hl:WgLive L.tWg wg w) :
 CoF P L.tWg Post main L.add #[.pointer (some ⟨wg,0,none⟩),.int .i64 1] (fun v s' w'=>v = .tuple #[]/\s'={ s with fk:=some ⟨wg,kids,.pend⟩ }/\Rely L.tWg s' w w') s w:=fun b cs hc=>
 zatx H hs ho hr hk ⟨.refl s w,hl,.inl ⟨_,hs,rfl⟩⟩ fun w₁ hW=>hc _ _ _ ⟨rfl,rfl,hW.rel⟩
theorem zar5 (H:WgLib P L) (hs:s.fk=some ⟨wg,kids,.idle⟩) (hD:∀x∈kids,x.2.2=true) (ho:¬ s.own wg) (hr:¬ s.ro wg) (hk:∀k,s.kid=some k->k.st=0) (hl:WgLive L.tWg wg w) :
 CoF P L.tWg Post main L.wait #[.pointer (some ⟨wg,0,none⟩)] (fun v s' w'=>v = .tuple #[]/\s'={ s with fk:=none }/\Rely L.tWg s' w w') s w:=fun b cs hc=>
 zasz H hs hD ho hr hk ⟨.refl s w,hl,.inl ⟨_,hs,rfl⟩⟩ fun w₁ hW=>hc _ _ _ ⟨rfl,rfl,hW.rel⟩
end
end Go.Co
