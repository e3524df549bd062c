/- An evaluator of the model: code and calls. -/
import Derived.Test.YtelijoecjhgleaaGreatDoorAi1
import Derived.MapKept
import Derived.DeepKeys
import Derived.Stop.Asserts
import Derived.Still
import Derived.Deep.Quiet
import Derived.Below
import Derived.Scope
import Derived.ChangeSame
import Derived.KernelRfl
set_option linter.unusedVariables false
set_option linter.unusedSimpArgs false
set_option maxRecDepth 100000
namespace Go.AI
noncomputable section
open Go Go.RowKit Go.MapKept
variable {α:Type} {P:Program} {ρ:Operand->Value} {o:Oper} {ι:Inj} {h:H} {w:World} {k:AV->H->Option α} {r:α}
def withMap (h:H) (b:Nat) (f:List (AV×AV×Nat)->Nat->Option α):Option α:=@Blk.rec (fun _=>Option α) none (fun _ _=>none) f (h.get b)
theorem zab4 {b:Nat} {f:List (AV×AV×Nat)->Nat->Option α} (e:withMap h b f=some r):∃es c,h.get b = .map es c/\f es c=some r:=by
 unfold withMap at e
 cases hb:h.get b <;> rw [hb] at e
 · cases e
 · cases e
 · exact ⟨_,_,rfl,e⟩
def keyEq (x y:AV) (f:Bool->Option α):Option α:=
 x.onStr (withInt x fun j a=>withInt y fun j' b=>bc (Nat.beq j j') (f (ieq a b)) none) fun l _=>withStr y fun l' _=>f (eqL l l')
def findE (key:AV) (es:List (AV×AV×Nat)):Nat->(Nat->AV->Option α)->Option α->Option α:=
 @List.rec (AV×AV×Nat) (fun _=>Nat->(Nat->AV->Option α)->Option α->Option α) (fun _ _ miss=>miss)
  (fun e _ g i hit miss=>keyEq key e.1 fun b=>bc b (hit i e.2.1) (g (Nat.succ i) hit miss)) es
theorem zan3 (key:AV) (e:AV×AV×Nat) (es:List (AV×AV×Nat)) (i:Nat) (hit:Nat->AV->Option α) (miss:Option α) :
 findE key (e::es) i hit miss=keyEq key e.1 fun b=>bc b (hit i e.2.1) (findE key es (Nat.succ i) hit miss):=rfl
def keyD (D:TypeDesc) (x:AV):Bool:=match D with
 | .string=>x.onStr false fun _ _=>true
 | .int q=>x.onInt false fun j _=>Nat.beq j (kc q)
 | _=>false
theorem zanv {x y:AV} {u v:Value} {f:Bool->Option α} {D:TypeDesc} (hD:keyD D x=true) (hx:VR ι x u) (hy:VR ι y v) (e:keyEq x y f=some r):∃b,Instr.sameNow D u v=some b/\f b=some r:=by
 unfold keyD at hD
 split at hD
 · cases x using AV.casesE <;> first | (cases hD;done) | skip
   rename_i l n
   obtain ⟨l',n',rfl,e1⟩:=zaap (x:=y) e
   obtain ⟨s,rfl,hl,_⟩:=hx.str
   obtain ⟨t,rfl,hl',_⟩:=hy.str
   subst hl;subst hl'
   refine ⟨_,rfl,?_⟩
   have:=eqL_eq s.data.toList t.data.toList
   rw [this] at e1
   rw [<- e1]
   congr 1
   show (s.data == t.data)=_
   rw [Bool.eq_iff_iff];simp
 · cases x using AV.casesE <;> first | (cases hD;done) | skip
   rename_i q j a
   obtain ⟨j',b,rfl,e1⟩:=zaah (x:=y) e
   obtain ⟨hj,e2⟩:=zaab e1
   have hj:=Nat.eq_of_beq_eq_true hj
   subst hj
   rw [hx.int,hy.int]
   refine ⟨a == b,by simp [Instr.sameNow],?_⟩
   rw [<- e2,ieq_eq]
   congr 1
 · cases hD
theorem zagf {key:AV} {kv:Value} {D:TypeDesc} (hD:keyD D key=true) (hk:VR ι key kv) {hit:Nat->AV->Option α} {miss:Option α}:∀{es:List (AV×AV×Nat)} {ms:List MapEntry} {i:Nat},EntriesR ι es ms->findE key es i hit miss=some r->
 (∃j a v,Instr.findNow D kv ms i=some (some (j,v))/\VR ι a v/\hit j a=some r)\/(Instr.findNow D kv ms i=some none/\miss=some r)
 | [],ms,i,hE,e=>by
  have hE:ms=[]:=hE
  subst hE
  exact .inr ⟨rfl,e⟩
 | (x,y,n)::es,ms,i,hE,e=>by
  obtain ⟨m,ms',rfl,h1,h2,h3,h4⟩:=hE
  rw [zan3] at e
  obtain ⟨b,hb,e⟩:=zanv hD hk h1 e
  cases b with
  | true=>exact .inl ⟨i,y,m.val,by simp [Instr.findNow,hb],h2,e⟩
  | false=>
   rw [zaag] at e
   rcases zagf hD hk h4 e with ⟨j,a,v,g1,g2,g3⟩ | ⟨g1,g2⟩
   · exact .inl ⟨j,a,v,by simp [Instr.findNow,hb,g1],g2,g3⟩
   · exact .inr ⟨by simp [Instr.findNow,hb,g1],g2⟩
def aMakeMap (h:H) (k:AV->H->Option α):Option α:=k (.leaf (.map h.n)) (h.push (.map [] 0))
theorem zaic {t:TypeId} (hr:Rel ι h w) (ho:o.op = .makeMap t none) (e:aMakeMap h k=some r):Gives P ρ o ι h w k r:=by
 refine ⟨.value (.map (some w.heap.size)),_,_,_,.leaf (.map h.n),_,?_,.inl rfl,Ext.alloc hr _ _ 0,hr.alloc (.map [] 0) (.map #[] 0) 0 ⟨#[],rfl,rfl⟩,⟨w.heap.size,0,0,?_,rfl⟩,e⟩
 · simp [execOp,ho,Instr.makeMap,newObj];rfl
 · simp [Inj.add]
def resL (ok:Bool) (v:AV) (b:Bool):AV:=bc ok (.one .tup (.cons v (.cons (.bool b) (.leaf .nil)))) v
def aLookup (ok:Bool) (z m key:AV) (h:H) (k:AV->H->Option α):Option α:=
 m.onLeaf none fun l=>@Leaf.rec (fun _=>Option α) none none none (k (resL ok z false) h) none none none (fun b=>withMap h b fun es _=>findE key es 0 (fun _ v=>k (resL ok v true) h) (k (resL ok z false) h)) (fun _ _ _ _=>none) (fun _=>none) l
theorem zady {D:TypeDesc} {x:AV} {u:Value} (hD:keyD D x=true) (hx:VR ι x u):IsKey D u:=by
 unfold keyD at hD
 split at hD
 · cases x using AV.casesE <;> first | (cases hD;done) | skip
   obtain ⟨s,rfl,_⟩:=hx.str
   simp [IsKey]
 · cases x using AV.casesE <;> first | (cases hD;done) | skip
   rename_i q j n
   have hj:Nat.beq j (kc q)=true:=hD
   have hj:=Nat.eq_of_beq_eq_true hj
   subst hj
   rw [hx.int,kd_kc]
   simp [IsKey]
 · cases hD
theorem zal4 {ok b:Bool} {a:AV} {v:Value} (hv:VR ι a v):VR ι (resL ok a b) (if ok then .tuple #[v,.bool b] else v):=by
 cases ok with
 | false=>exact hv
 | true=>exact ⟨#[v,.bool b],rfl,v,[.bool b],rfl,hv,.bool b,[],rfl,rfl,rfl⟩
theorem zajd {t kt et:TypeId} {D:TypeDesc} {x y:Operand} {ok:Bool} {m key:AV} {i:TypeInfo} {z:Value} (hr:Rel ι h w) (ho:o.op = .lookup t x y ok) (ht:P.underlying t=some (.map kt et)) (hk:P.underlying kt=some D)
 (hi:P.info? et=some i) (hz:i.zero=some z) (hD:keyD D key=true) (hx:VR ι m (ρ x)) (hy:VR ι key (ρ y)) (e:aLookup ok (ofV z) m key h k=some r):GivesQ P ρ o ι h w k r:=by
 have hK:=zady hD hy
 have hzr:∀w',(zeroValue et).run P w' = .ok z w':=fun w'=>by simp [zeroValue,typeInfo,hi,hz]
 unfold aLookup at e
 cases m using AV.casesE <;> first | (cases e;done) | skip
 · have ex:ρ x = .map none:=by
    have:[ρ x]=[.map none]:=hx
    simpa using this
   refine ⟨_,_,fun w' hw'=>?_,zal4 (ok:=ok) (b:=false) (VR.ofV ι z),e⟩
   simp [execOp,ho,ex,Instr.lookup,run_underlying ht,run_checkKey hk hK,run_findKey (P:=P) (w:=w') (kt:=kt) (l:=[]) hk rfl,hzr,Result.andThen]
 · rename_i b
   have e:(withMap h b fun es _=>findE key es 0 (fun _ v=>k (resL ok v true) h) (k (resL ok (ofV z) false) h))=some r:=e
   obtain ⟨es,c,hb,e⟩:=zab4 e
   obtain ⟨B,base,sz,ib,ex⟩:=hx
   have ex:ρ x = .map (some B):=by simpa using ex
   obtain ⟨B',o',s',ib',hB⟩:=hr.blk b (by rw [hb];intro hh;cases hh)
   rw [ib] at ib'
   cases ib'
   rw [hb] at hB
   obtain ⟨ms,hm,hE⟩:=hB
   have hm':∀w',Below w.heap.size w w'->w'.heap[B]?=some (.map ms c):=fun w' hw'=>by rw [hw'.block _ (hr.lt _ _ _ _ ib)];exact hm
   rcases zagf hD hy hE e with ⟨j,a,v,g1,g2,g3⟩ | ⟨g1,g2⟩
   · refine ⟨_,_,fun w' hw'=>?_,zal4 (ok:=ok) (b:=true) g2,g3⟩
     simp [execOp,ho,ex,Instr.lookup,run_underlying ht,Go.MapKept.run_getObj_map (hm' w' hw'),run_checkKey hk hK,run_findKey (P:=P) (w:=w') (kt:=kt) hk g1,Result.andThen]
   · refine ⟨_,_,fun w' hw'=>?_,zal4 (ok:=ok) (b:=false) (VR.ofV ι z),g2⟩
     simp [execOp,ho,ex,Instr.lookup,run_underlying ht,Go.MapKept.run_getObj_map (hm' w' hw'),run_checkKey hk hK,run_findKey (P:=P) (w:=w') (kt:=kt) hk g1,hzr,Result.andThen]
theorem zaj0 {D:TypeDesc} {kv:Value} (hK:IsKey D kv):∀(ms:List MapEntry) (i j:Nat) (v:Value),Instr.findNow D kv ms i=some (some (j,v))->i<=j/\∃e,ms[j - i]?=some e/\e.key=kv
 | [],i,j,v,e=>by cases e
 | m::ms,i,j,v,e=>by
  unfold Instr.findNow at e
  split at e
  · rename_i hs
    cases e
    refine ⟨Nat.le_refl _,m,by simp,?_⟩
    generalize m.key=mk at hs
    cases D <;> cases kv <;> first | (cases hK;done) | skip
    all_goals (cases mk <;> first | (cases hs;done) | skip)
    · have h2:=beq_iff_eq.1 (Option.some.inj hs);rw [h2]
    · simp only [Instr.sameNow] at hs
      split at hs
      · rename_i hk;have h2:=beq_iff_eq.1 (Option.some.inj hs);rw [h2,hk]
      · cases hs
    · rename_i s t
      have h2:(s.data == t.data)=true:=Option.some.inj hs
      have h3:=beq_iff_eq.1 h2
      have h4:s=t:=ByteArray.ext h3
      rw [h4]
  · obtain ⟨h1,x,h2,h3⟩:=zaj0 hK ms (i+1) j v e
    refine ⟨by omega,x,?_,h3⟩
    rw [show j - i=(j - (i+1))+1 by omega]
    simpa using h2
  · cases e
theorem EntriesR.push {es:List (AV×AV×Nat)} {x y:AV} {n:Nat} {m:MapEntry} (hx:VR ι x m.key) (hy:VR ι y m.val) (hn:m.born=n):∀{es:List (AV×AV×Nat)} {ms:List MapEntry},EntriesR ι es ms->EntriesR ι (es++[(x,y,n)]) (ms++[m])
 | [],ms,h=>by have h:ms=[]:=h;subst h;exact ⟨m,[],rfl,hx,hy,hn,rfl⟩
 | (a,b,c)::es,ms,h=>by
  obtain ⟨e,t,rfl,h1,h2,h3,h4⟩:=h
  exact ⟨e,t++[m],rfl,h1,h2,h3,EntriesR.push (es:=es) hx hy hn h4⟩
def modE (key v:AV) (es:List (AV×AV×Nat)):Nat->List (AV×AV×Nat):=
 @List.rec (AV×AV×Nat) (fun _=>Nat->List (AV×AV×Nat)) (fun _=>[]) (fun e es g i=>@Nat.rec (fun _=>List (AV×AV×Nat)) ((key,v,e.2.2)::es) (fun i _=>e::g i) i) es
theorem EntriesR.mod {x y:AV} {u v:Value} (hx:VR ι x u) (hy:VR ι y v):∀{es:List (AV×AV×Nat)} {ms:List MapEntry} (i:Nat),EntriesR ι es ms->EntriesR ι (modE x y es i) (ms.modify i fun e=>{ e with key:=u,val:=v })
 | [],ms,i,h=>by have h:ms=[]:=h;subst h;show List.modify _ i _=[];simp
 | (a,b,c)::es,ms,0,h=>by
  obtain ⟨e,t,rfl,h1,h2,h3,h4⟩:=h
  exact ⟨{ e with key:=u,val:=v },t,by simp,hx,hy,h3,h4⟩
 | (a,b,c)::es,ms,i+1,h=>by
  obtain ⟨e,t,rfl,h1,h2,h3,h4⟩:=h
  exact ⟨e,t.modify i fun e=>{ e with key:=u,val:=v },by simp,h1,h2,h3,EntriesR.mod hx hy i h4⟩
theorem Rel.setMap (hr:Rel ι h w) {b B base sz c c':Nat} {es es':List (AV×AV×Nat)} {ms ms':Array MapEntry} (hb:h.get b = .map es c) (ib:ι b=some (B,base,sz)) (hm:w.heap[B]?=some (.map ms c)) (hE:EntriesR ι es' ms'.toList) :
 Rel ι (h.set b (.map es' c')) { w with heap:=w.heap.setIfInBounds B (.map ms' c') }/\Ext ι h w ι (h.set b (.map es' c')) { w with heap:=w.heap.setIfInBounds B (.map ms' c') }:=by
 obtain ⟨h1,h2⟩:=heap_set (o':=.map ms' c') hm
 have ho:(h.get b).own:=by rw [hb];exact trivial
 exact ⟨hr.change b B base sz _ ib ho ⟨ms',h1,hE⟩ (by simp) h2,Ext.change hr b B base sz _ ib ho rfl rfl rfl (by simp) h2⟩
def aMapSet (m key v:AV) (h:H) (k:AV->H->Option α):Option α:=
 m.onLeaf none fun l=>@Leaf.rec (fun _=>Option α) none none none none none none none (fun b=>withMap h b fun es c=>findE key es 0 (fun i _=>k (.leaf .undef) (h.set b (.map (modE key v es i) c))) (k (.leaf .undef) (h.set b (.map (es++[(key,v,c)]) (Nat.succ c))))) (fun _ _ _ _=>none) (fun _=>none) l
theorem zafq {t kt et:TypeId} {D:TypeDesc} {x y z:Operand} {m key v:AV} (hr:Rel ι h w) (ho:o.op = .mapUpdate t x y z\/o.op = .insert t x y z) (ht:P.underlying t=some (.map kt et)) (hk:P.underlying kt=some D)
 (hD:keyD D key=true) (hx:VR ι m (ρ x)) (hy:VR ι key (ρ y)) (hz:VR ι v (ρ z)) (e:aMapSet m key v h k=some r):Gives P ρ o ι h w k r:=by
 have hK:=zady hD hy
 unfold aMapSet at e
 cases m using AV.casesE <;> first | (cases e;done) | skip
 rename_i b
 have e:(withMap h b fun es c=>findE key es 0 (fun i _=>k (.leaf .undef) (h.set b (.map (modE key v es i) c))) (k (.leaf .undef) (h.set b (.map (es++[(key,v,c)]) (Nat.succ c)))))=some r:=e
 obtain ⟨es,c,hb,e⟩:=zab4 e
 obtain ⟨B,base,sz,ib,ex⟩:=hx
 have ex:ρ x = .map (some B):=by simpa using ex
 obtain ⟨B',o',s',ib',hB⟩:=hr.blk b (by rw [hb];intro hh;cases hh)
 rw [ib] at ib'
 cases ib'
 rw [hb] at hB
 obtain ⟨ms,hm,hE⟩:=hB
 rcases zagf hD hy hE e with ⟨j,a,u,g1,g2,g3⟩ | ⟨g1,g2⟩
 · obtain ⟨_,en,hen,hkey⟩:=zaj0 hK _ _ _ _ g1
   have hen:ms[j]?=some en:=by simpa using hen
   obtain ⟨R,E⟩:=hr.setMap (es':=modE key v es j) (c':=c) (ms':=ms.modify j fun e=>{ e with key:=ρ y,val:=ρ z }) hb ib hm (by simpa using EntriesR.mod hy hz j hE)
   refine ⟨.skip,undef,_,ι,.undef,_,?_,.inr ⟨rfl,rfl⟩,E,R,rfl,g3⟩
   rcases ho with ho | ho <;> simp [execOp,ho,ex,Instr.mapUpdate,run_underlying ht,Go.MapKept.run_getObj_map hm,run_checkKey hk hK,run_findKey (P:=P) (w:=w) (kt:=kt) hk g1,Result.andThen,hen,hkey,run_keyThatStays hK,Go.MapKept.run_setObj_map _ hm]
 · obtain ⟨R,E⟩:=hr.setMap (es':=es++[(key,v,c)]) (c':=Nat.succ c) (ms':=ms.push { key:=ρ y,val:=ρ z,born:=c }) hb ib hm (by simpa using EntriesR.push (es:=es) (m:={ key:=ρ y,val:=ρ z,born:=c }) hy hz rfl hE)
   refine ⟨.skip,undef,_,ι,.undef,_,?_,.inr ⟨rfl,rfl⟩,E,R,rfl,g2⟩
   rcases ho with ho | ho <;> simp [execOp,ho,ex,Instr.mapUpdate,run_underlying ht,Go.MapKept.run_getObj_map hm,run_checkKey hk hK,run_findKey (P:=P) (w:=w) (kt:=kt) hk g1,Result.andThen,Go.MapKept.run_setObj_map _ hm]
def aClearM (m:AV) (h:H) (k:AV->H->Option α):Option α:=
 m.onLeaf none fun l=>@Leaf.rec (fun _=>Option α) none none none none none none none (fun b=>withMap h b fun es c=>k (.one .tup (.leaf .nil)) (h.set b (.map [] c))) (fun _ _ _ _=>none) (fun _=>none) l
theorem zaji {t kt et:TypeId} {c:Call} {x:Operand} {m:AV} (hr:Rel ι h w) (ho:o.op = .call c) (hc:c.callee = .builtin .clear) (ha:c.args = #[x]) (hat:c.argTypes[0]?=some t) (ht:P.underlying t=some (.map kt et))
 (hx:VR ι m (ρ x)) (e:aClearM m h k=some r):Gives P ρ o ι h w k r:=by
 unfold aClearM at e
 cases m using AV.casesE <;> first | (cases e;done) | skip
 rename_i b
 have e:(withMap h b fun es c=>k (.one .tup (.leaf .nil)) (h.set b (.map [] c)))=some r:=e
 obtain ⟨es,n,hb,e⟩:=zab4 e
 obtain ⟨B,base,sz,ib,ex⟩:=hx
 have ex:ρ x = .map (some B):=by simpa using ex
 obtain ⟨B',o',s',ib',hB⟩:=hr.blk b (by rw [hb];intro hh;cases hh)
 rw [ib] at ib'
 cases ib'
 rw [hb] at hB
 obtain ⟨ms,hm,hE⟩:=hB
 obtain ⟨R,E⟩:=hr.setMap (es':=[]) (c':=n) (ms':= #[]) hb ib hm rfl
 refine ⟨.value (.tuple #[]),.tuple #[],_,ι,.one .tup (.leaf .nil),_,?_,.inl rfl,E,R,⟨_,rfl,rfl⟩,e⟩
 simp [execOp,ho,resolve,hc,ha,hat,ex,invoke,builtin,Builtin.clear_,run_underlying ht,Go.MapKept.run_getObj_map hm,Go.MapKept.run_setObj_map _ hm,Result.andThen]
end
end Go.AI
namespace Go.AI
noncomputable section
open Go Go.RowKit
variable {α:Type} {P:Program} {ρ:Operand->Value} {o:Oper} {ι:Inj} {h:H} {w:World} {k:AV->H->Option α} {r:α}
theorem VL.map_op {ι:Inj} {ρA:Operand->AV} {ρ:Operand->Value} (hρ:∀x,VR ι (ρA x) (ρ x)):∀(l:List Operand),VL ι (l.map ρA) (l.map ρ)
 | []=>.nil
 | x::l=>.cons (hρ x) (VL.map_op hρ l)
def aMakeF (fn:Fn) (as cs:List AV) (h:H) (k:AV->H->Option α):Option α:=k (.func fn (AV.ofL as) (AV.ofL cs)) h
theorem zael {C:World->Prop} {fn:Fn} {first captured:Array Operand} {ρA:Operand->AV} (ho:o.op = .makeFunc fn first captured) (hρ:∀x,VR ι (ρA x) (ρ x))
 (e:aMakeF fn (first.toList.map ρA) (captured.toList.map ρA) h k=some r):GivesC C P ρ o ι h k r:=by
 unfold aMakeF at e
 rw [AV.ofL_eq,AV.ofL_eq] at e
 exact GivesQ.pure (a:=.func fn (AV.ofList (first.toList.map ρA)) (AV.ofList (captured.toList.map ρA))) (v:=.func fn (first.map ρ) (captured.map ρ)) (fun w' _=>by simp [execOp,ho,Instr.makeFunc])
  ⟨first.map ρ,captured.map ρ,rfl,by simpa using VX.of_list (VL.map_op hρ first.toList),by simpa using VX.of_list (VL.map_op hρ captured.toList)⟩ e
def aPart (agg:Bool) (n off:Nat) (l:List AV) (f:AV->Option α):Option α:=
 bc agg (bc (Nat.beq (lenL (takeL n (dropL off l))) n) (f (.agg (AV.ofL (takeL n (dropL off l))))) none) (onSome (nthO l off) f)
theorem zalb {t:TypeId} {agg:Bool} {n off:Nat} {l:List AV} {cs:Array Value} {f:AV->Option α} (ht:isAggT P t=some agg) (hs:sizeT P t=some n) (hv:VL ι l cs.toList) (e:aPart agg n off l f=some r) :
 ∃a v,f a=some r/\VR ι a v/\∀w:World,(part t cs off).run P w = .ok v w:=by
 unfold aPart at e
 cases agg with
 | true=>
  rw [bc_true,zabd,AV.ofL_eq,takeL_eq,zab1] at e
  obtain ⟨hl,e1⟩:=zaab e
  have hl:=Nat.eq_of_beq_eq_true hl
  refine ⟨_,.agg (cs.extract off (off+n)),e1,⟨_,rfl,?_⟩,fun w=>by simp [part,zabm ht,zaa0 hs]⟩
  have:=VX.of_list ((hv.drop off).take n)
  simpa [Array.toList_extract,List.extract_eq_take_drop] using this
 | false=>
  rw [zaag] at e
  obtain ⟨a,ha,e1⟩:=zaay e
  rw [zadr] at ha
  obtain ⟨v,hv1,hv2⟩:=hv.get _ _ ha
  exact ⟨a,v,e1,hv2,fun w=>by simp [part,zabm ht,show cs[off]?=some v by simpa using hv1]⟩
def fieldT (P:Program) (t:TypeId) (f:Nat):Option (TypeId×Nat):=match P.underlying t with
 | some (.struct fs)=>match fs[f]? with | some fd=>some (fd.type,fd.offset) | none=>none
 | _=>none
def aFieldV (agg:Bool) (n off:Nat) (x:AV) (h:H) (k:AV->H->Option α):Option α:=withAgg x fun a=>withListA a fun l=>aPart agg n off l fun y=>k y h
theorem zad1 {C:World->Prop} {t ft:TypeId} {x:Operand} {f n off:Nat} {agg:Bool} {a:AV} (ho:o.op = .field t x f) (hf:fieldT P t f=some (ft,off)) (ht:isAggT P ft=some agg) (hs:sizeT P ft=some n)
 (hx:VR ι a (ρ x)) (e:aFieldV agg n off a h k=some r):GivesC C P ρ o ι h k r:=by
 obtain ⟨b,rfl,e1⟩:=zabe e
 obtain ⟨l,hl,e2⟩:=zaal e1
 obtain ⟨cs,ex,hc⟩:=hx.agg
 obtain ⟨y,v,e3,hy,hrun⟩:=zalb (P:=P) ht hs (zaa2 hl hc) e2
 unfold fieldT at hf
 split at hf
 case h_2=>cases hf
 rename_i fs hu
 split at hf
 case h_2=>cases hf
 rename_i fd hfd
 cases hf
 exact GivesQ.pure (fun w' _=>by simp [execOp,ho,ex,Instr.field,run_underlying hu,hfd,asAgg,hrun]) hy e3
def aIndexV (agg:Bool) (n len:Nat) (x i:AV) (h:H) (k:AV->H->Option α):Option α:=withAgg x fun a=>withListA a fun l=>withInt i fun _ j=>inB j len fun j=>aPart agg n (Nat.mul j n) l fun y=>k y h
theorem zadx {C:World->Prop} {t el:TypeId} {x i:Operand} {n len:Nat} {agg:Bool} {a ai:AV} (ho:o.op = .index t x i) (hu:P.underlying t=some (.array len el)) (ht:isAggT P el=some agg) (hs:sizeT P el=some n)
 (hx:VR ι a (ρ x)) (hi:VR ι ai (ρ i)) (e:aIndexV agg n len a ai h k=some r):GivesC C P ρ o ι h k r:=by
 obtain ⟨b,rfl,e1⟩:=zabe e
 obtain ⟨l,hl,e2⟩:=zaal e1
 obtain ⟨k1,i0,rfl,e3⟩:=zaah e2
 obtain ⟨j,rfl,hj,e4⟩:=zagu e3
 obtain ⟨cs,ex,hc⟩:=hx.agg
 obtain ⟨y,v,e5,hy,hrun⟩:=zalb (P:=P) ht hs (zaa2 hl hc) e4
 have hj':(j:Int)<(len:Int):=by omega
 have hrun:∀w:World,(part el cs (j * n)).run P w = .ok v w:=hrun
 exact GivesQ.pure (fun w' _=>by simp [execOp,ho,ex,hi.int,Instr.index,asIntOf,run_underlying hu,hj,hj',zaa0 hs,hrun]) hy e5
def aIdxArr (es len:Nat) (x i:AV) (h:H) (k:AV->H->Option α):Option α:=withPtr x fun b o=>withInt i fun _ j=>inB j len fun j=>k (.ptr b (Nat.add o (Nat.mul j es))) h
theorem zad7 {C:World->Prop} {t el:TypeId} {x i:Operand} {es len:Nat} {a ai:AV} (ho:o.op = .indexAddr t x i) (hu:P.underlying t=some (.array len el)) (hs:sizeT P el=some es)
 (hx:VR ι a (ρ x)) (hi:VR ι ai (ρ i)) (e:aIdxArr es len a ai h k=some r):GivesC C P ρ o ι h k r:=by
 obtain ⟨b,q,rfl,e1⟩:=zaaw e
 obtain ⟨k1,i0,rfl,e2⟩:=zaah e1
 obtain ⟨j,rfl,hj,e3⟩:=zagu e2
 obtain ⟨B,base,sz,ib,ex⟩:=hx.ptr
 have hj':(j:Int)<(len:Int):=by omega
 refine GivesQ.pure (a:=.ptr b (q+j * es)) (v:=.pointer (some ⟨B,base+(q+j * es),none⟩)) (fun w' _=>?_) ⟨B,base,sz,ib,rfl⟩ e3
 simp [execOp,ho,ex,hi.int,Instr.indexAt,Instr.sureAddr,asIntOf,run_underlying hu,hj,hj',zaa0 hs,addr_add,Nat.add_assoc]
end
end Go.AI
namespace Go.AI
noncomputable section
open Go Go.RowKit
variable {α:Type} {P:Program} {ρ:Operand->Value} {o:Oper} {ι:Inj} {h:H} {w:World} {k:AV->H->Option α} {r:α}
def eqI:List AV->List AV->(Bool->Option α)->Option α:=
 @List.rec AV (fun _=>List AV->(Bool->Option α)->Option α) (fun m f=>@List.rec AV (fun _=>Option α) (f true) (fun _ _ _=>none) m)
  (fun a _ g m f=>@List.rec AV (fun _=>Option α) none (fun b m' _=>withInt a fun k x=>withInt b fun k' y=>bc (Nat.beq k k') (bc (ieq x y) (g m' f) (f false)) none) m)
theorem zare {e:TypeId} {kk:IntKind} (he:P.underlying e=some (.int kk)) (hc:P.cellsOf e=1) (hi:isAggT P e=some false) (d:Nat):∀(l m:List AV) (xs ys:Array Value) (q:Nat) (f:Bool->Option α),VL ι l (xs.toList.drop q)->VL ι m (ys.toList.drop q)->eqI l m f=some r->
 ∃b,f b=some r/\∀w:World,(Op.eqItems (d+1) e 1 xs ys (List.range' q l.length)).run P w = .ok b w
 | [],[],xs,ys,q,f,_,_,h=>⟨true,h,fun w=>by simp [Op.eqItems]⟩
 | [],_::_,_,_,_,_,_,_,h=>by cases h
 | _::_,[],_,_,_,_,_,_,h=>by cases h
 | a::l,b::m,xs,ys,q,f,hl,hm,h=>by
  have h:(withInt a fun k x=>withInt b fun k' y=>bc (Nat.beq k k') (bc (ieq x y) (eqI l m f) (f false)) none)=some r:=h
  obtain ⟨k1,x,rfl,h1⟩:=zaah h
  obtain ⟨k2,y,rfl,h2⟩:=zaah h1
  obtain ⟨hk,h3⟩:=zaab h2
  have hk:=Nat.eq_of_beq_eq_true hk
  subst hk
  obtain ⟨v,vs,hv⟩:∃v vs,xs.toList.drop q=v::vs:=by cases hx:xs.toList.drop q with | nil=>rw [hx] at hl;cases hl | cons v vs=>exact ⟨v,vs,rfl⟩
  obtain ⟨u,us,hu⟩:∃u us,ys.toList.drop q=u::us:=by cases hy:ys.toList.drop q with | nil=>rw [hy] at hm;cases hm | cons v vs=>exact ⟨v,vs,rfl⟩
  rw [hv] at hl
  rw [hu] at hm
  cases hl with | cons hv1 hl=>
  cases hm with | cons hu1 hm=>
  have ev:=VR.int hv1
  have eu:=VR.int hu1
  subst ev eu
  have gx:xs[q]?=some (.int (kd k1) x):=by
   have:=congrArg (·[0]?) hv;simpa using this
  have gy:ys[q]?=some (.int (kd k1) y):=by
   have:=congrArg (·[0]?) hu;simpa using this
  have dx:xs.toList.drop (q+1)=vs:=by rw [<- List.drop_drop,hv];rfl
  have dy:ys.toList.drop (q+1)=us:=by rw [<- List.drop_drop,hu];rfl
  have step:∀w:World,(Op.eqItems (d+1) e 1 xs ys (List.range' q (l.length+1))).run P w=(if (!decide (x=y))=true then (pure false:Sem Bool) else Op.eqItems (d+1) e 1 xs ys (List.range' (q+1) l.length)).run P w:=fun w=>by
   rw [List.range'_succ]
   simp [Op.eqItems,part,zabm hi,gx,gy,Op.equalIn,run_underlying he]
  rw [ieq_eq] at h3
  by_cases hxy:x=y
  · rw [decide_eq_true hxy,bc_true] at h3
    obtain ⟨b,hb,hrun⟩:=zare he hc hi d l m xs ys (q+1) f (by rw [dx];exact hl) (by rw [dy];exact hm) h3
    exact ⟨b,hb,fun w=>by rw [List.length_cons,step,decide_eq_true hxy];simpa using hrun w⟩
  · rw [decide_eq_false hxy,zaag] at h3
    exact ⟨false,h3,fun w=>by rw [List.length_cons,step,decide_eq_false hxy];simp⟩
def aEqA (neg:Bool) (len:Nat) (x y:AV) (h:H) (k:AV->H->Option α):Option α:=withAgg x fun a=>withListA a fun l=>withAgg y fun b=>withListA b fun m=>bc (Nat.beq (lenL l) len) (eqI l m fun q=>k (.bool (bc neg (bnot q) q)) h) none
theorem zaex {C:World->Prop} {op:BinOp} {t u e:TypeId} {x y:Operand} {a b:AV} {neg:Bool} {len:Nat} {kk:IntKind} (ho:o.op = .binOp op t x y u) (hu:P.underlying t=some (.array len e)) (he:P.underlying e=some (.int kk)) (hi:(P.info? e).map (·.size)=some 1)
 (hg:P.eqGuardType P.depth t=false) (hx:VR ι a (ρ x)) (hy:VR ι b (ρ y)) (hn:(op = .eql/\neg=false)\/(op = .neq/\neg=true)) (e0:aEqA neg len a b h k=some r):GivesC C P ρ o ι h k r:=by
 obtain ⟨a',rfl,e1⟩:=zabe e0
 obtain ⟨l,hl,e2⟩:=zaal e1
 obtain ⟨b',rfl,e3⟩:=zabe e2
 obtain ⟨m,hm,e4⟩:=zaal e3
 obtain ⟨h5,e5⟩:=zaab e4
 have h5:=Nat.eq_of_beq_eq_true h5
 rw [zabd] at h5
 obtain ⟨cs,ex,hcs⟩:=hx.agg
 obtain ⟨ds,ey,hds⟩:=hy.agg
 obtain ⟨i,hi1,hi2⟩:∃i,P.info? e=some i/\i.size=1:=by
  cases hq:P.info? e with
  | none=>rw [hq] at hi;cases hi
  | some i=>rw [hq] at hi;exact ⟨i,rfl,by simpa using hi⟩
 have hc1:P.cellsOf e=1:=by simp [Program.cellsOf,hi1,hi2]
 have hagg:isAggT P e=some false:=by unfold isAggT;rw [he]
 obtain ⟨q,hq,hrun⟩:=zare (ι:=ι) he hc1 hagg 9998 l m cs ds 0 _ (by simpa using zaa2 hl hcs) (by simpa using zaa2 hm hds) e5
 have heq:∀w:World,(Op.equal t (.agg cs) (.agg ds)).run P w = .ok q w:=fun w=>by
  show (Op.equalIn (9999+1) t (.agg cs) (.agg ds)).run P w=_
  rw [run_equalIn_array w 9999 cs ds hu hi1,hc1,List.range_eq_range', <- h5]
  exact hrun w
 have hguard:∀w:World,(eqGuard op t x y (.agg cs) (.agg ds)).run P w = .ok () w:=fun w=>by
  rcases hn with ⟨rfl,_⟩ | ⟨rfl,_⟩ <;> simp [eqGuard,hg]
 rcases hn with ⟨rfl,rfl⟩ | ⟨rfl,rfl⟩
 · rw [zaag] at hq
   exact GivesQ.pure (a:=.bool q) (v:=.bool q) (fun w' _=>by simp [execOp,ho,ex,ey,hguard,binOp,heq]) rfl hq
 · rw [bc_true,zad6] at hq
   exact GivesQ.pure (a:=.bool (!q)) (v:=.bool (!q)) (fun w' _=>by simp [execOp,ho,ex,ey,hguard,binOp,heq]) rfl hq
end
end Go.AI
namespace Go.AI
noncomputable section
open Go Go.RowKit
variable {α:Type} {P:Program} {ρ:Operand->Value} {o:Oper} {ι:Inj} {h:H} {w:World} {k:AV->H->Option α} {r:α}
def aCopy1 (es n2:Nat) (vs:List AV) (b o n:Nat) (h:H) (k:AV->H->Option α):Option α:=
 bc (Nat.ble n2 n) (@Nat.rec (fun _=>Option α) (k (.int 3 (.ofNat 0)) h) (fun _ _=>withCells h b fun fl l=>bc (Nat.ble fl 1) (bc (Nat.ble (Nat.add o (Nat.mul n2 es)) (lenL l)) (bc (allOne vs) (k (.int 3 (.ofNat n2)) (h.set b (.cells fl (spliceF l o vs)))) none) none) none) n2) none
def aCopy (es:Nat) (x y:AV) (h:H) (k:AV->H->Option α):Option α:=withElems es y h fun n2 vs=>
 x.onSl none (fun l=>@Leaf.rec (fun _=>Option α) none none (bc (Nat.beq n2 0) (k (.int 3 (.ofNat 0)) h) none) none none none none (fun _=>none) (fun _ _ _ _=>none) (fun _=>none) l)
  (fun b o n _=>aCopy1 es n2 vs b o n h k) (fun b o n _=>aCopy1 es n2 vs b o n h k)
theorem zaid {c:Call} {x y:Operand} {t el:TypeId} {es:Nat} {n2 n:Nat} {cs:Array Value} {base:Option Addr} {cp:Nat} {w':World} (ho:o.op = .call c) (hc:c.callee = .builtin .copy) (ha:c.args = #[x,y]) (hat:c.argTypes[0]?=some t) (hu:P.underlying t=some (.slice el)) (hs:sizeT P el=some es)
 (hx:ρ x = .slice base n cp) (hl:(Builtin.lenOf (ρ y)).run P w = .ok n2 w) (hn:n2<=n) (hf:(Builtin.firstCells es n2 (ρ y)).run P w = .ok cs w)
 (hst:∀a,base=some a->(storeCells a cs.toList 0).run P w = .ok () w') (hno:base=none->w'=w):(execOp ρ o).run P w = .ok (.value (.int .i64 n2)) w':=by
 have hmin:Nat.min n2 n=n2:=Nat.min_eq_left hn
 cases base with
 | none=>
  have:=hno rfl;subst this
  simp [execOp,ho,resolve,hc,ha,invoke,builtin,Builtin.copy_,hat,run_underlying hu,zaa0 hs,hx,hl,hmin,hf,goInt]
 | some a=>
  have:=hst a rfl
  simp [execOp,ho,resolve,hc,ha,invoke,builtin,Builtin.copy_,hat,run_underlying hu,zaa0 hs,hx,hl,hmin,hf,this,goInt]
theorem zal6 {c:Call} {x y:Operand} {t el:TypeId} {es:Nat} {a b:AV} (hr:Rel ι h w) (ho:o.op = .call c) (hc:c.callee = .builtin .copy) (ha:c.args = #[x,y]) (hat:c.argTypes[0]?=some t) (hu:P.underlying t=some (.slice el)) (hs:sizeT P el=some es)
 (hx:VR ι a (ρ x)) (hy:VR ι b (ρ y)) (e:aCopy es a b h k=some r):Gives P ρ o ι h w k r:=by
 obtain ⟨n2,as,vs,e1,hvl,hlen,hlo,hfc⟩:=zae4 (P:=P) hr hy e
 have hf:=hfc w rfl
 have key:∀(bk q n:Nat) (base:Option Addr) (cp:Nat),ρ x = .slice base n cp->(1<=n->∃B b0 sz,ι bk=some (B,b0,sz)/\base=some ⟨B,b0+q,none⟩)->aCopy1 es n2 as bk q n h k=some r->Gives P ρ o ι h w k r:=by
  intro bk q n base cp ex hpl e2
  obtain ⟨hn,e3⟩:=zaab e2
  have hn:=Nat.le_of_ble_eq_true hn
  cases n2 with
  | zero=>
   have hv0:vs=[]:=List.eq_nil_of_length_eq_zero (by rw [hlen];simp)
   subst hv0
   exact Gives.pure (a:=.int 3 (.ofNat 0)) (v:=.int .i64 0) hr (zaid ho hc ha hat hu hs ex hlo hn hf (fun a _=>by simp [storeCells]) (fun _=>rfl)) rfl e3
  | succ n2=>
   have e3:(withCells h bk fun fl l=>bc (Nat.ble fl 1) (bc (Nat.ble (Nat.add q (Nat.mul (n2+1) es)) (lenL l)) (bc (allOne as) (k (.int 3 (.ofNat (n2+1))) (h.set bk (.cells fl (spliceF l q as)))) none) none) none)=some r:=e3
   obtain ⟨fl,l,hb,e4⟩:=zaae e3
   obtain ⟨g1,e5⟩:=zaab e4
   obtain ⟨g2,e6⟩:=zaab e5
   obtain ⟨g3,e7⟩:=zaab e6
   have g1:=Nat.le_of_ble_eq_true g1
   have g2:q+(n2+1) * es<=lenL l:=Nat.le_of_ble_eq_true g2
   rw [zabd] at g2
   rw [zad5] at e7
   obtain ⟨B,b0,sz,ib,rfl⟩:=hpl (by omega)
   have hal:=hvl.length
   obtain ⟨w',e8,R,E⟩:=hr.write P hb (by omega) ib hvl (hvl.one g3) (q:=q) (by omega)
   exact ⟨.value (.int .i64 (n2+1:Nat)),.int .i64 (n2+1:Nat),w',ι,.int 3 (.ofNat (n2+1)),_,zaid ho hc ha hat hu hs ex hlo hn hf (fun a h=>by cases h;simpa using e8) (fun h=>by cases h),.inl rfl,E,R,rfl,e7⟩
 cases a using AV.casesE <;> (try (cases e1;done))
 case nils=>
  obtain ⟨h0,e2⟩:=zaab (c:=Nat.beq n2 0) e1
  have h0:=Nat.eq_of_beq_eq_true h0
  subst h0
  exact Gives.pure (a:=.int 3 (.ofNat 0)) (v:=.int .i64 0) hr (zaid ho hc ha hat hu hs hx.nils hlo (Nat.le_refl _) hf (fun a h=>by cases h) (fun _=>rfl)) rfl e2
 case sl bk q n cp=>
  obtain ⟨B,b0,sz,ib,ex⟩:=hx.sl
  exact key bk q n _ cp ex (fun _=>⟨B,b0,sz,ib,rfl⟩) e1
 case osl bk q n es'=>
  by_cases hn:1<=n
  · obtain ⟨B,b0,sz,cp,ib,ex,_⟩:=hx.osl1 hn
    exact key bk q n _ cp ex (fun _=>⟨B,b0,sz,ib,rfl⟩) e1
  · obtain ⟨A,cp,ex,_⟩:=hx.osl
    exact key bk q n _ cp ex (fun h=>absurd h hn) e1
end
end Go.AI
namespace Go.AI
noncomputable section
open Go Go.RowKit
variable {α:Type} {P:Program} {ρ:Operand->Value} {o:Oper} {ι:Inj} {h:H} {w:World} {k:AV->H->Option α} {r:α}
def aClearS1 (es:Nat) (zs:List AV) (b o n:Nat) (h:H) (k:AV->H->Option α):Option α:=
 @Nat.rec (fun _=>Option α) (k (.one .tup (.leaf .nil)) h) (fun _ _=>withCells h b fun fl l=>bc (Nat.ble fl 1) (bc (Nat.beq (lenL (repL n zs)) (Nat.mul n es)) (bc (Nat.ble (Nat.add o (Nat.mul n es)) (lenL l)) (bc (allOne (repL n zs)) (k (.one .tup (.leaf .nil)) (h.set b (.cells fl (spliceF l o (repL n zs))))) none) none) none) none) n
def aClearS (es:Nat) (zs:List AV) (x:AV) (h:H) (k:AV->H->Option α):Option α:=
 x.onSl none (fun l=>@Leaf.rec (fun _=>Option α) none none (k (.one .tup (.leaf .nil)) h) none none none none (fun _=>none) (fun _ _ _ _=>none) (fun _=>none) l)
  (fun b o n _=>aClearS1 es zs b o n h k) (fun b o n _=>aClearS1 es zs b o n h k)
theorem zair {c:Call} {x:Operand} {t el:TypeId} {es:Nat} {a:AV} {z:Value} {i:TypeInfo} (hr:Rel ι h w) (ho:o.op = .call c) (hc:c.callee = .builtin .clear) (ha:c.args = #[x]) (hat:c.argTypes[0]?=some t) (hu:P.underlying t=some (.slice el)) (hi:P.info? el=some i) (hz:i.zero=some z)
 (hx:VR ι a (ρ x)) (e:aClearS es (z.cells.toList.map ofV) a h k=some r):Gives P ρ o ι h w k r:=by
 have hVL:∀n,VL ι (repL n (z.cells.toList.map ofV)) (Builtin.zeroCells z.cells n).toList:=fun n=>by
  refine VL.of_get (by rw [zaci];simp [Builtin.zeroCells]) fun j a hj=>?_
  have hlt:=(List.getElem?_eq_some_iff.1 hj).1
  rw [zaci] at hlt
  rw [zah0 _ _ _ hlt] at hj
  obtain ⟨v,hv,hR⟩:=(VL.ofV ι z.cells.toList).get _ _ hj
  refine ⟨v,?_,hR⟩
  simp only [List.length_map,Array.length_toList] at hlt hv
  rw [Array.getElem?_toList] at hv ⊢
  obtain ⟨hlt2,hv2⟩:=Array.getElem?_eq_some_iff.1 hv
  simp [Builtin.zeroCells,hlt,Array.getElem!_eq_getD,Array.getD_eq_getD_getElem?,hv]
 have hzr:(zeroValue el).run P w = .ok z w:=by simp [zeroValue,typeInfo,hi,hz]
 have key:∀(bk q n:Nat) (base:Option Addr) (cp:Nat),ρ x = .slice base n cp->(1<=n->∃B b0 sz,ι bk=some (B,b0,sz)/\base=some ⟨B,b0+q,none⟩)->aClearS1 es (z.cells.toList.map ofV) bk q n h k=some r->Gives P ρ o ι h w k r:=by
  intro bk q n base cp ex hpl e2
  cases n with
  | zero=>
   refine Gives.pure (a:=.one .tup (.leaf .nil)) (v:=.tuple #[]) hr ?_ ⟨_,rfl,rfl⟩ e2
   cases base <;> simp [execOp,ho,resolve,hc,ha,invoke,builtin,Builtin.clear_,hat,run_underlying hu,ex]
  | succ n=>
   have e2:(withCells h bk fun fl l=>bc (Nat.ble fl 1) (bc (Nat.beq (lenL (repL (n+1) (z.cells.toList.map ofV))) (Nat.mul (n+1) es)) (bc (Nat.ble (Nat.add q (Nat.mul (n+1) es)) (lenL l)) (bc (allOne (repL (n+1) (z.cells.toList.map ofV))) (k (.one .tup (.leaf .nil)) (h.set bk (.cells fl (spliceF l q (repL (n+1) (z.cells.toList.map ofV)))))) none) none) none) none)=some r:=e2
   obtain ⟨fl,l,hb,e4⟩:=zaae e2
   obtain ⟨g1,e5⟩:=zaab e4
   obtain ⟨g0,e5⟩:=zaab e5
   obtain ⟨g2,e6⟩:=zaab e5
   obtain ⟨g3,e7⟩:=zaab e6
   have g1:=Nat.le_of_ble_eq_true g1
   have g0:=Nat.eq_of_beq_eq_true g0
   have g2:q+(n+1) * es<=lenL l:=Nat.le_of_ble_eq_true g2
   rw [zabd] at g0 g2
   have g0:(repL (n+1) (z.cells.toList.map ofV)).length=(n+1) * es:=g0
   rw [zad5] at e7
   obtain ⟨B,b0,sz,ib,rfl⟩:=hpl (by omega)
   obtain ⟨w',e8,R,E⟩:=hr.write P hb (by omega) ib (hVL (n+1)) ((hVL (n+1)).one g3) (q:=q) (by omega)
   refine ⟨.value (.tuple #[]),.tuple #[],w',ι,.one .tup (.leaf .nil),_,?_,.inl rfl,E,R,⟨_,rfl,rfl⟩,e7⟩
   simp [execOp,ho,resolve,hc,ha,invoke,builtin,Builtin.clear_,hat,run_underlying hu,ex,hzr,e8]
 cases a using AV.casesE <;> (try (cases e;done))
 case nils=>
  refine Gives.pure (a:=.one .tup (.leaf .nil)) (v:=.tuple #[]) hr ?_ ⟨_,rfl,rfl⟩ e
  simp [execOp,ho,resolve,hc,ha,invoke,builtin,Builtin.clear_,hat,run_underlying hu,hx.nils]
 case sl bk q n cp=>
  obtain ⟨B,b0,sz,ib,ex⟩:=hx.sl
  exact key bk q n _ cp ex (fun _=>⟨B,b0,sz,ib,rfl⟩) e
 case osl bk q n es'=>
  by_cases hn:1<=n
  · obtain ⟨B,b0,sz,cp,ib,ex,_⟩:=hx.osl1 hn
    exact key bk q n _ cp ex (fun _=>⟨B,b0,sz,ib,rfl⟩) e
  · obtain ⟨A,cp,ex,_⟩:=hx.osl
    exact key bk q n _ cp ex (fun h=>absurd h hn) e
end
end Go.AI
namespace Go.AI
noncomputable section
open Go Go.RowKit
variable {α:Type} {P:Program} {ρ:Operand->Value} {o:Oper} {ι:Inj} {h:H} {w:World} {k:AV->H->Option α} {r:α}
def AV.onIf (x:AV) (d n:α) (f:TypeId->AV->α):α:=@AV.rec (fun _=>α) (fun _ _=>d) (fun _=>d) (fun _ _=>d) (fun _ _=>d) (fun _ _ _ _=>d)
 (fun l=>@Leaf.rec (fun _=>α) d d d d d n d (fun _=>d) (fun _ _ _ _=>d) (fun _=>d) l) (fun t a _=>@One.rec (fun _=>α) d d (fun t=>f t a) t) (fun _ _ _ _ _=>d) (fun _ _ _ _=>d) x
def concD (D:TypeDesc):Bool:=match D with | .interface _=>false | _=>true
def ofZ:Value->AV
 | .agg cs=>.agg (AV.ofList (cs.toList.map ofV))
 | v=>ofV v
theorem VR.ofZ (ι:Inj) (v:Value):VR ι (ofZ v) v:=by
 unfold AI.ofZ
 split
 · exact ⟨_,rfl,VX.of_list (VL.ofV ι _)⟩
 · exact VR.ofV ι _
def aAssertC (ok:Bool) (t:Nat) (z x:AV) (h:H) (k:AV->H->Option α):Option α:=
 x.onIf none (bc ok (k (resL true z false) h) none) fun t' v=>bc (Nat.beq t' t) (k (resL ok v true) h) (bc ok (k (resL true z false) h) none)
theorem zaer {D:TypeDesc} {t xT:TypeId} {ok:Bool} {v:Value} (w:World) (hu:P.underlying t=some D) (hD:concD D=true) :
 (Instr.typeAssert (.iface t v) xT t ok).run P w = .ok (bif ok then .tuple #[v,.bool true] else v) w:=by
 cases D <;> first | (cases hD;done) | (cases ok <;> simp [Instr.typeAssert,run_underlying hu])
theorem zag2 {D:TypeDesc} {t t' xT:TypeId} {i:TypeInfo} {v z:Value} (w:World) (hu:P.underlying t=some D) (hD:concD D=true) (hi:P.info? t=some i) (hz:i.zero=some z) (hne:t'≠t) :
 (Instr.typeAssert (.iface t' v) xT t true).run P w = .ok (.tuple #[z,.bool false]) w:=by
 cases D <;> first | (cases hD;done) | simp [Instr.typeAssert,run_underlying hu,hne,zeroValue,typeInfo,hi,hz]
theorem zaeu {D:TypeDesc} {t xT:TypeId} {i:TypeInfo} {z:Value} (w:World) (hu:P.underlying t=some D) (hi:P.info? t=some i) (hz:i.zero=some z) :
 (Instr.typeAssert .nilIface xT t true).run P w = .ok (.tuple #[z,.bool false]) w:=by
 cases D <;> simp [Instr.typeAssert,run_underlying hu,zeroValue,typeInfo,hi,hz]
theorem zaeb {a:AV} {v:Value} {b:Bool} (hv:VR ι a v):VR ι (resL true a b) (.tuple #[v,.bool b]):=zal4 (ok:=true) hv
theorem zadg {C:World->Prop} {x:Operand} {xT t:TypeId} {ok:Bool} {D:TypeDesc} {i:TypeInfo} {z:Value} {a:AV} (ho:o.op = .typeAssert x xT t ok) (hu:P.underlying t=some D) (hD:concD D=true)
 (hi:P.info? t=some i) (hz:i.zero=some z) (hx:VR ι a (ρ x)) (e:aAssertC ok t (ofZ z) a h k=some r):GivesC C P ρ o ι h k r:=by
 cases a using AV.casesE <;> (try (cases e;done))
 case nili=>
  have ex:=hx.nili
  have e:bc ok (k (resL true (ofZ z) false) h) none=some r:=e
  obtain ⟨rfl,e⟩:=zaab e
  exact GivesQ.pure (fun w' _=>by simp [execOp,ho,ex,zaeu w' hu hi hz]) (zaeb (VR.ofZ ι z)) e
 case iface t' v=>
  obtain ⟨y,ex,hy⟩:=hx.iface
  have e:bc (Nat.beq t' t) (k (resL ok v true) h) (bc ok (k (resL true (ofZ z) false) h) none)=some r:=e
  cases hb:Nat.beq t' t with
  | true=>
   rw [hb,bc_true] at e
   have e2:=e
   have hb:=Nat.eq_of_beq_eq_true hb
   subst hb
   cases ok with
   | true=>exact GivesQ.pure (a:=resL true v true) (v:=.tuple #[y,.bool true]) (fun w' _=>by simp [execOp,ho,ex,zaer w' hu hD]) (zaeb hy) e2
   | false=>exact GivesQ.pure (a:=v) (v:=y) (fun w' _=>by simp [execOp,ho,ex,zaer w' hu hD]) hy e2
  | false=>
   rw [hb,zaag] at e
   obtain ⟨rfl,e⟩:=zaab e
   have hne:t'≠t:=fun hh=>by rw [hh,Nat.beq_refl] at hb;cases hb
   exact GivesQ.pure (fun w' _=>by simp [execOp,ho,ex,zag2 w' hu hD hi hz hne]) (zaeb (VR.ofZ ι z)) e
def hasT (P:Program) (want:Array (String×TypeId)) (t:TypeId):Bool:=match P.info? t with | some i=>(lacking want i.methods).isEmpty | none=>false
def lacksT (P:Program) (want:Array (String×TypeId)) (t:TypeId):Bool:=match P.info? t with | some i=>bnot (lacking want i.methods).isEmpty | none=>false
def allHas (P:Program) (want:Array (String×TypeId)):List Nat:=(List.range P.types.size).filter (hasT P want)
def memN (t:Nat):List Nat->Bool:=@List.rec Nat (fun _=>Bool) false (fun x _ ih=>bc (Nat.beq t x) true ih)
def aAssertI (ok:Bool) (ts:List Nat) (n:Nat) (x:AV) (h:H) (k:AV->H->Option α):Option α:=
 x.onIf none (bc ok (k (resL true .nili false) h) none) fun t' v=>bc (memN t' ts) (k (resL ok (.iface t' v) true) h) (bc (Nat.ble (Nat.succ t') n) (bc ok (k (resL true .nili false) h) none) none)
theorem zah2 {t:Nat}:∀l:List Nat,memN t l=true↔t∈l
 | []=>by simp [memN]
 | x::l=>by
  have ih:=zah2 (t:=t) l
  show bc (Nat.beq t x) true (memN t l)=true↔_
  cases hb:Nat.beq t x with
  | true=>simp [bc_true,Nat.eq_of_beq_eq_true hb]
  | false=>
   have hne:t≠x:=fun hh=>by rw [hh,Nat.beq_refl] at hb;cases hb
   rw [zaag,ih];simp [hne]
theorem zaq4 {t:Nat} (ht:t<P.types.size):∃i,P.info? t=some i:=by
 unfold Tables.info?
 simp [ht]
theorem zado {C:World->Prop} {x:Operand} {xT t:TypeId} {ok:Bool} {want:Array (String×TypeId)} {j:TypeInfo} {a:AV} (ho:o.op = .typeAssert x xT t ok) (hu:P.underlying t=some (.interface want))
 (hj:P.info? t=some j) (hz:j.zero=some .nilIface) (hx:VR ι a (ρ x)) (e:aAssertI ok (allHas P want) P.types.size a h k=some r):GivesC C P ρ o ι h k r:=by
 cases a using AV.casesE <;> (try (cases e;done))
 case nili=>
  have ex:=hx.nili
  have e:bc ok (k (resL true .nili false) h) none=some r:=e
  obtain ⟨rfl,e⟩:=zaab e
  exact GivesQ.pure (a:=resL true .nili false) (v:=.tuple #[.nilIface,.bool false]) (fun w' _=>by simp [execOp,ho,ex,zaeu w' hu hj hz]) (zaeb (show VR ι .nili .nilIface from rfl)) e
 case iface t' v=>
  obtain ⟨y,ex,hy⟩:=hx.iface
  have e:bc (memN t' (allHas P want)) (k (resL ok (.iface t' v) true) h) (bc (Nat.ble (Nat.succ t') P.types.size) (bc ok (k (resL true .nili false) h) none) none)=some r:=e
  cases hm:memN t' (allHas P want) with
  | true=>
   rw [hm,bc_true] at e
   have hin:=(zah2 _).1 hm
   unfold allHas at hin
   rw [List.mem_filter,List.mem_range] at hin
   obtain ⟨i,hi⟩:=zaq4 hin.1
   have hl:lacking want i.methods=[]:=by
    have:=hin.2
    unfold hasT at this
    rw [hi] at this
    simpa using this
   have hrun:∀w':World,(Instr.typeAssert (.iface t' y) xT t ok).run P w' = .ok (bif ok then .tuple #[.iface t' y,.bool true] else .iface t' y) w':=fun w'=>by
    cases ok <;> simp [Instr.typeAssert,run_underlying hu,typeInfo,hi,missingMethod_none hl]
   have hyy:VR ι (.iface t' v) (.iface t' y):=⟨y,rfl,hy⟩
   cases ok with
   | true=>exact GivesQ.pure (a:=resL true (.iface t' v) true) (v:=.tuple #[.iface t' y,.bool true]) (fun w' _=>by simp [execOp,ho,ex,hrun]) (zaeb hyy) e
   | false=>exact GivesQ.pure (a:=.iface t' v) (v:=.iface t' y) (fun w' _=>by simp [execOp,ho,ex,hrun]) hyy e
  | false=>
   rw [hm,zaag] at e
   obtain ⟨hlt,e⟩:=zaab e
   obtain ⟨rfl,e⟩:=zaab e
   have hlt:t'<P.types.size:=Nat.le_of_ble_eq_true hlt
   obtain ⟨i,hi⟩:=zaq4 hlt
   have hl:lacking want i.methods≠[]:=fun hh=>by
    have:memN t' (allHas P want)=true:=(zah2 _).2 (by
     unfold allHas
     rw [List.mem_filter,List.mem_range]
     exact ⟨hlt,by unfold hasT;rw [hi];show (lacking want i.methods).isEmpty=true;rw [hh];rfl⟩)
    rw [hm] at this;cases this
   exact GivesQ.pure (a:=resL true .nili false) (v:=.tuple #[.nilIface,.bool false]) (fun w' _=>by simp [execOp,ho,ex,run_typeAssert_lacks hu hi hj hz hl]) (zaeb (show VR ι .nili .nilIface from rfl)) e
def methodF (P:Program) (name:String) (t:TypeId):Option FuncId:=match P.info? t with
 | some i=>match i.methods.find? (·.name == name) with
  | some m=>match m.func,m.path.toList,P.underlying t with
   | some (f,true),[],some (.pointer _)=>some f
   | some (_,false),[],some (.pointer _)=>none
   | some (f,false),[],some _=>some f
   | _,_,_=>none
  | none=>none
 | none=>none
def methTbl (P:Program) (name:String):List (Nat×Nat):=(List.range P.types.size).filterMap fun t=>(methodF P name t).map fun f=>(t,f)
def pickF (t:Nat) (g:Nat->Option α):List (Nat×Nat)->Option α:=@List.rec _ (fun _=>Option α) none (fun p _ ih=>bc (Nat.beq t p.1) (g p.2) ih)
theorem zagr {t:Nat} {g:Nat->Option α} {r:α}:∀l:List (Nat×Nat),pickF t g l=some r->∃f,(t,f)∈l/\g f=some r
 | [],e=>by cases e
 | p::l,e=>by
  have e:bc (Nat.beq t p.1) (g p.2) (pickF t g l)=some r:=e
  cases hb:Nat.beq t p.1 with
  | true=>
   rw [hb,bc_true] at e
   have hb:=Nat.eq_of_beq_eq_true hb
   exact ⟨p.2,by rw [hb];exact List.mem_cons_self,e⟩
  | false=>
   rw [hb,zaag] at e
   obtain ⟨f,h1,h2⟩:=zagr l e
   exact ⟨f,List.mem_cons_of_mem _ h1,h2⟩
theorem zahd {name:String} {t f:Nat} (hm:(t,f)∈methTbl P name):methodF P name t=some f:=by
 unfold methTbl at hm
 rw [List.mem_filterMap] at hm
 obtain ⟨t',_,e⟩:=hm
 rw [Option.map_eq_some_iff] at e
 obtain ⟨f',e1,e2⟩:=e
 cases e2
 exact e1
theorem zam0 {name:String} {t f n:Nat} {v:Value} (w:World) (hm:methodF P name t=some f):(method (n+1) t v name).run P w = .ok (f,v) w:=by
 unfold methodF at hm
 split at hm
 case h_2=>cases hm
 rename_i i hi
 split at hm
 case h_2=>cases hm
 rename_i m hf
 split at hm
 · rename_i g el hfn hp hu
   cases hm
   simp [method,typeInfo,hi,hf,hp,hfn,follow,receiverAt,run_underlying hu,Place.get]
 · cases hm
 · rename_i g D hnp hfn hp hu
   cases hm
   cases D <;> first | exact (hnp _ rfl).elim | simp [method,typeInfo,hi,hf,hp,hfn,follow,receiverAt,run_underlying hu,Place.get]
 · cases hm
theorem zaey {name:String} {t f:Nat} {v:Value} {args:Array Value} {w:World} {x:Next} (hm:methodF P name t=some f) (hc:(callFunc f (#[v]++args)).run P w = .ok x w) :
 (callMethod (.iface t v) name args).run P w = .ok x w:=by
 have hd:∃n,P.types.size+Made.depth=n+1:=⟨P.types.size+99,rfl⟩
 obtain ⟨n,hn⟩:=hd
 simp [callMethod,hn,zam0 w hm,hc]
end
end Go.AI
namespace Go.AI
noncomputable section
open Go Go.RowKit
variable {α:Type} {P:Program} {ρ:Operand->Value} {o:Oper} {ι:Inj} {h:H} {w:World} {k:AV->H->Option α} {r:α}
def aCap (x:AV) (h:H) (k:AV->H->Option α):Option α:=
 x.onSl none (fun l=>@Leaf.rec (fun _=>Option α) none none (k (.int 3 (.ofNat 0)) h) none none none none (fun _=>none) (fun _ _ _ _=>none) (fun _=>none) l) (fun _ _ _ c=>k (.int 3 (.ofNat c)) h) (fun _ _ _ _=>none)
theorem zao3 {C:World->Prop} {c:Call} {x:Operand} {t el:TypeId} {a:AV} (ho:o.op = .call c) (hc:c.callee = .builtin .cap) (ha:c.args = #[x]) (hat:c.argTypes[0]?=some t)
 (ht:P.underlying t=some (.slice el)) (hx:VR ι a (ρ x)) (e:aCap a h k=some r):GivesC C P ρ o ι h k r:=by
 cases a using AV.casesE <;> (try (cases e;done))
 case nils=>
  refine GivesQ.pure (a:=.int 3 (.ofNat 0)) (v:=.int .i64 0) (fun w' hw'=>?_) rfl e
  simp [execOp,ho,resolve,hc,ha,invoke,builtin,Builtin.cap_,hat,run_underlying ht,hx.nils,goInt]
 case sl b q n cc=>
  obtain ⟨B,base,sz,ib,ex⟩:=hx.sl
  refine GivesQ.pure (a:=.int 3 (.ofNat cc)) (v:=.int .i64 cc) (fun w' hw'=>?_) rfl e
  simp [execOp,ho,resolve,hc,ha,invoke,builtin,Builtin.cap_,hat,run_underlying ht,ex,goInt]
def elemZ (P:Program) (c:Call):Option (Nat×Nat×List AV):=
 match c.argTypes[0]?,c.argTypes[1]? with
 | some t,some t2=>match P.underlying t,P.underlying t2 with
  | some (.slice el),some (.int _)=>match P.info? el with
   | some i=>match i.zero with
    | some z=>bc (Nat.beq z.cells.size i.size) (bc (Nat.ble 1 i.size) (some (i.size,i.bytes,z.cells.toList.map ofV)) none) none
    | none=>none
   | none=>none
  | _,_=>none
 | _,_=>none
structure ElemZ (P:Program) (c:Call) (es bs:Nat) (zs:List AV):Prop where
 out:∃t t2 el kk i z,c.argTypes[0]?=some t/\c.argTypes[1]?=some t2/\P.underlying t=some (.slice el)/\P.underlying t2=some (.int kk) /\
  P.info? el=some i/\i.zero=some z/\i.size=es/\i.bytes=bs/\z.cells.size=es/\1<=es/\zs=z.cells.toList.map ofV
theorem zapf {c:Call} {es bs:Nat} {zs:List AV} (e:elemZ P c=some (es,bs,zs)):ElemZ P c es bs zs:=by
 unfold elemZ at e
 split at e
 case h_2=>cases e
 rename_i t t2 ht ht2
 split at e
 case h_2=>cases e
 rename_i el kk hu hu2
 split at e
 case h_2=>cases e
 rename_i i hi
 split at e
 case h_2=>cases e
 rename_i z hz
 cases hb:Nat.beq z.cells.size i.size with
 | false=>rw [hb] at e;cases e
 | true=>
  rw [hb,bc_true] at e
  cases hb1:Nat.ble 1 i.size with
  | false=>rw [hb1] at e;cases e
  | true=>
   rw [hb1,bc_true] at e
   cases e
   exact ⟨⟨t,t2,el,kk,i,z,ht,ht2,hu,hu2,hi,hz,rfl,rfl,Nat.eq_of_beq_eq_true hb,Nat.le_of_ble_eq_true hb1,rfl⟩⟩
def aAppZ (es bs:Nat) (zs:List AV) (x y:AV) (h:H) (k:AV->H->Option α):Option α:=
 x.onSl none (fun l=>@Leaf.rec (fun _=>Option α) none none (withInt y fun _ i=>natI i fun n=>bc (Nat.ble 1 n) (bc (Nat.ble (Nat.mul n bs) 140737488355328) (bc (Nat.ble n strMax) (k (.osl h.n 0 n es) (h.push (.cells 0 (repL n zs)))) none) none) none) none none none none (fun _=>none) (fun _ _ _ _=>none) (fun _=>none) l) (fun _ _ _ _=>none) (fun _ _ _ _=>none)
theorem zaj7 (ι:Inj) (z:Value) (n:Nat) (hs:0<z.cells.size):VL ι (repL n (z.cells.toList.map ofV)) (Builtin.zeroCells z.cells n).toList:=by
 refine VL.of_get (by rw [zaci];simp [size_zeroCells]) fun j a hj=>?_
 have hlt:=(List.getElem?_eq_some_iff.1 hj).1
 rw [zaci] at hlt
 rw [zah0 _ _ _ hlt] at hj
 obtain ⟨v,hv,hR⟩:=(VL.ofV ι z.cells.toList).get _ _ hj
 refine ⟨v,?_,hR⟩
 simp only [List.length_map,Array.length_toList] at hlt hv
 rw [Array.getElem?_toList] at hv ⊢
 obtain ⟨hlt2,hv2⟩:=Array.getElem?_eq_some_iff.1 hv
 simp [Builtin.zeroCells,hlt,Array.getElem!_eq_getD,Array.getD_eq_getD_getElem?,hv]
theorem zakd {t t2 el ty:TypeId} {kk kv:IntKind} {i:TypeInfo} {z:Value} {tys:Array TypeId} {v y:Value} {n:Nat} (h0:tys[0]?=some t) (h1:tys[1]?=some t2)
 (ht:P.underlying t=some (.slice el)) (ht2:P.underlying t2=some (.int kk)) (hi:P.info? el=some i) (hz:i.zero=some z) (hv:v = .slice none 0 0) (hy:y = .int kv (n:Int))
 (hn:1<=n) (hs:1<=i.size) (h63:n<=9223372036854775807) (hb:n * i.bytes<=140737488355328) :
 (
  Builtin.append_ tys ty #[v,y]).run P w = .ok (.slice (some ⟨w.heap.size,0,none⟩) n (grownCap w n 0 el))
  (w.drew.alloc (.cells (#[]++Builtin.zeroCells z.cells n++Builtin.zeroCells z.cells (grownCap w n 0 el - n)) el)):=by
 subst hv hy
 have h63':¬ (9223372036854775807<(n:Int)):=by omega
 have hwrap:IntKind.i64.wrap (n:Int)=(n:Int):=IntWalk.i64_in _ (by omega)
 have hneg:¬ ((n:Int)<0):=by omega
 have hbig:¬ ((n:Int) * (i.bytes:Int) > 281474976710656):=by
  have h:((n * i.bytes:Nat):Int)<=140737488355328:=by omega
  rw [Int.natCast_mul] at h;omega
 have h48':¬ (281474976710656<Builtin.nextslicecap n 0 * i.bytes):=by
  have h2:=Nat.mul_le_mul_right i.bytes (nextslicecap_le (need:=n) (old:=0) (by omega))
  rw [Nat.mul_assoc] at h2
  omega
 have hnz:¬ (n * i.size=0):=by
  have:=Nat.mul_le_mul hn hs;omega
 have hn0:¬ n=0:=by omega
 have hs0:¬ i.size=0:=by omega
 have hroom:¬ (n<=0):=by omega
 simp [Builtin.append_,h0,h1,run_underlying ht,run_underlying ht2,sizeOf,typeInfo,zeroValue,hi,hz,asInt,asIntOf,hwrap,hneg,hbig,hn0,hs0,h63',h48',Question.forced,newRow,grownCap,Builtin.firstCells]
 intro h0;exact absurd h0 hnz
theorem zask {c:Call} {x y:Operand} {res:Value} {w':World} (ho:o.op = .call c) (hc:c.callee = .builtin .append) (ha:c.args = #[x,y])
 (hrun:(Builtin.append_ c.argTypes o.type #[ρ x,ρ y]).run P w = .ok res w'):(execOp ρ o).run P w = .ok (.value res) w':=zaa9 ho hc ha hrun
theorem zamv {c:Call} {x y:Operand} {es bs:Nat} {zs:List AV} {a b:AV} (hr:Rel ι h w) (ho:o.op = .call c) (hc:c.callee = .builtin .append) (ha:c.args = #[x,y]) (hT:ElemZ P c es bs zs)
 (hx:VR ι a (ρ x)) (hy:VR ι b (ρ y)) (e:aAppZ es bs zs a b h k=some r):Gives P ρ o ι h w k r:=by
 obtain ⟨t,t2,el,kk,i,z,ta,tb,ht,ht2,hi,hz,rfl,rfl,hzs,h1s,rfl⟩:=hT.out
 cases a using AV.casesE <;> (try (cases e;done))
 case nils=>
  dsimp only [aAppZ,AV.onSl] at e
  obtain ⟨kv,iv,rfl,e1⟩:=zaah e
  obtain ⟨n,rfl,e2⟩:=zah4 e1
  obtain ⟨c1,e3⟩:=zaab e2
  obtain ⟨c2,e4⟩:=zaab e3
  obtain ⟨c3,e5⟩:=zaab e4
  clear e e1 e2 e3 e4
  have c1:=Nat.le_of_ble_eq_true c1
  have c2:n * i.bytes<=140737488355328:=Nat.le_of_ble_eq_true c2
  have c3:=Nat.le_of_ble_eq_true c3
  have hrun:=zakd (P:=P) (w:=w) (ty:=o.type) ta tb ht ht2 hi hz hx.nils (n:=n) hy.int c1 h1s (zalj c3) c2
  have hvl:=zaj7 ι z n (by omega)
  have hR:=hr.drew.newRowN (zs:=(Builtin.zeroCells z.cells (grownCap w n 0 el - n)).toList) el hvl
  have hge:n<=grownCap w n 0 el:=grownCap_ge _ _ _ _
  have earr:(#[]++Builtin.zeroCells z.cells n++Builtin.zeroCells z.cells (grownCap w n 0 el - n))=((Builtin.zeroCells z.cells n).toList++(Builtin.zeroCells z.cells (grownCap w n 0 el - n)).toList).toArray:=by
   apply Array.ext';simp
  rw [earr] at hrun
  refine ⟨_,_,_,_,.osl h.n 0 n i.size,_,zaa9 ho hc ha hrun,.inl rfl,(Ext.drew ι h w).trans (Ext.alloc hr.drew _ _ _),hR,?_,e5⟩
  have hsz:((Builtin.zeroCells z.cells n).toList++(Builtin.zeroCells z.cells (grownCap w n 0 el - n)).toList).length=grownCap w n 0 el * i.size:=by
   simp only [List.length_append,Array.length_toList,size_zeroCells,hzs, <- Nat.add_mul]
   rw [Nat.add_sub_cancel' hge]
  refine ⟨⟨w.drew.heap.size,0,none⟩,grownCap w n 0 el,rfl,hge,.inr ⟨w.drew.heap.size,0,_,by simp [Inj.add];rfl,rfl,?_⟩⟩
  simp only [List.length_append,Array.length_toList] at hsz ⊢
  omega
end
end Go.AI
namespace Go.AI
open Go Go.RowKit
section
variable {P:Program} {ops:Array Oper} {md:Region.Mode}
def goodUpon (P:Program) (o:Oper) (a:Act) (next:Act->World->Prop):Result Next->Prop
 | .ok (.value v) w'=>next (a.put o.dst v) w'
 | .ok .skip w'=>next (a.put o.dst undef) w'
 | .ok (.enter f args) w'=>Calls P f args w' fun e w''=>∃v,e = .returned v/\next (a.put o.dst v) w''
 | _=>False
def good (P:Program) (o:Oper) (a:Act) (w:World) (next:Act->World->Prop):Prop:=goodUpon P o a next ((execOp a.eval o).run P w)
abbrev Adm:={S:World->Prop // ∀w w',S w->Below w.heap.size w w'->S w'}
def Adm.all:Adm:=⟨fun _=>True,fun _ _ _ _=>trivial⟩
variable {S:Adm}
def OkU (S:Adm) (U:Nat->Prop) (w:World):Prop:=(∀B,U B->B<w.heap.size)/\S.1 w
def yP (S:Adm) (P:Program) (ops:Array Oper) (o:Oper) (v:Value) (a:Act):Prop:=
 (Region.wanted o (yielded ops a.tmps)=true/\∀w,S.1 w->(execOp a.eval o).run P w = .ok (.value v) w)\/(Region.wanted o (yielded ops a.tmps)=false/\v=undef)
def yR (P:Program) (ops:Array Oper) (o:Oper) (v:Value) (a:Act) (w:World):Prop:=
 (Region.wanted o (yielded ops a.tmps)=true/\∀w',Below w.heap.size w w'->o.quietAt P a (fun w''=>Below w'.heap.size w' w'') w' v)\/(Region.wanted o (yielded ops a.tmps)=false/\v=undef)
def mkA (n B:Nat):Value:=.slice (some ⟨B,0,none⟩) n n
def yA (P:Program) (o:Oper) (n:Nat) (X:Obj) (a:Act):Prop:=∀w,(execOp a.eval o).run P w = .ok (.value (mkA n w.heap.size)) (w.alloc X)
structure Gr (w:World) (U:Nat->Prop) (w':World) (U':Nat->Prop):Prop where
 below:Below w.heap.size w w'
 more:U'=fun B=>U B\/(w.heap.size<=B/\B<w'.heap.size)
theorem zaqy {a b c:World} (h:Below a.heap.size a b) (k:Below b.heap.size b c):Below a.heap.size a c:=
 ⟨k.os.trans h.os,k.tape.trans h.tape,k.output.trans h.output,Nat.le_trans h.size k.size,fun j hj=>(k.block j (Nat.lt_of_lt_of_le hj h.size)).trans (h.block j hj)⟩
theorem Gr.refl (w:World) (U:Nat->Prop):Gr w U w U:=⟨Below.refl _ _,by funext B;apply propext;constructor;exact .inl;rintro (h | ⟨h1,h2⟩);exact h;omega⟩
theorem Gr.trans {a b c:World} {U V W:Nat->Prop} (h:Gr a U b V) (k:Gr b V c W):Gr a U c W:=
 ⟨zaqy h.below k.below,by
  rw [k.more,h.more];funext B;apply propext
  have:=h.below.size;have:=k.below.size
  constructor
  · rintro ((h1 | h1) | h1);exact .inl h1;exact .inr (by omega);exact .inr (by omega)
  · rintro (h1 | h1);exact .inl (.inl h1);by_cases hb:B<b.heap.size;exact .inl (.inr (by omega));exact .inr (by omega)⟩
def less (U:Nat->Prop) (B:Nat):Nat->Prop:=fun C=>U C/\C≠B
def plus (U:Nat->Prop) (B:Nat):Nat->Prop:=fun C=>U C\/C=B
theorem zafy {U:Nat->Prop} {B:Nat} (h:¬ U B):less (plus U B) B=U:=by
 funext C;apply propext;unfold less plus
 constructor
 · rintro ⟨h1 | h1,h2⟩;exact h1;exact absurd h1 h2
 · intro h1;exact ⟨.inl h1,fun e=>h (e ▸ h1)⟩
theorem less_comm {U:Nat->Prop} {B C:Nat}:less (less U B) C=less (less U C) B:=by
 funext D;apply propext;unfold less;constructor <;> rintro ⟨⟨h1,h2⟩,h3⟩ <;> exact ⟨⟨h1,h3⟩,h2⟩
def step (S:Adm) (P:Program) (ops:Array Oper) (c:Nat) (o:Oper) (K:Act->World->(Nat->Prop)->Prop) (a:Act) (w:World) (U:Nat->Prop):Prop:=
 if c=0 then ∃v,yP S P ops o v a/\K (a.put o.dst v) w U
 else if c=1 then ∃v,yR P ops o v a w/\∀w' U',Gr w U w' U'->K (a.put o.dst v) w' U'
 else if c=3 then (Region.wanted o (yielded ops a.tmps)=true/\∃n X,yA P o n X a/\∀w' U' B,Gr w U w' U'->U' B->w'.heap[B]?=some X->K (a.put o.dst (mkA n B)) w' (less U' B)) \/
  (Region.wanted o (yielded ops a.tmps)=false/\∀w' U',Gr w U w' U'->K (a.put o.dst undef) w' U')
 else (Region.wanted o (yielded ops a.tmps)=true/\∀w' U',Gr w U w' U'->good P o a w' fun a' w''=>K a' w'' U'/\(∀B,U' B->w''.heap[B]?=w'.heap[B]?)/\S.1 w'') \/
  (Region.wanted o (yielded ops a.tmps)=false/\∀w' U',Gr w U w' U'->K (a.put o.dst undef) w' U')
variable (cls:Nat->Nat)
theorem Gr.new {w:World} {U:Nat->Prop} (hU:∀B,U B->B<w.heap.size) (X:Obj):Gr w U (w.alloc X) (plus U w.heap.size):=
 ⟨⟨rfl,rfl,rfl,by simp,fun k hk=>Below.heap_alloc w X k hk⟩,by
  funext B;apply propext;unfold AI.plus
  constructor
  · rintro (h | rfl);exact .inl h;exact .inr ⟨Nat.le_refl _,by simp⟩
  · rintro (h | ⟨h1,h2⟩);exact .inl h;simp at h2;exact .inr (by omega)⟩
theorem OkU.gr {S:Adm} {U U':Nat->Prop} {w w':World} (h:OkU S U w) (g:Gr w U w' U'):OkU S U' w':=⟨fun B hB=>by
 rw [g.more] at hB
 rcases hB with h1 | h1
 · exact Nat.lt_of_lt_of_le (h.1 B h1) g.below.size
 · exact h1.2,S.2 _ _ h.2 g.below⟩
theorem OkU.eff {S:Adm} {U:Nat->Prop} {w w':World} (h:∀B,U B->B<w.heap.size) (h2:∀B,U B->w'.heap[B]?=w.heap[B]?) (h3:S.1 w'):OkU S U w':=⟨fun B hB=>by
 have h4:=h2 B hB
 rw [Array.getElem?_eq_getElem (h B hB)] at h4
 exact (Array.getElem?_eq_some_iff.1 h4).1,h3⟩
theorem OkU.less {S:Adm} {U:Nat->Prop} {w:World} {B:Nat} (h:OkU S U w):OkU S (less U B) w:=⟨fun C hC=>h.1 C hC.1,h.2⟩
theorem Gr.of {w w':World} (U:Nat->Prop) (h:Below w.heap.size w w'):Gr w U w' (fun B=>U B\/(w.heap.size<=B/\B<w'.heap.size)):=⟨h,rfl⟩
theorem zaf0 (w:World) (X:Obj):(w.alloc X).heap[w.heap.size]?=some X:=heap_alloc_new w X
def freeC (ci cj:Nat):Prop:=ci=0\/cj=0\/(ci=1/\cj=1)\/cj=3
def maskOf (md:Region.Mode) (o:Oper) (acc:List Nat):Nat:=o.after.toList.foldl (fun s e=>bif Region.binds md e then (s ||| 2 ^ e.on) ||| acc.getD e.on 0 else s) 0
def masks (md:Region.Mode):List Oper->List Nat->List Nat
 | [],acc=>acc
 | o::l,acc=>masks md l (acc++[maskOf md o acc])
def reachB (ms:List Nat) (j i:Nat):Bool:=(ms.getD j 0).testBit i
def Closed (md:Region.Mode) (ops:Array Oper) (listed:Array Bool):Prop:=∀j oj,ops[j]?=some oj->listed.getD j false=true->∀e∈oj.after,Region.binds md e=true->listed.getD e.on false=true
def Implies (md:Region.Mode) (ops:Array Oper) (j i:Nat):Prop:=(∃oj,ops[j]?=some oj)/\∀listed,Closed md ops listed->∀oj,ops[j]?=some oj->(∀e∈oj.after,Region.binds md e=true->listed.getD e.on false=true)->listed.getD i false=true
theorem zamn {acc:List Nat} {j:Nat} {o:Oper} (ho:ops[j]?=some o) (hacc:∀k i,(acc.getD k 0).testBit i=true->Implies md ops k i) (i:Nat) (h:(maskOf md o acc).testBit i=true):Implies md ops j i:=by
 have key:∀(l:List Edge) (s:Nat),(∀e∈l,e∈o.after)->(s.testBit i=true->Implies md ops j i)->(l.foldl (fun s e=>bif Region.binds md e then (s ||| 2 ^ e.on) ||| acc.getD e.on 0 else s) s).testBit i=true->Implies md ops j i:=by
  intro l
  induction l with
  | nil=>intro s _ hs h;exact hs h
  | cons e l ih=>
   intro s hl hs h
   rw [List.foldl_cons] at h
   refine ih _ (fun e' he'=>hl e' (List.mem_cons_of_mem _ he')) (fun h2=>?_) h
   cases hb:Region.binds md e with
   | false=>rw [hb,cond_false] at h2;exact hs h2
   | true=>
    rw [hb,cond_true,Nat.testBit_or,Nat.testBit_or,Bool.or_eq_true,Bool.or_eq_true] at h2
    rcases h2 with (h2 | h2) | h2
    · exact hs h2
    · rw [Nat.testBit_two_pow] at h2
      have h2:=of_decide_eq_true h2
      refine ⟨⟨o,ho⟩,?_⟩
      intro listed hc oj hoj hall
      rw [ho] at hoj;cases hoj
      rw [<- h2];exact hall e (hl e (List.mem_cons_self ..)) hb
    · obtain ⟨⟨oe,hoe⟩,hI⟩:=hacc e.on i h2
      refine ⟨⟨o,ho⟩,?_⟩
      intro listed hc oj hoj hall
      rw [ho] at hoj;cases hoj
      have h3:=hall e (hl e (List.mem_cons_self ..)) hb
      exact hI listed hc oe hoe fun e' he' hb'=>hc e.on oe hoe h3 e' he' hb'
 exact key o.after.toList 0 (fun e he=>by simpa using he) (fun h=>by simp at h) h
theorem zaii:∀(l:List Oper) (acc:List Nat),(∀q,l[q]?=ops[acc.length+q]?)->(∀k i,(acc.getD k 0).testBit i=true->Implies md ops k i)->∀k i,((masks md l acc).getD k 0).testBit i=true->Implies md ops k i
 | [],acc,_,hacc,k,i,h=>hacc k i h
 | o::l,acc,hl,hacc,k,i,h=>by
  have h0:ops[acc.length]?=some o:=by simpa using (hl 0).symm
  refine zaii l (acc++[maskOf md o acc]) (fun q=>?_) (fun k i h=>?_) k i h
  · have:=hl (q+1)
    rw [List.length_append,List.length_singleton]
    simpa [Nat.add_assoc,Nat.add_comm 1 q] using this
  · by_cases hk:k<acc.length
    · refine hacc k i ?_
      rw [List.getD_eq_getElem?_getD,List.getElem?_append_left hk] at h
      rw [List.getD_eq_getElem?_getD];exact h
    · by_cases hk2:k=acc.length
      · subst hk2
        rw [List.getD_eq_getElem?_getD,List.getElem?_append_right (Nat.le_refl _)] at h
        exact zamn h0 hacc i (by simpa using h)
      · rw [List.getD_eq_getElem?_getD,List.getElem?_eq_none (by simp;omega)] at h
        simp at h
theorem Closed.set {listed:Array Bool} (hc:Closed md ops listed) {j:Nat} (hj:j∈Region.ready md ops listed):Closed md ops (listed.setIfInBounds j true):=by
 intro k ok hk hl e he hb
 obtain ⟨_,oj,hoj,hall⟩:=mem_ready.1 hj
 by_cases hkj:j=k
 · subst hkj;rw [hk] at hoj;cases hoj;exact getD_set_true (hall e he hb)
 · rw [getD_set_ne false hkj] at hl;exact getD_set_true (hc k ok hk hl e he hb)
def freeB (ci cj:Nat):Bool:=ci == 0 || (cj == 0 || ((ci == 1 && cj == 1) || cj == 3))
theorem zan5 {ci cj:Nat} (h:freeB ci cj=true):freeC ci cj:=by
 unfold freeB at h;unfold freeC
 simp only [Bool.or_eq_true,Bool.and_eq_true,beq_iff_eq] at h
 exact h
def freeX (ms:List Nat) (ops:Array Oper) (cls:Nat->Nat) (listed:Array Bool) (i:Nat):Bool:=
 match ops[i]? with
 | none=>false
 | some oi=>(List.range ops.size).all fun j=>j == i || listed.getD j true || match ops[j]? with
  | some oj=>reachB ms j i || (oi.apart ops oj && freeB (cls i) (cls j))
  | none=>true
def lexFromX (md:Region.Mode) (ms:List Nat) (ops:Array Oper) (cls:Nat->Nat):Nat->Nat->Array Bool->Bool
 | 0,_,listed=>(Region.ready md ops listed).isEmpty
 | fuel+1,k,listed=>(Region.ready md ops listed).contains k && freeX ms ops cls listed k && lexFromX md ms ops cls fuel (k+1) (listed.setIfInBounds k true)
def lexX (md:Region.Mode) (ops:Array Oper) (cls:Nat->Nat):Bool:=Region.noSelect ops && lexFromX md (masks md ops.toList []) ops cls ops.size 0 (Array.replicate ops.size false)
theorem zao2 {i:Nat} {oi:Oper} {listed:Array Bool} (hi:ops[i]?=some oi) (h:freeX (masks md ops.toList []) ops cls listed i=true) (j:Nat) (oj:Oper)
 (hj:ops[j]?=some oj) (hne:j≠i) (hun:listed.getD j true=false) (hno:reachB (masks md ops.toList []) j i=false):oi.apart ops oj=true/\freeC (cls i) (cls j):=by
 unfold freeX at h
 simp only [hi] at h
 have hlt:=(Array.getElem?_eq_some_iff.1 hj).1
 have:=List.all_eq_true.1 h j (List.mem_range.2 hlt)
 simp only [hj,hun,hno,Bool.or_false,Bool.or_eq_true,beq_iff_eq,hne,false_or,Bool.and_eq_true,Bool.false_eq_true] at this
 exact ⟨this.1,zan5 this.2⟩
def lexL (md:Region.Mode) (ms:List Nat) (ops:Array Oper) (cls:Nat->Nat):List Nat->Array Bool->Bool
 | [],listed=>(Region.ready md ops listed).isEmpty
 | k::l,listed=>(Region.ready md ops listed).contains k && freeX ms ops cls listed k && lexL md ms ops cls l (listed.setIfInBounds k true)
def lexP (md:Region.Mode) (ops:Array Oper) (cls:Nat->Nat) (l:List Nat):Bool:=Nat.beq l.length ops.size && (Region.noSelect ops && lexL md (masks md ops.toList []) ops cls l (Array.replicate ops.size false))
end
end Go.AI
namespace Go.AI
noncomputable section
open Go Go.RowKit
abbrev R:=AV×H
abbrev Env:=FuncId->List AV->H->Option R
def Callable (P:Program) (f:FuncId):Prop:=∃fn,P.funcs[f]?=some fn/\fn.body.isSome=true/\(fn.name == "runtime.NumGoroutine")=false
structure Tri (P:Program) (f:FuncId) (args:List AV) (h:H) (r:R):Prop where
 can:Callable P f
 run:∀ι w vs,Rel ι h w->VL ι args vs->Calls P f vs.toArray w fun e w'=>∃v ι',e = .returned v/\VR ι' r.1 v/\Ext ι h w ι' r.2 w'/\Rel ι' r.2 w'
def Sound (P:Program) (Γ:Env):Prop:=∀f args h r,Γ f args h=some r->Tri P f args h r
def OpS (P:Program) (o:Oper) (ι:Inj) (h:H) (a:Act) (w:World) (k:AV->H->Option R) (r:R):Prop:=
 ∀(next:Act->World->Prop),
  (∀x v w' ι' h',Ext ι h w ι' h' w'->Rel ι' h' w'->VR ι' x v->k x h'=some r->next (a.put o.dst v) w')->good P o a w next
theorem OpS.of_gives {P:Program} {o:Oper} {ι:Inj} {h:H} {a:Act} {w:World} {k:AV->H->Option R} {r:R} (g:Gives P a.eval o ι h w k r):OpS P o ι h a w k r:=by
 intro next hn
 obtain ⟨x,v,w',ι',y,h',e,hx,hE,hR,hV,hk⟩:=g
 unfold good
 rw [e]
 rcases hx with rfl | ⟨rfl,rfl⟩
 · exact hn y v w' ι' h' hE hR hV hk
 · exact hn y undef w' ι' h' hE hR hV hk
theorem OpS.of_q {P:Program} {o:Oper} {ι:Inj} {h:H} {a:Act} {w:World} {k:AV->H->Option R} {r:R} (hr:Rel ι h w) (g:GivesQ P a.eval o ι h w k r):OpS P o ι h a w k r:=.of_gives (g.gives hr)
def lenK (P:Program) (t:TypeId):Nat:=match P.underlying t with | some .string=>0 | some (.slice _)=>1 | some (.map _ _)=>2 | _=>9
def avLen (x:AV):Nat:=@AV.rec (fun _=>Nat) (fun _ _=>8) (fun _=>8) (fun _ _=>8) (fun _ _=>0) (fun _ _ _ _=>1) (fun l=>@Leaf.rec (fun _=>Nat) 8 8 1 2 8 8 8 (fun _=>2) (fun _ _ _ _=>1) (fun _=>8) l) (fun _ _ _=>8) (fun _ _ _ _ _=>8) (fun _ _ _ _=>8) x
def aLenK (kd:Nat) (x:AV) (h:H) (k:AV->H->Option R):Option R:=bc (Nat.beq (avLen x) kd) (aLen x h k) none
theorem zali {P:Program} {t:TypeId} {x:AV} (h:Nat.beq (avLen x) (lenK P t)=true):lenKind P t x=true:=by
 have h:=Nat.eq_of_beq_eq_true h
 unfold lenK at h
 unfold lenKind
 cases hu:P.underlying t with
 | none=>rw [hu] at h;cases x using AV.casesE <;> cases h
 | some d=>rw [hu] at h;cases d <;> cases x using AV.casesE <;> first | rfl | (cases h;done)
def elemT (P:Program) (c:Call):Option (Nat×Nat):=
 match c.argTypes[0]?,c.argTypes[1]? with
 | some t,some t2=>match P.underlying t,P.underlying t2 with
  | some (.slice el),some d2=>match d2 with
   | .int _=>none
   | _=>match P.info? el with
    | some i=>match i.zero with
     | some z=>bc (Nat.beq z.cells.size i.size) (some (i.size,i.bytes)) none
     | none=>none
    | none=>none
  | _,_=>none
 | _,_=>none
theorem zai8 {P:Program} {c:Call} {es bs:Nat} (e:elemT P c=some (es,bs)):ElemT P c es bs:=by
 unfold elemT at e
 split at e
 case h_2=>cases e
 rename_i t t2 ht ht2
 split at e
 case h_2=>cases e
 rename_i el d2 hu hu2
 split at e
 · cases e
 rename_i hni
 split at e
 case h_2=>cases e
 rename_i i hi
 split at e
 case h_2=>cases e
 rename_i z hz
 cases hb:Nat.beq z.cells.size i.size with
 | false=>rw [hb] at e;cases e
 | true=>
  rw [hb,bc_true] at e
  cases e
  exact ⟨⟨t,t2,el,d2,i,z,ht,ht2,hu,hu2,fun kk hk=>hni kk hk,hi,hz,rfl,rfl,Nat.eq_of_beq_eq_true hb⟩⟩
def bindR (x:Option R) (k:AV->H->Option R):Option R:=@Option.rec R (fun _=>Option R) none (fun r=>k r.1 r.2) x
theorem zagl {x:Option R} {k:AV->H->Option R} {r:R} (e:bindR x k=some r):∃r1,x=some r1/\k r1.1 r1.2=some r:=by
 cases x with
 | none=>cases e
 | some r1=>exact ⟨r1,rfl,e⟩
def onFn (f:Fn) (d:Option R) (k:Nat->Option R):Option R:=@Fn.rec (fun _=>Option R) k (fun _=>d) (fun _ _=>d) (fun _ _ _ _=>d) (fun _=>d) f
def dCall (Γ:Env) (f:AV) (args:List AV) (h:H) (k:AV->H->Option R):Option R:=
 f.onFunc none fun fn a c=>onFn fn none fun g=>withListA a fun as=>withListA c fun cs=>bindR (Γ g (appA as (appA args cs)) h) k
def dInv (Γ:Env) (T:List (Nat×Nat)) (x:AV) (args:List AV) (h:H) (k:AV->H->Option R):Option R:=
 x.onIf none none fun t v=>pickF t (fun g=>bindR (Γ g (.cons v args) h) k) T
def aSliceS (x:AV) (lo hi mx:Option AV) (h:H) (k:AV->H->Option R):Option R:=withStr x fun l n=>aSliceT l n lo hi mx h k
def aSliceV (es:Nat) (x:AV) (lo hi mx:Option AV) (h:H) (k:AV->H->Option R):Option R:=aSlice es x lo hi mx h k
def dBin (P:Program) (op:BinOp) (t:TypeId) (x y:AV) (h:H) (k:AV->H->Option R):Option R:=
 match P.underlying t with
 | some (.int _)=>match op with
  | .add=>aArith iadd x y h k
  | .sub=>aArith isub x y h k
  | .mul=>aArith imul x y h k
  | .quo=>aQuo x y h k
  | .rem=>aRem x y h k
  | .and=>aBits .and x y h k
  | .or=>aBits .or x y h k
  | .xor=>aBits .xor x y h k
  | .andNot=>aBits .andNot x y h k
  | .shl=>aShl x y h k
  | .shr=>aShr x y h k
  | .eql=>aCmpI ieq x y h k
  | .neq=>aCmpI (fun a b=>bnot (ieq a b)) x y h k
  | .lss=>aCmpI ilt x y h k
  | .leq=>aCmpI ile x y h k
  | .gtr=>aCmpI (fun a b=>ilt b a) x y h k
  | .geq=>aCmpI (fun a b=>ile b a) x y h k
 | some .string=>match op with
  | .add=>aSAdd x y h k
  | .eql=>aCmpS eqL x y h k
  | .neq=>aCmpS (fun a b=>bnot (eqL a b)) x y h k
  | .lss=>aCmpS ltL x y h k
  | .leq=>aCmpS (fun a b=>bnot (ltL b a)) x y h k
  | .gtr=>aCmpS (fun a b=>ltL b a) x y h k
  | .geq=>aCmpS (fun a b=>bnot (ltL a b)) x y h k
  | _=>none
 | some (.array len el)=>(match P.underlying el,(P.info? el).map (·.size) with
  | some (.int _),some 1=>bx (bnot (P.eqGuardType P.depth t)) (match op with
   | .eql=>aEqA false len x y h k
   | .neq=>aEqA true len x y h k
   | _=>none) none
  | _,_=>none)
 | _=>match op with
  | .eql=>aEq false (eqKind P t) x y h k
  | .neq=>aEq true (eqKind P t) x y h k
  | _=>none
def dConv (P:Program) (s d:TypeId) (x:AV) (h:H) (k:AV->H->Option R):Option R:=
 match P.underlying s,P.underlying d with
 | some _,some (.int kn)=>aConvI (kc kn) x h k
 | some (.slice el),some .string=>(match P.underlying el with | some (.int .u8)=>aB2S x h k | _=>none)
 | some _,some .string=>aSame x h k
 | _,_=>none
def dOp (P:Program) (Γ:Env) (o:Oper) (st:St) (h:H) (k:AV->H->Option R):Option R:=
 match o.op with
 | .move x=>k (ev st x) h
 | .assign x=>k (ev st x) h
 | .pick c x y=>aPick (ev st c) (ev st x) (ev st y) h k
 | .alloc t=>(match zerosT P t with | some zs=>aAlloc zs h k | none=>none)
 | .box _ x=>aBox (ev st x) h k
 | .build t ps=>(match zerosT P t,placesT P t with
  | some zs,some pl=>(match pairUp pl (ps.toList.map fun p=>(p.1,ev st p.2)) with | some qs=>aBuild zs qs h k | none=>none)
  | _,_=>none)
 | .buildSlice t n ps=>(match P.underlying t with
  | some (.slice el)=>(match sizeT P el,zerosT P el with
   | some es,some _=>bx (Nat.ble (n * es) 16777216) (aBuildSlice n es (pairE es (ps.toList.map fun p=>(p.1,ev st p.2))) h k) none
   | _,_=>none)
  | _=>none)
 | .load t x=>(match isAggT P t with
  | some true=>(match sizeT P t with | some n=>aLoadN n (ev st x) h k | none=>none)
  | some false=>aLoad (ev st x) h k
  | none=>none)
 | .store t x y=>(match sizeT P t,isAggT P t with
  | some n,some true=>aStoreN n (ev st x) (ev st y) h k
  | some n,some false=>bx (Nat.beq n 1) (aStore (ev st x) (ev st y) h k) none
  | _,_=>none)
 | .nilCheck x=>aNilCheck (ev st x) h k
 | .binOp op t x y _=>dBin P op t (ev st x) (ev st y) h k
 | .unOp op _ x=>(match op with | .not=>aNot (ev st x) h k | .neg=>aNeg (ev st x) h k | _=>none)
 | .convert s d x=>dConv P s d (ev st x) h k
 | .makeInterface t x=>bx (P.concrete t) (aMkIface t (ev st x) h k) none
 | .slice t x lo hi mx=>(match P.underlying t with
  | some .string=>aSliceS (ev st x) (lo.map (ev st)) (hi.map (ev st)) (mx.map (ev st)) h k
  | some (.slice el)=>(match sizeT P el with
   | some es=>bx (hi.isSome || mx.isNone) (aSliceV es (ev st x) (lo.map (ev st)) (hi.map (ev st)) (mx.map (ev st)) h k) none
   | none=>none)
  | some (.array n el)=>(match sizeT P el with
   | some es=>bx (hi.isSome || mx.isNone) (aSliceA es n (ev st x) (lo.map (ev st)) (hi.map (ev st)) (mx.map (ev st)) h k) none
   | none=>none)
  | _=>none)
 | .fieldAddr t x f=>(match fieldOff P t f with | some off=>aField off (ev st x) h k | none=>none)
 | .indexAddr t x i=>(match P.underlying t with
  | some (.slice el)=>(match sizeT P el with | some es=>aIdxAddr es (ev st x) (ev st i) h k | none=>none)
  | some (.array len el)=>(match sizeT P el with | some es=>aIdxArr es len (ev st x) (ev st i) h k | none=>none)
  | _=>none)
 | .index t x i=>(match P.underlying t with
  | some .string=>aIdxStr (ev st x) (ev st i) h k
  | some (.array len el)=>(match isAggT P el,sizeT P el with | some g,some n=>aIndexV g n len (ev st x) (ev st i) h k | _,_=>none)
  | _=>none)
 | .extract x i=>aExtract (ev st x) i h k
 | .call c=>(match c.callee with
  | .value f=>dCall Γ (ev st f) (c.args.toList.map (ev st)) h k
  | .invoke x n=>dInv Γ (methTbl P n) (ev st x) (c.args.toList.map (ev st)) h k
  | .builtin .len=>(match c.args.toList,c.argTypes[0]? with
   | [x],some t=>aLenK (lenK P t) (ev st x) h k
   | _,_=>none)
  | .builtin .append=>(match c.args.toList,elemT P c with
   | [x,y],some (es,bs)=>aAppend es bs (ev st x) (ev st y) h k
   | [x,y],none=>(match elemZ P c with | some (es,bs,zs)=>aAppZ es bs zs (ev st x) (ev st y) h k | none=>none)
   | _,_=>none)
  | .builtin .cap=>(match c.args.toList,c.argTypes[0]? with
   | [x],some t=>(match P.underlying t with | some (.slice _)=>aCap (ev st x) h k | _=>none)
   | _,_=>none)
  | .builtin .max=>(match c.args.toList with | [x,y]=>aMM true (ev st x) (ev st y) h k | _=>none)
  | .builtin .min=>(match c.args.toList with | [x,y]=>aMM false (ev st x) (ev st y) h k | _=>none)
  | .builtin .clear=>(match c.args.toList,c.argTypes[0]? with
   | [x],some t=>(match P.underlying t with
    | some (.map _ _)=>aClearM (ev st x) h k
    | some (.slice el)=>(match P.info? el with | some i=>(match i.zero with | some z=>aClearS i.size (z.cells.toList.map ofV) (ev st x) h k | none=>none) | none=>none)
    | _=>none)
   | _,_=>none)
  | .builtin .copy=>(match c.args.toList,c.argTypes[0]? with
   | [x,y],some t=>(match P.underlying t with
    | some (.slice el)=>(match sizeT P el with | some es=>aCopy es (ev st x) (ev st y) h k | none=>none)
    | _=>none)
   | _,_=>none)
  | _=>none)
 | .makeSlice t x y=>(match P.underlying t with
  | some (.slice el)=>(match P.info? el with
   | some i=>(match i.zero with
    | some z=>bx (Nat.beq z.cells.size i.size) (aMake i.bytes (z.cells.toList.map ofV) (ev st x) (ev st y) h k) none
    | none=>none)
   | none=>none)
  | _=>none)
 | .makeMap _ y=>(match y with | none=>aMakeMap h k | some _=>none)
 | .lookup t x y ok=>(match P.underlying t with
  | some (.map kt et)=>(match P.underlying kt,P.info? et with
   | some D,some i=>(match i.zero with | some z=>bc (keyD D (ev st y)) (aLookup ok (ofV z) (ev st x) (ev st y) h k) none | none=>none)
   | _,_=>none)
  | _=>none)
 | .mapUpdate t x y z=>(match P.underlying t with
  | some (.map kt _)=>(match P.underlying kt with | some D=>bc (keyD D (ev st y)) (aMapSet (ev st x) (ev st y) (ev st z) h k) none | none=>none)
  | _=>none)
 | .insert t x y z=>(match P.underlying t with
  | some (.map kt _)=>(match P.underlying kt with | some D=>bc (keyD D (ev st y)) (aMapSet (ev st x) (ev st y) (ev st z) h k) none | none=>none)
  | _=>none)
 | .makeFunc fn first captured=>aMakeF fn (first.toList.map (ev st)) (captured.toList.map (ev st)) h k
 | .field t x f=>(match fieldT P t f with
  | some (ft,off)=>(match isAggT P ft,sizeT P ft with | some g,some n=>aFieldV g n off (ev st x) h k | _,_=>none)
  | none=>none)
 | .typeAssert x _ t ok=>(match P.underlying t,P.info? t with
  | some (.interface want),some j=>(match j.zero with | some .nilIface=>aAssertI ok (allHas P want) P.types.size (ev st x) h k | _=>none)
  | some D,some i=>(match i.zero with | some z=>bc (concD D) (aAssertC ok t (ofZ z) (ev st x) h k) none | none=>none)
  | _,_=>none)
 | _=>none
theorem zaak {β:Type} {a:Array β} {l:List β} (h:a.toList=l):a=l.toArray:=by subst h;simp
theorem zajk {P:Program} {o:Oper} {op:BinOp} {t u:TypeId} {x y:Operand} {a b:AV} {ι:Inj} {h:H} {w:World} {ρ:Operand->Value} {k:AV->H->Option R} {r:R}
 (hr:Rel ι h w) (ho:o.op = .binOp op t x y u) (hx:VR ι a (ρ x)) (hy:VR ι b (ρ y)) (e:dBin P op t a b h k=some r):GivesQ P ρ o ι h w k r:=by
 unfold dBin at e
 split at e
 · split at e
   · exact zack hr ho hx hy (.inl ⟨rfl,rfl⟩) e
   · exact zack hr ho hx hy (.inr (.inl ⟨rfl,rfl⟩)) e
   · exact zack hr ho hx hy (.inr (.inr ⟨rfl,rfl⟩)) e
   · exact zajf hr ho hx hy e
   · exact zajr hr ho hx hy e
   · exact zab9 hr ho hx hy (.inl rfl) e
   · exact zab9 hr ho hx hy (.inr (.inl rfl)) e
   · exact zab9 hr ho hx hy (.inr (.inr (.inl rfl))) e
   · exact zab9 hr ho hx hy (.inr (.inr (.inr rfl))) e
   · exact zaj2 hr ho hx hy e
   · exact zai9 hr ho hx hy e
   · exact zaba hr ho hx hy (.inl ⟨rfl,rfl⟩) e
   · exact zaba hr ho hx hy (.inr (.inl ⟨rfl,rfl⟩)) e
   · exact zaba hr ho hx hy (.inr (.inr (.inl ⟨rfl,rfl⟩))) e
   · exact zaba hr ho hx hy (.inr (.inr (.inr (.inl ⟨rfl,rfl⟩)))) e
   · exact zaba hr ho hx hy (.inr (.inr (.inr (.inr (.inl ⟨rfl,rfl⟩))))) e
   · exact zaba hr ho hx hy (.inr (.inr (.inr (.inr (.inr ⟨rfl,rfl⟩))))) e
 · split at e
   · exact zahk hr ho hx hy e
   · exact zaa8 hr ho hx hy (.inl ⟨rfl,rfl⟩) e
   · exact zaa8 hr ho hx hy (.inr (.inl ⟨rfl,rfl⟩)) e
   · exact zaa8 hr ho hx hy (.inr (.inr (.inl ⟨rfl,rfl⟩))) e
   · exact zaa8 hr ho hx hy (.inr (.inr (.inr (.inl ⟨rfl,rfl⟩)))) e
   · exact zaa8 hr ho hx hy (.inr (.inr (.inr (.inr (.inl ⟨rfl,rfl⟩))))) e
   · exact zaa8 hr ho hx hy (.inr (.inr (.inr (.inr (.inr ⟨rfl,rfl⟩))))) e
   · cases e
 · rename_i len el hu
   split at e
   case h_2=>cases e
   rename_i kk hel hsz
   obtain ⟨hg,e⟩:=zaab e
   rw [zad6,Bool.not_eq_true'] at hg
   split at e
   · exact zaex ho hu hel hsz hg hx hy (.inl ⟨rfl,rfl⟩) e
   · exact zaex ho hu hel hsz hg hx hy (.inr ⟨rfl,rfl⟩) e
   · cases e
 · split at e
   · exact zaln hr ho hx hy (.inl ⟨rfl,rfl⟩) e
   · exact zaln hr ho hx hy (.inr ⟨rfl,rfl⟩) e
   · cases e
theorem zaqh {C:World->Prop} {P:Program} {o:Oper} {op:BinOp} {t u:TypeId} {x y:Operand} {a b:AV} {ι:Inj} {h:H} {w:World} {ρ:Operand->Value} {k:AV->H->Option R} {r:R}
 (hr:Rel ι h w) (hpu:(∃kd,P.underlying t=some (.int kd))\/P.underlying t=some .string) (ho:o.op = .binOp op t x y u) (hx:VR ι a (ρ x)) (hy:VR ι b (ρ y)) (e:dBin P op t a b h k=some r):GivesC C P ρ o ι h k r:=by
 unfold dBin at e
 split at e
 · split at e
   · exact zack hr ho hx hy (.inl ⟨rfl,rfl⟩) e
   · exact zack hr ho hx hy (.inr (.inl ⟨rfl,rfl⟩)) e
   · exact zack hr ho hx hy (.inr (.inr ⟨rfl,rfl⟩)) e
   · exact zajf hr ho hx hy e
   · exact zajr hr ho hx hy e
   · exact zab9 hr ho hx hy (.inl rfl) e
   · exact zab9 hr ho hx hy (.inr (.inl rfl)) e
   · exact zab9 hr ho hx hy (.inr (.inr (.inl rfl))) e
   · exact zab9 hr ho hx hy (.inr (.inr (.inr rfl))) e
   · exact zaj2 hr ho hx hy e
   · exact zai9 hr ho hx hy e
   · exact zaba hr ho hx hy (.inl ⟨rfl,rfl⟩) e
   · exact zaba hr ho hx hy (.inr (.inl ⟨rfl,rfl⟩)) e
   · exact zaba hr ho hx hy (.inr (.inr (.inl ⟨rfl,rfl⟩))) e
   · exact zaba hr ho hx hy (.inr (.inr (.inr (.inl ⟨rfl,rfl⟩)))) e
   · exact zaba hr ho hx hy (.inr (.inr (.inr (.inr (.inl ⟨rfl,rfl⟩))))) e
   · exact zaba hr ho hx hy (.inr (.inr (.inr (.inr (.inr ⟨rfl,rfl⟩))))) e
 · split at e
   · exact zahk hr ho hx hy e
   · exact zaa8 hr ho hx hy (.inl ⟨rfl,rfl⟩) e
   · exact zaa8 hr ho hx hy (.inr (.inl ⟨rfl,rfl⟩)) e
   · exact zaa8 hr ho hx hy (.inr (.inr (.inl ⟨rfl,rfl⟩))) e
   · exact zaa8 hr ho hx hy (.inr (.inr (.inr (.inl ⟨rfl,rfl⟩)))) e
   · exact zaa8 hr ho hx hy (.inr (.inr (.inr (.inr (.inl ⟨rfl,rfl⟩))))) e
   · exact zaa8 hr ho hx hy (.inr (.inr (.inr (.inr (.inr ⟨rfl,rfl⟩))))) e
   · cases e
 · rename_i len el hu
   split at e
   case h_2=>cases e
   rename_i kk hel hsz
   obtain ⟨hg,e⟩:=zaab e
   rw [zad6,Bool.not_eq_true'] at hg
   split at e
   · exact zaex ho hu hel hsz hg hx hy (.inl ⟨rfl,rfl⟩) e
   · exact zaex ho hu hel hsz hg hx hy (.inr ⟨rfl,rfl⟩) e
   · cases e
 · rename_i h1 h2 h3;rcases hpu with ⟨kd,hu⟩ | hu
   · exact absurd hu (h1 kd)
   · exact absurd hu h2
theorem VL.map_ev {ι:Inj} {ρA:Operand->AV} {ρ:Operand->Value} (hρ:∀x,VR ι (ρA x) (ρ x)):∀(l:List Operand),VL ι (l.map ρA) (l.map ρ)
 | []=>.nil
 | x::l=>.cons (hρ x) (VL.map_ev hρ l)
theorem OptR.map {ι:Inj} {ρA:Operand->AV} {ρ:Operand->Value} (hρ:∀x,VR ι (ρA x) (ρ x)) (x:Option Operand):OptR ι ρ (x.map ρA) x:=by
 cases x with
 | none=>exact .inl ⟨rfl,rfl⟩
 | some y=>exact .inr ⟨_,y,rfl,rfl,hρ y⟩
theorem zama {P:Program} {Γ:Env} {o:Oper} {ι:Inj} {h:H} {a:Act} {w:World} {k:AV->H->Option R} {r r1:R} {g:Nat} {as:List AV} {vs:List Value} (hΓ:Sound P Γ) (hr:Rel ι h w)
 (hg:Γ g as h=some r1) (hargs:VL ι as vs) (hex:(callFunc g vs.toArray).run P w = .ok (.enter g vs.toArray) w->(execOp a.eval o).run P w = .ok (.enter g vs.toArray) w) (e:k r1.1 r1.2=some r):OpS P o ι h a w k r:=by
 intro next hn
 have T:=hΓ _ _ _ _ hg
 obtain ⟨fn,hfn,hbody,hname⟩:=T.can
 have hcall:=T.run ι w _ hr hargs
 have hname':¬ fn.name = "runtime.NumGoroutine" := by simpa using hname
 have hb':¬ fn.body=none:=by intro hh;rw [hh] at hbody;cases hbody
 have hcf:(callFunc g vs.toArray).run P w = .ok (.enter g vs.toArray) w:=by simp [callFunc,hfn,hname',hb']
 unfold good
 rw [hex hcf]
 refine hcall.mono fun e' w' hpost=>?_
 obtain ⟨v,ι',rfl,hv,hE,hR⟩:=hpost
 exact ⟨v,rfl,hn r1.1 v w' ι' r1.2 hE hR hv e⟩
theorem zaof {P:Program} {Γ:Env} {o:Oper} {c:Call} {f:Operand} {n:String} {ι:Inj} {h:H} {a:Act} {w:World} {ρA:Operand->AV} {k:AV->H->Option R} {r:R} (hΓ:Sound P Γ)
 (hr:Rel ι h w) (ho:o.op = .call c) (hc:c.callee = .invoke f n) (hρ:∀x,VR ι (ρA x) (a.eval x)) (e:dInv Γ (methTbl P n) (ρA f) (c.args.toList.map ρA) h k=some r):OpS P o ι h a w k r:=by
 have hfx:∃t v,ρA f = .iface t v/\pickF t (fun g=>bindR (Γ g (.cons v (c.args.toList.map ρA)) h) k) (methTbl P n)=some r:=by
  unfold dInv at e
  generalize ρA f=F at e
  cases F using AV.casesE <;> (try (cases e;done))
  exact ⟨_,_,rfl,e⟩
 obtain ⟨t,v,hf,e⟩:=hfx
 obtain ⟨g,hm,e⟩:=zagr _ e
 obtain ⟨r1,hg,e⟩:=zagl e
 have hm:=zahd hm
 have hfv:=hρ f
 rw [hf] at hfv
 obtain ⟨y,ef,hy⟩:=hfv.iface
 refine zama (vs:=y::c.args.toList.map a.eval) hΓ hr hg (.cons hy (VL.map_ev hρ _)) (fun hcf=>?_) e
 have e1:(y::c.args.toList.map a.eval).toArray = #[y]++Array.map a.eval c.args:=by apply Array.ext';simp
 rw [e1] at hcf ⊢
 have:=zaey (name:=n) hm hcf
 have e2:(#[a.eval f]++Array.map a.eval c.args).extract 1 (#[a.eval f]++Array.map a.eval c.args).size=Array.map a.eval c.args:=by apply Array.ext';simp;exact List.take_of_length_le (by simp)
 have e3:(#[a.eval f]++Array.map a.eval c.args)[0]?=some (.iface t y):=by rw [<- ef];simp [Array.getElem?_append]
 simp only [execOp,ho,resolve,hc,Sem.run_pure,Sem.run_bind,Result.andThen,invoke,e3,e2,this]
theorem zamd {P:Program} {Γ:Env} {o:Oper} {c:Call} {f:Operand} {ι:Inj} {h:H} {a:Act} {w:World} {ρA:Operand->AV} {k:AV->H->Option R} {r:R} (hΓ:Sound P Γ)
 (hr:Rel ι h w) (ho:o.op = .call c) (hc:c.callee = .value f) (hρ:∀x,VR ι (ρA x) (a.eval x)) (e:dCall Γ (ρA f) (c.args.toList.map ρA) h k=some r):OpS P o ι h a w k r:=by
 intro next hn
 have hfx:∃g x y,ρA f = .func (.func g) x y/\(withListA x fun as=>withListA y fun cs=>bindR (Γ g (appA as (appA (c.args.toList.map ρA) cs)) h) k)=some r:=by
  unfold dCall at e
  generalize ρA f=F at e
  cases F using AV.casesE <;> (try (cases e;done))
  rename_i fn x y
  cases fn <;> (try (cases e;done))
  exact ⟨_,_,_,rfl,e⟩
 obtain ⟨g,x,y,hf,e⟩:=hfx
 obtain ⟨as,has,e⟩:=zaal e
 obtain ⟨cs,hcs,e⟩:=zaal e
 rw [zacq,zacq, <- List.append_assoc] at e
 obtain ⟨r1,hg,e⟩:=zagl e
 have hfv:=hρ f
 rw [hf] at hfv
 obtain ⟨fs,cp,ef,hfs,hcp⟩:=hfv.func
 have T:=hΓ _ _ _ _ hg
 obtain ⟨fn,hfn,hbody,hname⟩:=T.can
 have hargs:VL ι (as++c.args.toList.map ρA++cs) (fs.toList++c.args.toList.map a.eval++cp.toList):=
  ((zaa2 has hfs).append (VL.map_ev hρ _)).append (zaa2 hcs hcp)
 have hcall:=T.run ι w _ hr hargs
 have hex:(execOp a.eval o).run P w = .ok (.enter g (fs.toList++c.args.toList.map a.eval++cp.toList).toArray) w:=by
  have hb:fn.body.isNone=false:=by cases hq:fn.body <;> simp_all
  have e1:fs++Array.map a.eval c.args++cp=(fs.toList++c.args.toList.map a.eval++cp.toList).toArray:=by
   apply Array.ext';simp
  have hname':¬ fn.name = "runtime.NumGoroutine" := by simpa using hname
  have hb':¬ fn.body=none:=by intro hh;rw [hh] at hbody;cases hbody
  have hcf:∀args,(callFunc g args).run P w = .ok (.enter g args) w:=fun args=>by
   simp [callFunc,hfn,hname',hb']
  rw [<- e1]
  simp [execOp,ho,resolve,hc,ef,Deferred.ofValue,invoke,hcf]
 unfold good
 rw [hex]
 refine hcall.mono fun e' w' hpost=>?_
 obtain ⟨v,ι',rfl,hv,hE,hR⟩:=hpost
 exact ⟨v,rfl,hn r1.1 v w' ι' r1.2 hE hR hv e⟩
theorem zalc {P:Program} {Γ:Env} {o:Oper} {ι:Inj} {h:H} {a:Act} {w:World} {N:Nat} {st:St} {k:AV->H->Option R} {r:R} (hΓ:Sound P Γ) (hr:Rel ι h w) (hs:StR ι N st a)
 (e:dOp P Γ o st h k=some r):OpS P o ι h a w k r:=by
 have hρ:∀x,VR ι (ev st x) (a.eval x):=hs.ev
 unfold dOp at e
 split at e
 · rename_i x ho;exact .of_q hr (zadc hr (.inl ho) (hρ x) e)
 · rename_i x ho;exact .of_q hr (zadc hr (.inr ho) (hρ x) e)
 · rename_i c x y ho;exact .of_q hr (zafj hr ho (hρ c) (hρ x) (hρ y) e)
 · rename_i t ho
   split at e
   · exact .of_gives (zakn hr ho ‹_› e)
   · cases e
 · rename_i t x ho;exact .of_gives (zang hr ho (hρ x) e)
 · rename_i t ps ho
   split at e
   case h_2=>cases e
   split at e
   case h_2=>cases e
   exact .of_gives (zak4 hr ho hρ ‹_› ‹_› ‹_› e)
 · rename_i t n ps ho
   split at e
   case h_2=>cases e
   split at e
   case h_2=>cases e
   obtain ⟨hn,e1⟩:=zaab e
   exact .of_gives (zafw hr ho hρ ‹_› ‹_› ‹_› (Nat.le_of_ble_eq_true hn) e1)
 · rename_i t x ho
   split at e
   · split at e
     · exact .of_q hr (zaf7 hr ho ‹_› ‹_› (hρ x) e)
     · cases e
   · exact .of_q hr (zahl hr ho ‹_› (hρ x) e)
   · cases e
 · rename_i t x y ho
   split at e
   · exact .of_gives (zaiw hr ho ‹_› (hρ x) (hρ y) e)
   · rename_i n hsz _
     obtain ⟨hn,e1⟩:=zaab e
     have:=Nat.eq_of_beq_eq_true hn
     subst this
     exact .of_gives (zaj6 hr ho hsz (hρ x) (hρ y) e1)
   · cases e
 · rename_i x ho;exact .of_q hr (zac4 hr ho (hρ x) e)
 · rename_i op t x y u ho;exact .of_q hr (zajk hr ho (hρ x) (hρ y) e)
 · rename_i op t x ho
   split at e
   · exact .of_q hr (zags hr ho (hρ x) e)
   · exact .of_q hr (zaf2 hr ho (hρ x) e)
   · cases e
 · rename_i s d x ho
   unfold dConv at e
   split at e
   · exact .of_q hr (zaen hr ho ‹_› ‹_› (hρ x) e)
   · split at e
     · exact .of_q hr (zaja hr ho ‹_› ‹_› ‹_› (hρ x) e)
     · cases e
   · exact .of_q hr (zaff hr ho ‹_› ‹_› (hρ x) e)
   · cases e
 · rename_i t x ho
   obtain ⟨hc,e1⟩:=zaab e
   exact .of_q hr (zadf hr ho hc (hρ x) e1)
 · rename_i t x lo hi mx ho
   split at e
   · rename_i hu
     obtain ⟨l,n,hx,e1⟩:=zaap e
     have hxv:=hρ x
     rw [hx] at hxv
     exact .of_q hr (zagj hr ho hu hxv (OptR.map hρ lo) (OptR.map hρ hi) (OptR.map hρ mx) rfl e1)
   · rename_i el hu
     split at e
     · rename_i es hsz
       obtain ⟨hc,e0⟩:=zaab e
       exact .of_q hr (zaib hr ho hu hsz (fun hh=>by subst hh;cases mx <;> simp at hc ⊢) (hρ x) (OptR.map hρ lo) (OptR.map hρ hi) (OptR.map hρ mx) e0)
     · cases e
   · rename_i n el hu
     split at e
     · rename_i es hsz
       obtain ⟨hc,e0⟩:=zaab e
       exact .of_q hr (zad4 hr ho hu hsz (fun hh=>by subst hh;cases mx <;> simp at hc ⊢) (hρ x) (OptR.map hρ lo) (OptR.map hρ hi) (OptR.map hρ mx) e0)
     · cases e
   · cases e
 · rename_i t x f ho
   split at e
   · exact .of_q hr (zaep hr ho ‹_› (hρ x) e)
   · cases e
 · rename_i t x i ho
   split at e
   · split at e
     · exact .of_q hr (zadp hr ho ‹_› ‹_› (hρ x) (hρ i) e)
     · cases e
   · split at e
     · exact .of_q hr (zad7 ho ‹_› ‹_› (hρ x) (hρ i) e)
     · cases e
   · cases e
 · rename_i t x i ho
   split at e
   · exact .of_q hr (zad8 hr ho ‹_› (hρ x) (hρ i) e)
   · split at e
     · exact .of_q hr (zadx ho ‹_› ‹_› ‹_› (hρ x) (hρ i) e)
     · cases e
   · cases e
 · rename_i x i ho;exact .of_q hr (zadk hr ho (hρ x) e)
 · rename_i c ho
   split at e
   · exact zamd hΓ hr ho ‹_› hρ e
   · exact zaof hΓ hr ho ‹_› hρ e
   · rename_i hc
     split at e
     · rename_i x t ha hat
       obtain ⟨hk,e1⟩:=zaab e
       exact .of_q hr (zai7 hr ho hc (zaak ha) hat (zali hk) (hρ x) e1)
     · cases e
   · rename_i hc
     split at e
     · rename_i x y es bs ha hT
       exact .of_gives (zajz hr ho hc (zaak ha) (zai8 hT) (hρ x) (hρ y) e)
     · rename_i x y ha hT
       split at e
       · exact .of_gives (zamv hr ho hc (zaak ha) (zapf ‹_›) (hρ x) (hρ y) e)
       · cases e
     · cases e
   · rename_i hc
     split at e
     · rename_i x t ha hat
       split at e
       · exact .of_q hr (zao3 ho hc (zaak ha) hat ‹_› (hρ x) e)
       · cases e
     · cases e
   · rename_i hc
     split at e
     · rename_i x y ha;exact .of_q hr (zaee (mx:=true) ho hc (zaak ha) (hρ x) (hρ y) e)
     · cases e
   · rename_i hc
     split at e
     · rename_i x y ha;exact .of_q hr (zaee (mx:=false) ho hc (zaak ha) (hρ x) (hρ y) e)
     · cases e
   · rename_i hc
     split at e
     · rename_i x t ha hat
       split at e
       · exact .of_gives (zaji hr ho hc (zaak ha) hat ‹_› (hρ x) e)
       · split at e
         case h_2=>cases e
         split at e
         case h_2=>cases e
         exact .of_gives (zair hr ho hc (zaak ha) hat ‹_› ‹_› ‹_› (hρ x) e)
       · cases e
     · cases e
   · rename_i hc
     split at e
     · rename_i x y t ha hat
       split at e
       · split at e
         · exact .of_gives (zal6 hr ho hc (zaak ha) hat ‹_› ‹_› (hρ x) (hρ y) e)
         · cases e
       · cases e
     · cases e
   · cases e
 · rename_i t x y ho
   split at e
   case h_2=>cases e
   split at e
   case h_2=>cases e
   split at e
   case h_2=>cases e
   obtain ⟨hs,e⟩:=zaab e
   exact .of_gives (zamj hr ho ‹_› ‹_› ‹_› (Nat.eq_of_beq_eq_true hs) (hρ x) (hρ y) e)
 · rename_i t y ho
   split at e
   · exact .of_gives (zaic hr ho e)
   · cases e
 · rename_i t x y ok ho
   split at e
   case h_2=>cases e
   split at e
   case h_2=>cases e
   split at e
   case h_2=>cases e
   obtain ⟨hD,e⟩:=zaab e
   exact .of_q hr (zajd hr ho ‹_› ‹_› ‹_› ‹_› hD (hρ x) (hρ y) e)
 · rename_i t x y z ho
   split at e
   case h_2=>cases e
   split at e
   case h_2=>cases e
   obtain ⟨hD,e⟩:=zaab e
   exact .of_gives (zafq hr (.inl ho) ‹_› ‹_› hD (hρ x) (hρ y) (hρ z) e)
 · rename_i t x y z ho
   split at e
   case h_2=>cases e
   split at e
   case h_2=>cases e
   obtain ⟨hD,e⟩:=zaab e
   exact .of_gives (zafq hr (.inr ho) ‹_› ‹_› hD (hρ x) (hρ y) (hρ z) e)
 · rename_i fn first captured ho;exact .of_q hr (zael ho hρ e)
 · rename_i t x f ho
   split at e
   case h_2=>cases e
   split at e
   case h_2=>cases e
   exact .of_q hr (zad1 ho ‹_› ‹_› ‹_› (hρ x) e)
 · rename_i x xT t ok ho
   split at e
   · split at e
     · exact .of_q hr (zado ho ‹_› ‹_› ‹_› (hρ x) e)
     · cases e
   · split at e
     · obtain ⟨hD,e⟩:=zaab e
       exact .of_q hr (zadg ho ‹_› hD ‹_› ‹_› (hρ x) e)
     · cases e
   · cases e
 · cases e
def AV.plain:AV->Bool:=@AV.rec (fun _=>Bool) (fun _ _=>true) (fun _=>true) (fun _ _=>false) (fun _ _=>true) (fun _ _ _ _=>false)
 (fun l=>@Leaf.rec (fun _=>Bool) false true true true true true true (fun _=>false) (fun _ _ _ _=>false) (fun _=>false) l) (fun t _ p=>@One.rec (fun _=>Bool) p p (fun _=>false) t) (fun _ _ _ _ _=>false) (fun _ _ p q=>bc p q false)
def valsOf:AV->List Value
 | .int k n=>[.int (kd k) n]
 | .bool b=>[.bool b]
 | .str l _=>[.string ⟨(l.map UInt8.ofNat).toArray⟩]
 | .leaf .nilp=>[.pointer none]
 | .leaf .nils=>[.slice none 0 0]
 | .leaf .nilm=>[.map none]
 | .leaf .nilf=>[.nilFunc]
 | .leaf .nili=>[.nilIface]
 | .leaf .nil=>[]
 | .one .agg a=>[.agg (valsOf a).toArray]
 | .one .tup a=>[.tuple (valsOf a).toArray]
 | .cons a t=>valsOf a++valsOf t
 | _=>[]
theorem zand (s:ByteArray):(⟨((s.data.toList.map UInt8.toNat).map UInt8.ofNat).toArray⟩:ByteArray)=s:=by
 have:(s.data.toList.map UInt8.toNat).map UInt8.ofNat=s.data.toList:=by
  rw [List.map_map]
  conv=>rhs;rw [<- List.map_id s.data.toList]
  apply List.map_congr_left
  intro x _
  simp
 rw [this]
theorem zac7 {ι:Inj}:∀{a:AV} {l:List Value},a.plain=true->VX ι a l->l=valsOf a:=by
 intro a
 induction a with
 | int k n=>intro l _ hv;exact hv
 | bool b=>intro l _ hv;exact hv
 | ptr b o=>intro l h _;cases h
 | osl b o n es=>intro l h _;cases h
 | func f a c=>intro l h _;cases h
 | str t n=>
  intro l _ hv
  obtain ⟨s,rfl,ht,_⟩:=hv
  show _=[Value.string ⟨(t.map UInt8.ofNat).toArray⟩]
  rw [<- ht,zand]
 | leaf x=>
  intro l h hv
  cases x <;> first | (cases h;done) | exact hv
 | one t a ih=>
  intro l h hv
  cases t with
  | agg=>obtain ⟨cs,rfl,hc⟩:=hv;have:=ih h hc;show _=[Value.agg (valsOf a).toArray];rw [<- this]
  | tup=>obtain ⟨cs,rfl,hc⟩:=hv;have:=ih h hc;show _=[Value.tuple (valsOf a).toArray];rw [<- this]
  | iface t=>cases h
 | cons a t iha iht=>
  intro l h hv
  obtain ⟨x,xs,rfl,h1,h2⟩:=hv
  have h:bc a.plain t.plain false=true:=h
  cases ha:a.plain with
  | false=>rw [ha] at h;cases h
  | true=>
   rw [ha,bc_true] at h
   have e1:=iha ha h1
   have e2:=iht h h2
   show _=valsOf a++valsOf t
   rw [<- e1, <- e2];rfl
theorem zac8 {ι ι':Inj}:∀{a:AV} {l:List Value},a.plain=true->VX ι a l->VX ι' a l:=by
 intro a
 induction a with
 | int k n=>intro l _ hv;exact hv
 | bool b=>intro l _ hv;exact hv
 | ptr b o=>intro l h _;cases h
 | osl b o n es=>intro l h _;cases h
 | func f a c=>intro l h _;cases h
 | str t n=>intro l _ hv;exact hv
 | leaf x=>intro l h hv;cases x <;> first | (cases h;done) | exact hv
 | one t a ih=>
  intro l h hv
  cases t with
  | agg=>obtain ⟨cs,e,hc⟩:=hv;exact ⟨cs,e,ih h hc⟩
  | tup=>obtain ⟨cs,e,hc⟩:=hv;exact ⟨cs,e,ih h hc⟩
  | iface t=>cases h
 | cons a t iha iht=>
  intro l h hv
  obtain ⟨x,xs,rfl,h1,h2⟩:=hv
  have h:bc a.plain t.plain false=true:=h
  cases ha:a.plain with
  | false=>rw [ha] at h;cases h
  | true=>rw [ha,bc_true] at h;exact ⟨x,xs,rfl,iha ha h1,iht h h2⟩
def H.mark (h:H):H:=⟨h.n,h.t,h.n⟩
theorem Rel.mark {ι:Inj} {h:H} {w:World} (r:Rel ι h w):Rel ι h.mark w:=⟨r.fresh,r.lt,r.inj,r.blk,r.pin⟩
theorem Rel.grow {ι:Inj} {h:H} {w w':World} (r:Rel ι h w) (hg:Below w.heap.size w w'):Rel ι h w' where
 fresh:=r.fresh
 lt:=fun b B o s e=>Nat.lt_of_lt_of_le (r.lt b B o s e) hg.size
 inj:=r.inj
 blk:=fun b hb=>by
  obtain ⟨B,o,s,e,hR⟩:=r.blk b hb
  exact ⟨B,o,s,e,by rw [hg.block _ (r.lt _ _ _ _ e)];exact hR⟩
 pin:=fun b r' e' hp=>by
  obtain ⟨⟨s',hb⟩,hc⟩:=r.pin b r' e' hp
  exact ⟨⟨s',hb⟩,by rw [zab2 (hg.block _ (r.lt _ _ _ _ hb))];exact hc⟩
theorem zaum {w w' w'':World} (h:Below w.heap.size w w') (k:Below w'.heap.size w' w''):Below w.heap.size w w'':=
 ⟨k.os.trans h.os,k.tape.trans h.tape,k.output.trans h.output,Nat.le_trans h.size k.size,fun j hj=>(k.block j (Nat.lt_of_lt_of_le hj h.size)).trans (h.block j hj)⟩
theorem Ext.quiet {ι ι':Inj} {h h':H} {w w':World} (r:Rel ι h w) (e:Ext ι h.mark w ι' h' w') (hlo:h.n<=h'.lo):Below w.heap.size w w':=
 ⟨e.os,e.tape,e.output,e.size,fun B hB=>by
  by_cases ho:Own ι h B
  · obtain ⟨b,o,s,hb,hown⟩:=ho
    have:=r.fresh _ _ hb
    exact e.keepW b B o s (by omega) this hown hb
  · exact e.block B hB ho⟩
def bindF (x:Option R) (h:H) (k:AV->H->Option R):Option R:=onSome x fun r=>bc r.1.plain (bc (Nat.ble h.n r.2.lo) (k r.1 h) none) none
theorem zaf1 {x:Option R} {h:H} {k:AV->H->Option R} {r:R} (e:bindF x h k=some r):∃r1,x=some r1/\r1.1.plain=true/\h.n<=r1.2.lo/\k r1.1 h=some r:=by
 obtain ⟨r1,h1,e⟩:=zaay e
 obtain ⟨h2,e⟩:=zaab e
 obtain ⟨h3,e⟩:=zaab e
 exact ⟨r1,h1,h2,Nat.le_of_ble_eq_true h3,e⟩
def dCallF (Γ:Env) (f:AV) (args:List AV) (h:H) (k:AV->H->Option R):Option R:=
 f.onFunc none fun fn a c=>onFn fn none fun g=>withListA a fun as=>withListA c fun cs=>bindF (Γ g (appA as (appA args cs)) h.mark) h k
def dInvF (Γ:Env) (T:List (Nat×Nat)) (x:AV) (args:List AV) (h:H) (k:AV->H->Option R):Option R:=
 x.onIf none none fun t v=>pickF t (fun g=>bindF (Γ g (.cons v args) h.mark) h k) T
def quietV:Op->Bool
 | .move _=>true | .assign _=>true | .pick .. => true | .load .. => true | .nilCheck _=>true | .binOp .. => true | .unOp .. => true | .convert .. => true | .makeInterface .. => true
 | .makeFunc .. => true | .field .. => true | .typeAssert .. => true | .slice .. => true | .fieldAddr .. => true | .indexAddr .. => true | .index .. => true | .extract .. => true
 | .call c=>(match c.callee with | .builtin .len=>true | .builtin .max=>true | .builtin .min=>true | _=>false)
 | _=>false
def dOpQ (P:Program) (Γ:Env) (o:Oper) (st:St) (h:H) (k:AV->H->Option R):Option R:=
 match o.op with
 | .call c=>(match c.callee with
  | .value f=>dCallF Γ (ev st f) (c.args.toList.map (ev st)) h k
  | .invoke x n=>dInvF Γ (methTbl P n) (ev st x) (c.args.toList.map (ev st)) h k
  | _=>bx (quietV o.op) (dOp P Γ o st h k) none)
 | _=>bx (quietV o.op) (dOp P Γ o st h k) none
def QuietS (P:Program) (o:Oper) (ι:Inj) (h:H) (a:Act) (w:World) (k:AV->H->Option R) (r:R):Prop:=
 ∃v x,(∀w',Below w.heap.size w w'->o.quietAt P a (fun w''=>Below w'.heap.size w' w'') w' v)/\VR ι x v/\k x h=some r
theorem QuietS.of_q {P:Program} {o:Oper} {ι:Inj} {h:H} {a:Act} {w:World} {k:AV->H->Option R} {r:R} (g:GivesQ P a.eval o ι h w k r):QuietS P o ι h a w k r:=by
 obtain ⟨v,x,e,hv,hk⟩:=g
 refine ⟨v,x,fun w' hw'=>?_,hv,hk⟩
 unfold Oper.quietAt
 rw [e w' hw']
 exact ⟨rfl,rfl⟩
theorem zah8 {P:Program} {Γ:Env} {o:Oper} {ι:Inj} {h:H} {a:Act} {w:World} {N:Nat} {st:St} {k:AV->H->Option R} {r:R} (hr:Rel ι h w) (hs:StR ι N st a)
 (hq:quietV o.op=true) (e:dOp P Γ o st h k=some r):GivesQ P a.eval o ι h w k r:=by
 have hρ:∀x,VR ι (ev st x) (a.eval x):=hs.ev
 unfold dOp at e
 split at e
 · rename_i x ho;exact (zadc hr (.inl ho) (hρ x) e)
 · rename_i x ho;exact (zadc hr (.inr ho) (hρ x) e)
 · rename_i c x y ho;exact (zafj hr ho (hρ c) (hρ x) (hρ y) e)
 · rename_i t ho
   split at e
   · exact absurd hq (by rw [ho];exact Bool.false_ne_true)
   · cases e
 · rename_i t x ho;exact absurd hq (by rw [ho];exact Bool.false_ne_true)
 · rename_i t ps ho
   split at e
   case h_2=>cases e
   split at e
   case h_2=>cases e
   exact absurd hq (by rw [ho];exact Bool.false_ne_true)
 · rename_i t n ps ho
   split at e
   case h_2=>cases e
   split at e
   case h_2=>cases e
   obtain ⟨hn,e1⟩:=zaab e
   exact absurd hq (by rw [ho];exact Bool.false_ne_true)
 · rename_i t x ho
   split at e
   · split at e
     · exact (zaf7 hr ho ‹_› ‹_› (hρ x) e)
     · cases e
   · exact (zahl hr ho ‹_› (hρ x) e)
   · cases e
 · rename_i t x y ho
   split at e
   · exact absurd hq (by rw [ho];exact Bool.false_ne_true)
   · rename_i n hsz _
     obtain ⟨hn,e1⟩:=zaab e
     have:=Nat.eq_of_beq_eq_true hn
     subst this
     exact absurd hq (by rw [ho];exact Bool.false_ne_true)
   · cases e
 · rename_i x ho;exact (zac4 hr ho (hρ x) e)
 · rename_i op t x y u ho;exact (zajk hr ho (hρ x) (hρ y) e)
 · rename_i op t x ho
   split at e
   · exact (zags hr ho (hρ x) e)
   · exact (zaf2 hr ho (hρ x) e)
   · cases e
 · rename_i s d x ho
   unfold dConv at e
   split at e
   · exact (zaen hr ho ‹_› ‹_› (hρ x) e)
   · split at e
     · exact (zaja hr ho ‹_› ‹_› ‹_› (hρ x) e)
     · cases e
   · exact (zaff hr ho ‹_› ‹_› (hρ x) e)
   · cases e
 · rename_i t x ho
   obtain ⟨hc,e1⟩:=zaab e
   exact (zadf hr ho hc (hρ x) e1)
 · rename_i t x lo hi mx ho
   split at e
   · rename_i hu
     obtain ⟨l,n,hx,e1⟩:=zaap e
     have hxv:=hρ x
     rw [hx] at hxv
     exact (zagj hr ho hu hxv (OptR.map hρ lo) (OptR.map hρ hi) (OptR.map hρ mx) rfl e1)
   · rename_i el hu
     split at e
     · rename_i es hsz
       obtain ⟨hc,e0⟩:=zaab e
       exact (zaib hr ho hu hsz (fun hh=>by subst hh;cases mx <;> simp at hc ⊢) (hρ x) (OptR.map hρ lo) (OptR.map hρ hi) (OptR.map hρ mx) e0)
     · cases e
   · rename_i n el hu
     split at e
     · rename_i es hsz
       obtain ⟨hc,e0⟩:=zaab e
       exact (zad4 hr ho hu hsz (fun hh=>by subst hh;cases mx <;> simp at hc ⊢) (hρ x) (OptR.map hρ lo) (OptR.map hρ hi) (OptR.map hρ mx) e0)
     · cases e
   · cases e
 · rename_i t x f ho
   split at e
   · exact (zaep hr ho ‹_› (hρ x) e)
   · cases e
 · rename_i t x i ho
   split at e
   · split at e
     · exact (zadp hr ho ‹_› ‹_› (hρ x) (hρ i) e)
     · cases e
   · split at e
     · exact (zad7 ho ‹_› ‹_› (hρ x) (hρ i) e)
     · cases e
   · cases e
 · rename_i t x i ho
   split at e
   · exact (zad8 hr ho ‹_› (hρ x) (hρ i) e)
   · split at e
     · exact (zadx ho ‹_› ‹_› ‹_› (hρ x) (hρ i) e)
     · cases e
   · cases e
 · rename_i x i ho;exact (zadk hr ho (hρ x) e)
 · rename_i c ho
   split at e
   · rename_i hc;exact absurd hq (by rw [ho];simp [quietV,hc])
   · rename_i hc;exact absurd hq (by rw [ho];simp [quietV,hc])
   · rename_i hc
     split at e
     · rename_i x t ha hat
       obtain ⟨hk,e1⟩:=zaab e
       exact (zai7 hr ho hc (zaak ha) hat (zali hk) (hρ x) e1)
     · cases e
   · rename_i hc;exact absurd hq (by rw [ho];simp [quietV,hc])
   · rename_i hc;exact absurd hq (by rw [ho];simp [quietV,hc])
   · rename_i hc
     split at e
     · rename_i x y ha;exact zaee (mx:=true) ho hc (zaak ha) (hρ x) (hρ y) e
     · cases e
   · rename_i hc
     split at e
     · rename_i x y ha;exact zaee (mx:=false) ho hc (zaak ha) (hρ x) (hρ y) e
     · cases e
   · rename_i hc;exact absurd hq (by rw [ho];simp [quietV,hc])
   · rename_i hc;exact absurd hq (by rw [ho];simp [quietV,hc])
   · cases e
 · rename_i t x y ho;exact absurd hq (by rw [ho];exact Bool.false_ne_true)
 · rename_i t y ho;exact absurd hq (by rw [ho];exact Bool.false_ne_true)
 · rename_i t x y ok ho;exact absurd hq (by rw [ho];exact Bool.false_ne_true)
 · rename_i t x y z ho;exact absurd hq (by rw [ho];exact Bool.false_ne_true)
 · rename_i t x y z ho;exact absurd hq (by rw [ho];exact Bool.false_ne_true)
 · rename_i fn first captured ho;exact (zael ho hρ e)
 · rename_i t x f ho
   split at e
   case h_2=>cases e
   split at e
   case h_2=>cases e
   exact (zad1 ho ‹_› ‹_› ‹_› (hρ x) e)
 · rename_i x xT t ok ho
   split at e
   · split at e
     · exact (zado ho ‹_› ‹_› ‹_› (hρ x) e)
     · cases e
   · split at e
     · obtain ⟨hD,e⟩:=zaab e
       exact (zadg ho ‹_› hD ‹_› ‹_› (hρ x) e)
     · cases e
   · cases e
 · cases e
def clsOf (P:Program) (m:Nat) (o:Oper):Nat:=
 match o.op with
 | .move _=>0 | .assign _=>0 | .makeFunc .. => 0 | .field .. => 0 | .typeAssert .. => 0 | .pick .. => 0 | .nilCheck _=>0 | .fieldAddr .. => 0 | .indexAddr .. => 0 | .index .. => 0 | .extract .. => 0 | .slice .. => 0 | .unOp .. => 0 | .makeInterface .. => 0
 | .binOp _ t _ _ _=>(match P.underlying t with | some (.int _)=>0 | some .string=>0 | _=>1)
 | .convert _ d _=>(match P.underlying d with | some (.int _)=>0 | _=>1)
 | .load .. => 1
 | .buildSlice .. => 3
 | .call c=>(match c.callee with | .builtin .len=>1 | .builtin .max=>0 | .builtin .min=>0 | .value _=>m | .invoke .. => m | _=>2)
 | _=>2
theorem zaki {P:Program} {Γ:Env} {o:Oper} {ι:Inj} {h:H} {a:Act} {w:World} {N:Nat} {st:St} {k:AV->H->Option R} {r:R} (hr:Rel ι h w) (hs:StR ι N st a)
 (hq:clsOf P 1 o=0) (e:dOp P Γ o st h k=some r):GivesC (fun _=>True) P a.eval o ι h k r:=by
 have hρ:∀x,VR ι (ev st x) (a.eval x):=hs.ev
 unfold dOp at e
 split at e
 · rename_i x ho;exact (zadc hr (.inl ho) (hρ x) e)
 · rename_i x ho;exact (zadc hr (.inr ho) (hρ x) e)
 · rename_i c x y ho;exact (zafj hr ho (hρ c) (hρ x) (hρ y) e)
 · rename_i t ho
   split at e
   · exact absurd hq (by simp [clsOf,ho])
   · cases e
 · rename_i t x ho;exact absurd hq (by simp [clsOf,ho])
 · rename_i t ps ho
   split at e
   case h_2=>cases e
   split at e
   case h_2=>cases e
   exact absurd hq (by simp [clsOf,ho])
 · rename_i t n ps ho
   split at e
   case h_2=>cases e
   split at e
   case h_2=>cases e
   obtain ⟨hn,e1⟩:=zaab e
   exact absurd hq (by simp [clsOf,ho])
 · rename_i t x ho
   split at e
   · split at e
     · exact absurd hq (by simp [clsOf,ho])
     · cases e
   · exact absurd hq (by simp [clsOf,ho])
   · cases e
 · rename_i t x y ho
   split at e
   · exact absurd hq (by simp [clsOf,ho])
   · rename_i n hsz _
     obtain ⟨hn,e1⟩:=zaab e
     have:=Nat.eq_of_beq_eq_true hn
     subst this
     exact absurd hq (by simp [clsOf,ho])
   · cases e
 · rename_i x ho;exact (zac4 hr ho (hρ x) e)
 · rename_i op t x y u ho;exact (zaqh hr (by
    cases hu:P.underlying t with
    | none=>simp [clsOf,ho,hu] at hq
    | some d=>cases d <;> first | exact .inl ⟨_,rfl⟩ | exact .inr rfl | (simp [clsOf,ho,hu] at hq)) ho (hρ x) (hρ y) e)
 · rename_i op t x ho
   split at e
   · exact (zags hr ho (hρ x) e)
   · exact (zaf2 hr ho (hρ x) e)
   · cases e
 · rename_i s d x ho
   unfold dConv at e
   split at e
   · exact (zaen hr ho ‹_› ‹_› (hρ x) e)
   · rename_i hd;exact absurd hq (by simp [clsOf,ho,hd])
   · exact (zaff hr ho ‹_› ‹_› (hρ x) e)
   · cases e
 · rename_i t x ho
   obtain ⟨hc,e1⟩:=zaab e
   exact (zadf hr ho hc (hρ x) e1)
 · rename_i t x lo hi mx ho
   split at e
   · rename_i hu
     obtain ⟨l,n,hx,e1⟩:=zaap e
     have hxv:=hρ x
     rw [hx] at hxv
     exact (zagj hr ho hu hxv (OptR.map hρ lo) (OptR.map hρ hi) (OptR.map hρ mx) rfl e1)
   · rename_i el hu
     split at e
     · rename_i es hsz
       obtain ⟨hc,e0⟩:=zaab e
       exact (zaib hr ho hu hsz (fun hh=>by subst hh;cases mx <;> simp at hc ⊢) (hρ x) (OptR.map hρ lo) (OptR.map hρ hi) (OptR.map hρ mx) e0)
     · cases e
   · rename_i n el hu
     split at e
     · rename_i es hsz
       obtain ⟨hc,e0⟩:=zaab e
       exact (zad4 hr ho hu hsz (fun hh=>by subst hh;cases mx <;> simp at hc ⊢) (hρ x) (OptR.map hρ lo) (OptR.map hρ hi) (OptR.map hρ mx) e0)
     · cases e
   · cases e
 · rename_i t x f ho
   split at e
   · exact (zaep hr ho ‹_› (hρ x) e)
   · cases e
 · rename_i t x i ho
   split at e
   · split at e
     · exact (zadp hr ho ‹_› ‹_› (hρ x) (hρ i) e)
     · cases e
   · split at e
     · exact (zad7 ho ‹_› ‹_› (hρ x) (hρ i) e)
     · cases e
   · cases e
 · rename_i t x i ho
   split at e
   · exact (zad8 hr ho ‹_› (hρ x) (hρ i) e)
   · split at e
     · exact (zadx ho ‹_› ‹_› ‹_› (hρ x) (hρ i) e)
     · cases e
   · cases e
 · rename_i x i ho;exact (zadk hr ho (hρ x) e)
 · rename_i c ho
   split at e
   · rename_i hc;exact absurd hq (by simp [clsOf,ho,hc])
   · rename_i hc;exact absurd hq (by simp [clsOf,ho,hc])
   · rename_i hc
     split at e
     · rename_i x t ha hat
       obtain ⟨hk,e1⟩:=zaab e
       exact absurd hq (by simp [clsOf,ho,hc])
     · cases e
   · rename_i hc;exact absurd hq (by simp [clsOf,ho,hc])
   · rename_i hc;exact absurd hq (by simp [clsOf,ho,hc])
   · rename_i hc
     split at e
     · rename_i x y ha;exact zaee (mx:=true) ho hc (zaak ha) (hρ x) (hρ y) e
     · cases e
   · rename_i hc
     split at e
     · rename_i x y ha;exact zaee (mx:=false) ho hc (zaak ha) (hρ x) (hρ y) e
     · cases e
   · rename_i hc;exact absurd hq (by simp [clsOf,ho,hc])
   · rename_i hc;exact absurd hq (by simp [clsOf,ho,hc])
   · cases e
 · rename_i t x y ho;exact absurd hq (by simp [clsOf,ho])
 · rename_i t y ho;exact absurd hq (by simp [clsOf,ho])
 · rename_i t x y ok ho;exact absurd hq (by simp [clsOf,ho])
 · rename_i t x y z ho;exact absurd hq (by simp [clsOf,ho])
 · rename_i t x y z ho;exact absurd hq (by simp [clsOf,ho])
 · rename_i fn first captured ho;exact (zael ho hρ e)
 · rename_i t x f ho
   split at e
   case h_2=>cases e
   split at e
   case h_2=>cases e
   exact (zad1 ho ‹_› ‹_› ‹_› (hρ x) e)
 · rename_i x xT t ok ho
   split at e
   · split at e
     · exact (zado ho ‹_› ‹_› ‹_› (hρ x) e)
     · cases e
   · split at e
     · obtain ⟨hD,e⟩:=zaab e
       exact (zadg ho ‹_› hD ‹_› ‹_› (hρ x) e)
     · cases e
   · cases e
 · cases e
theorem zajs {P:Program} {f:FuncId} {args:Array Value} {w:World} {Q:Ending->World->Prop} (h:Calls P f args w Q):∃e w',Q e w':=
 let ⟨e,w',_,hq,_⟩:=h []; ⟨e,w',hq⟩
theorem zakc {P:Program} {Γ:Env} {o:Oper} {c:Call} {f:Operand} {ι:Inj} {h:H} {a:Act} {w:World} {ρA:Operand->AV} {k:AV->H->Option R} {r:R} (hΓ:Sound P Γ)
 (hr:Rel ι h w) (ho:o.op = .call c) (hc:c.callee = .value f) (hρ:∀x,VR ι (ρA x) (a.eval x)) (e:dCallF Γ (ρA f) (c.args.toList.map ρA) h k=some r):QuietS P o ι h a w k r:=by
 have hfx:∃g x y,ρA f = .func (.func g) x y/\(withListA x fun as=>withListA y fun cs=>bindF (Γ g (appA as (appA (c.args.toList.map ρA) cs)) h.mark) h k)=some r:=by
  unfold dCallF at e
  generalize ρA f=F at e
  cases F using AV.casesE <;> (try (cases e;done))
  rename_i fn x y
  cases fn <;> (try (cases e;done))
  exact ⟨_,_,_,rfl,e⟩
 obtain ⟨g,x,y,hf,e⟩:=hfx
 obtain ⟨as,has,e⟩:=zaal e
 obtain ⟨cs,hcs,e⟩:=zaal e
 rw [zacq,zacq, <- List.append_assoc] at e
 obtain ⟨r1,hg,hpl,hlo,e⟩:=zaf1 e
 have hfv:=hρ f
 rw [hf] at hfv
 obtain ⟨fs,cp,ef,hfs,hcp⟩:=hfv.func
 have T:=hΓ _ _ _ _ hg
 obtain ⟨fn,hfn,hbody,hname⟩:=T.can
 have hargs:VL ι (as++c.args.toList.map ρA++cs) (fs.toList++c.args.toList.map a.eval++cp.toList):=
  ((zaa2 has hfs).append (VL.map_ev hρ _)).append (zaa2 hcs hcp)
 have hname':¬ fn.name = "runtime.NumGoroutine" := by simpa using hname
 have hb':¬ fn.body=none:=by intro hh;rw [hh] at hbody;cases hbody
 have hex:∀w':World,(execOp a.eval o).run P w' = .ok (.enter g (fs.toList++c.args.toList.map a.eval++cp.toList).toArray) w':=fun w'=>by
  have e1:fs++Array.map a.eval c.args++cp=(fs.toList++c.args.toList.map a.eval++cp.toList).toArray:=by
   apply Array.ext';simp
  have hcf:∀args,(callFunc g args).run P w' = .ok (.enter g args) w':=fun args=>by
   simp [callFunc,hfn,hname',hb']
  rw [<- e1]
  simp [execOp,ho,resolve,hc,ef,Deferred.ofValue,invoke,hcf]
 obtain ⟨v0,hv0⟩:∃v0:Value,∀(ι':Inj) v,VR ι' r1.1 v->v=v0:=by
  cases hvs:valsOf r1.1 with
  | nil=>exact ⟨undef,fun ι' v hv=>by have:=zac7 hpl hv;rw [hvs] at this;cases this⟩
  | cons z t=>exact ⟨z,fun ι' v hv=>by have:=zac7 hpl hv;rw [hvs] at this;cases this;rfl⟩
 have hcall:∀w',Below w.heap.size w w'->Calls P g (fs.toList++c.args.toList.map a.eval++cp.toList).toArray w' fun e w''=>e = .returned v0/\Below w'.heap.size w' w'':=fun w' hw'=>
  (T.run ι w' _ (hr.grow hw').mark hargs).mono fun e' w'' ⟨v,ι',he,hv,hE,hR⟩=>⟨by rw [he,hv0 _ _ hv],Ext.quiet (hr.grow hw') hE hlo⟩
 by_cases hex0:∃(ι':Inj) (v:Value),VR ι' r1.1 v
 · obtain ⟨ι',v,hv⟩:=hex0
   have:=hv0 _ _ hv
   subst this
   refine ⟨v,r1.1,fun w' hw'=>?_,zac8 hpl hv,e⟩
   unfold Oper.quietAt
   rw [hex w']
   exact ⟨rfl,hcall w' hw'⟩
 · -- no answer at all: the call's run shows one
   obtain ⟨e',w'',v,ι',_,hv,_⟩:=zajs (T.run ι w _ hr.mark hargs)
   exact absurd ⟨ι',v,hv⟩ hex0
theorem zak0 {P:Program} {Γ:Env} {o:Oper} {ι:Inj} {h:H} {a:Act} {w:World} {k:AV->H->Option R} {r r1:R} {g:Nat} {as:List AV} {vs:List Value} (hΓ:Sound P Γ) (hr:Rel ι h w)
 (hg:Γ g as h.mark=some r1) (hpl:r1.1.plain=true) (hlo:h.n<=r1.2.lo) (hargs:VL ι as vs) (hex:∀w':World,(callFunc g vs.toArray).run P w' = .ok (.enter g vs.toArray) w'->(execOp a.eval o).run P w' = .ok (.enter g vs.toArray) w')
 (e:k r1.1 h=some r):QuietS P o ι h a w k r:=by
 have T:=hΓ _ _ _ _ hg
 obtain ⟨fn,hfn,hbody,hname⟩:=T.can
 have hname':¬ fn.name = "runtime.NumGoroutine" := by simpa using hname
 have hb':¬ fn.body=none:=by intro hh;rw [hh] at hbody;cases hbody
 have hex:∀w':World,(execOp a.eval o).run P w' = .ok (.enter g vs.toArray) w':=fun w'=>hex w' (by simp [callFunc,hfn,hname',hb'])
 obtain ⟨v0,hv0⟩:∃v0:Value,∀(ι':Inj) v,VR ι' r1.1 v->v=v0:=by
  cases hvs:valsOf r1.1 with
  | nil=>exact ⟨undef,fun ι' v hv=>by have:=zac7 hpl hv;rw [hvs] at this;cases this⟩
  | cons z t=>exact ⟨z,fun ι' v hv=>by have:=zac7 hpl hv;rw [hvs] at this;cases this;rfl⟩
 have hcall:∀w',Below w.heap.size w w'->Calls P g vs.toArray w' fun e w''=>e = .returned v0/\Below w'.heap.size w' w'':=fun w' hw'=>
  (T.run ι w' _ (hr.grow hw').mark hargs).mono fun e' w'' ⟨v,ι',he,hv,hE,hR⟩=>⟨by rw [he,hv0 _ _ hv],Ext.quiet (hr.grow hw') hE hlo⟩
 by_cases hex0:∃(ι':Inj) (v:Value),VR ι' r1.1 v
 · obtain ⟨ι',v,hv⟩:=hex0
   have:=hv0 _ _ hv
   subst this
   refine ⟨v,r1.1,fun w' hw'=>?_,zac8 hpl hv,e⟩
   unfold Oper.quietAt
   rw [hex w']
   exact ⟨rfl,hcall w' hw'⟩
 · obtain ⟨e',w'',v,ι',_,hv,_⟩:=zajs (T.run ι w _ hr.mark hargs)
   exact absurd ⟨ι',v,hv⟩ hex0
theorem zal7 {P:Program} {Γ:Env} {o:Oper} {c:Call} {f:Operand} {n:String} {ι:Inj} {h:H} {a:Act} {w:World} {ρA:Operand->AV} {k:AV->H->Option R} {r:R} (hΓ:Sound P Γ)
 (hr:Rel ι h w) (ho:o.op = .call c) (hc:c.callee = .invoke f n) (hρ:∀x,VR ι (ρA x) (a.eval x)) (e:dInvF Γ (methTbl P n) (ρA f) (c.args.toList.map ρA) h k=some r):QuietS P o ι h a w k r:=by
 have hfx:∃t v,ρA f = .iface t v/\pickF t (fun g=>bindF (Γ g (.cons v (c.args.toList.map ρA)) h.mark) h k) (methTbl P n)=some r:=by
  unfold dInvF at e
  generalize ρA f=F at e
  cases F using AV.casesE <;> (try (cases e;done))
  exact ⟨_,_,rfl,e⟩
 obtain ⟨t,v,hf,e⟩:=hfx
 obtain ⟨g,hm,e⟩:=zagr _ e
 obtain ⟨r1,hg,hpl,hlo,e⟩:=zaf1 e
 have hm:=zahd hm
 have hfv:=hρ f
 rw [hf] at hfv
 obtain ⟨y,ef,hy⟩:=hfv.iface
 refine zak0 (vs:=y::c.args.toList.map a.eval) hΓ hr hg hpl hlo (.cons hy (VL.map_ev hρ _)) (fun w' hcf=>?_) e
 have e1:(y::c.args.toList.map a.eval).toArray = #[y]++Array.map a.eval c.args:=by apply Array.ext';simp
 rw [e1] at hcf ⊢
 have:=zaey (name:=n) hm hcf
 have e2:(#[a.eval f]++Array.map a.eval c.args).extract 1 (#[a.eval f]++Array.map a.eval c.args).size=Array.map a.eval c.args:=by apply Array.ext';simp;exact List.take_of_length_le (by simp)
 have e3:(#[a.eval f]++Array.map a.eval c.args)[0]?=some (.iface t y):=by rw [<- ef];simp [Array.getElem?_append]
 simp only [execOp,ho,resolve,hc,Sem.run_pure,Sem.run_bind,Result.andThen,invoke,e3,e2,this]
theorem zanl {P:Program} {Γ:Env} {o:Oper} {ι:Inj} {h:H} {a:Act} {w:World} {N:Nat} {st:St} {k:AV->H->Option R} {r:R} (hΓ:Sound P Γ) (hr:Rel ι h w) (hs:StR ι N st a)
 (e:dOpQ P Γ o st h k=some r):QuietS P o ι h a w k r:=by
 unfold dOpQ at e
 split at e
 · rename_i c ho
   split at e
   · exact zakc hΓ hr ho ‹_› hs.ev e
   · exact zal7 hΓ hr ho ‹_› hs.ev e
   · obtain ⟨h1,h2⟩:=zaab e;exact .of_q (zah8 hr hs h1 h2)
 · obtain ⟨h1,h2⟩:=zaab e;exact .of_q (zah8 hr hs h1 h2)
end
end Go.AI
namespace Go.AI
noncomputable section
open Go Go.RowKit
variable {P:Program}
inductive An where
 | o
 | at_ (ks:List Nat) (a b:An)
 | two (a b:An)
 | cut (ks:List Nat) (a:An)
 | skip (a:An)
def An.l:An->An
 | .o=>.o
 | .at_ _ a _=>a
 | .two a _=>a
 | .cut _ a=>a
 | .skip a=>a
def An.r:An->An
 | .o=>.o
 | .at_ _ _ b=>b
 | .two _ b=>b
 | .cut _ a=>a
 | .skip a=>a
def An.ks:An->Option (List Nat)
 | .at_ ks _ _=>some ks
 | _=>none
def An.cutK:An->Option (List Nat)
 | .cut ks _=>some ks
 | _=>none
def An.next:An->An
 | .cut _ a=>a
 | .skip a=>a
 | a=>a
def hd (l:List AV):AV:=@List.rec AV (fun _=>AV) (.leaf .undef) (fun a _ _=>a) l
def tl (l:List AV):List AV:=@List.rec AV (fun _=>List AV) [] (fun _ t _=>t) l
def mkSt:List Nat->List AV->St
 | [],_=>[]
 | k::ks,vs=>(k,hd vs)::mkSt ks (tl vs)
abbrev K:=St->H->Option R
def putO (N:Nat) (d:Option Nat) (a:AV) (st:St) (f:St->Option R):Option R:=
 match d with
 | none=>f st
 | some d=>bc (Nat.ble (d+1) N) (f ((d,a)::st)) none
def guardB (want:Bool) (x:AV) (yes no:Option R):Option R:=
 x.onBool (x.onTup none fun l=>l.onLeaf none fun m=>@Leaf.rec (fun _=>Option R) none none none none none none no (fun _=>none) (fun _ _ _ _=>none) (fun _=>none) m) fun b=>bc (bc b want (bnot want)) yes no
def sameG (j:Nat) (want:Bool) (o:Oper):Bool:=match o.guard with | some (i,v)=>Nat.beq i j && (bif v then want else !want) | none=>false
def runAll (P:Program) (Γ:Env) (N:Nat):List Oper->St->H->K->Option R
 | [],st,h,kn=>kn st h
 | o::rest,st,h,kn=>dOp P Γ o st h fun a h'=>putO N o.dst a st fun st'=>runAll P Γ N rest st' h' kn
def skipAll (N:Nat):List Oper->St->(St->Option R)->Option R
 | [],st,f=>f st
 | o::rest,st,f=>putO N o.dst (.tup .nil) st fun st'=>skipAll N rest st' f
def dOps (P:Program) (Γ:Env) (N:Nat) (all:List Oper):Nat->An->List Oper->St->H->K->Option R
 | _,_,[],st,h,kn=>kn st h
 | 0,_,_::_,_,_,_=>none
 | n+1,an,o::rest,st,h,kn=>match o.guard with
  | none=>(match an.cutK with
   | none=>dOp P Γ o st h fun a h'=>putO N o.dst a st fun st'=>dOps P Γ N all n an.next rest st' h' kn
   | some ks=>(fun J:List AV->H->Option R=>J (ks.map (get st)) h) (fun vs h=>dOp P Γ o (mkSt ks vs) h fun a h'=>putO N o.dst a (mkSt ks vs) fun st'=>dOps P Γ N all n an.next rest st' h' kn))
  | some (j,want)=>match (all[j]?).bind (·.dst) with
   | none=>none
   | some d=>bc (((o::rest).takeWhile (sameG j want)).all (fun o=>match o.dst with | some e=>!Nat.beq e d | none=>true))
    (match an.ks with
    | none=>guardB want (get st d) (runAll P Γ N ((o::rest).takeWhile (sameG j want)) st h fun st h=>dOps P Γ N all n an.r ((o::rest).dropWhile (sameG j want)) st h kn)
     (skipAll N ((o::rest).takeWhile (sameG j want)) st fun st=>dOps P Γ N all n an.r ((o::rest).dropWhile (sameG j want)) st h kn)
    | some ks=>(fun J:List AV->H->Option R=>guardB want (get st d) (runAll P Γ N ((o::rest).takeWhile (sameG j want)) st h fun st h=>J (ks.map (get st)) h)
     (skipAll N ((o::rest).takeWhile (sameG j want)) st fun st=>J (ks.map (get st)) h))
     (fun vs h=>dOps P Γ N all n an.r ((o::rest).dropWhile (sameG j want)) (mkSt ks vs) h kn))
    none
def dOpX (P:Program) (Γ:Env) (m:Nat) (o:Oper) (st:St) (h:H) (k:AV->H->Option R):Option R:=
 bc (Nat.ble 2 (clsOf P m o)) (dOp P Γ o st h k) (dOpQ P Γ o st h fun a _=>k a h)
def clsAt (P:Program) (m:Nat) (ops:Array Oper) (k:Nat):Nat:=match ops[k]? with | some o=>clsOf P m o | none=>2
def isNilp (l:Leaf):Bool:=@Leaf.rec (fun _=>Bool) false true false false false false false (fun _=>false) (fun _ _ _ _=>false) (fun _=>false) l
def wat (a:AV):Bool:=@AV.rec (fun _=>Bool) (fun _ _=>true) (fun _=>true) (fun _ _=>true) (fun _ _=>false) (fun _ _ _ _=>false) (fun l=>isNilp l) (fun _ _ _=>false) (fun _ _ _ _ _=>false) (fun _ _ _ _=>false) a
def eqW1 (a b:AV):Bool:=@AV.rec (fun _=>Bool) (fun k n=>b.onInt false fun k' n'=>bc (Nat.beq k k') (ieq n n') false) (fun x=>b.onBool false fun y=>bc x y (bnot y)) (fun c q=>b.onPtr false fun c' q'=>bc (Nat.beq c c') (Nat.beq q q') false) (fun _ _=>true) (fun _ _ _ _=>true) (fun l=>bc (isNilp l) (b.onLeaf false isNilp) true) (fun _ _ _=>true) (fun _ _ _ _ _=>true) (fun _ _ _ _=>true) a
def eqW:List AV->List AV->Bool:=@List.rec AV (fun _=>List AV->Bool) (fun _=>true) (fun a _ f l=>@List.rec AV (fun _=>Bool) false (fun b t _=>bc (eqW1 a b) (f t) false) l)
def watch1 (h:H) (b:Nat) (q:List (Nat×List AV)):List (Nat×List AV):=@Blk.rec (fun _=>List (Nat×List AV)) q (fun _ l=>(b,l)::q) (fun _ _=>q) (h.get b)
def watch (h:H) (xs:List AV):List (Nat×List AV):=@List.rec AV (fun _=>List (Nat×List AV)) [] (fun x _ r=>x.onSl (x.onPtr r fun b _=>watch1 h b r) (fun _=>r) (fun b _ _ _=>watch1 h b r) (fun b _ _ _=>watch1 h b r)) xs
def okW (Ws:List (Nat×List AV)) (h:H):Bool:=@List.rec (Nat×List AV) (fun _=>Bool) true (fun p _ f=>bc (@Blk.rec (fun _=>Bool) false (fun _ l=>eqW p.2 l) (fun _ _=>false) (h.get p.1)) f false) Ws
def findW {α:Type} (Ws:List (Nat×List AV)) (b:Nat) (g:List AV->Option α):Option α:=@List.rec (Nat×List AV) (fun _=>Option α) none (fun p _ f=>bc (Nat.beq p.1 b) (g p.2) f) Ws
def aLoadW {α:Type} (Ws:List (Nat×List AV)) (x:AV) (h:H) (k:AV->H->Option α):Option α:=x.onPtr none fun b q=>findW Ws b fun l=>onSome (nthO l q) fun a=>bc (wat a) (k a h) none
def srcOf (ops:List Oper) (x:Operand):Operand:=match x with
 | .tmp t=>(match ops.find? (fun o=>match o.dst with | some d=>Nat.beq d t | none=>false) with
  | some o=>(match o.op with | .move y=>y | .assign y=>y | _=>x)
  | none=>x)
 | _=>x
def watchP (h:H) (xs:List AV):List (Nat×List AV):=@List.rec AV (fun _=>List (Nat×List AV)) [] (fun x _ r=>x.onPtr r fun b _=>watch1 h b r) xs
def appW (a b:List (Nat×List AV)):List (Nat×List AV):=@List.rec (Nat×List AV) (fun _=>List (Nat×List AV)) b (fun p _ r=>p::r) a
def watchN (h:H) (n:Nat):List AV->List (Nat×List AV):=@Nat.rec (fun _=>List AV->List (Nat×List AV)) (fun xs=>watchP h xs) (fun _ f xs=>@List.rec (Nat×List AV) (fun _=>List (Nat×List AV)) [] (fun p _ r=>p::appW (f p.2) r) (watchP h xs)) n
def watOpsL (ops:List Oper):List Operand:=ops.filterMap fun o=>match o.op with | .load _ x=>some (srcOf ops x) | .fieldAddr _ x _=>some (srcOf ops x) | _=>none
def watOps (ops:List Oper):List Operand:=ops.filterMap fun o=>match o.op with | .indexAddr _ x _=>some (srcOf ops x) | .fieldAddr _ x _=>some (srcOf ops x) | _=>none
def isLoad (o:Oper):Bool:=match o.op with | .load .. => true | _=>false
def intLoads (P:Program) (ops:List Oper):Bool:=ops.any isLoad && ops.all fun o=>match o.op with
 | .load t _=>(match isAggT P t,P.underlying t with | some false,some (.int _)=>true | some false,some .bool=>true | _,_=>false)
 | _=>true
def watT (P:Program) (t:TypeId):Bool:=match isAggT P t,P.underlying t with | some false,some (.int _)=>true | some false,some .bool=>true | some false,some (.pointer _)=>true | _,_=>false
theorem zant {P:Program} {t:TypeId} (h:watT P t=true):isAggT P t=some false:=by
 unfold watT at h;split at h <;> first | assumption | cases h
def memCall (P:Program) (o:Oper):Bool:=match o.op with | .call c=>(match c.callee with | .builtin _=>false | _=>(match P.underlying o.type with | some (.slice _)=>true | some (.pointer _)=>true | some (.map _ _)=>true | _=>false)) | _=>false
def memLoads (P:Program) (ops:List Oper):Bool:=ops.any (memCall P) && ops.any isLoad
def dOpX3 (P:Program) (Γ:Env) (Ws:List (Nat×List AV)) (o:Oper) (st:St) (h:H) (k:AV->H->Option R):Option R:=
 match o.op with
 | .load t x=>bx (watT P t) (aLoadW Ws (ev st x) h k) (dOpX P Γ 2 o st h fun a h'=>bc (okW Ws h') (k a h') none)
 | _=>dOpX P Γ 2 o st h fun a h'=>bc (okW Ws h') (k a h') none
def cls3 (P:Program) (o:Oper):Nat:=match o.op with | .load t _=>bif watT P t then 0 else clsOf P 2 o | _=>clsOf P 2 o
def clsAt3 (P:Program) (ops:Array Oper) (k:Nat):Nat:=match ops[k]? with | some o=>cls3 P o | none=>2
def dynCall (o:Oper):Bool:=match o.op with | .call c=>(match c.callee with | .value (.tmp _)=>true | _=>false) | _=>false
def isStore (o:Oper):Bool:=match o.op with | .store .. => true | _=>false
def use3 (P:Program) (ops:Array Oper):Bool:=((intLoads P ops.toList || memLoads P ops.toList) && lexX .any ops (clsAt3 P ops)) && !(intLoads P ops.toList && ops.toList.any dynCall && ops.toList.any isStore && lexX .any ops (clsAt P 1 ops))
def use1 (P:Program) (ops:Array Oper):Bool:=lexX .any ops (clsAt P 1 ops) && !(ops.toList.any dynCall && ops.toList.any (memCall P))
abbrev DX:=Oper->St->H->(AV->H->Option R)->Option R
def runAllX (N:Nat) (dx:DX):List Oper->St->H->K->Option R
 | [],st,h,kn=>kn st h
 | o::rest,st,h,kn=>dx o st h fun a h'=>putO N o.dst a st fun st'=>runAllX N dx rest st' h' kn
def dOpsX (N:Nat) (dx:DX) (all:List Oper):Nat->An->List Oper->St->H->K->Option R
 | _,_,[],st,h,kn=>kn st h
 | 0,_,_::_,_,_,_=>none
 | n+1,an,o::rest,st,h,kn=>match o.guard with
  | none=>(match an.cutK with
   | none=>dx o st h fun a h'=>putO N o.dst a st fun st'=>dOpsX N dx all n an.next rest st' h' kn
   | some ks=>(fun J:List AV->H->Option R=>J (ks.map (get st)) h) (fun vs h=>dx o (mkSt ks vs) h fun a h'=>putO N o.dst a (mkSt ks vs) fun st'=>dOpsX N dx all n an.next rest st' h' kn))
  | some (j,want)=>match (all[j]?).bind (·.dst) with
   | none=>none
   | some d=>bc (((o::rest).takeWhile (sameG j want)).all (fun o=>match o.dst with | some e=>!Nat.beq e d | none=>true))
    (match an.ks with
    | none=>none
    | some ks=>(fun J:List AV->H->Option R=>guardB want (get st d) (runAllX N dx ((o::rest).takeWhile (sameG j want)) st h fun st h=>J (ks.map (get st)) h)
     (skipAll N ((o::rest).takeWhile (sameG j want)) st fun st=>J (ks.map (get st)) h))
     (fun vs h=>dOpsX N dx all n an.r ((o::rest).dropWhile (sameG j want)) (mkSt ks vs) h kn))
    none
def okL (Ws:List (Nat×List AV)) (h:H):Bool:=@List.rec (Nat×List AV) (fun _=>Bool) true (fun p _ f=>bc (Nat.ble (Nat.succ p.1) h.lo) f false) Ws
def aLoad4 {α:Type} (Ws:List (Nat×List AV)) (x:AV) (h:H) (k:AV->H->Option α):Option α:=x.onPtr none fun b _=>bc (Nat.ble (Nat.succ b) h.lo) (findW Ws b fun _=>aLoad x h k) none
def aLoadN4 {α:Type} (n:Nat) (Ws:List (Nat×List AV)) (x:AV) (h:H) (k:AV->H->Option α):Option α:=x.onPtr none fun b _=>bc (Nat.ble (Nat.succ b) h.lo) (findW Ws b fun _=>aLoadN n x h k) none
def dOpX4 (P:Program) (Γ:Env) (Ws:List (Nat×List AV)) (o:Oper) (st:St) (h:H) (k:AV->H->Option R):Option R:=
 match o.op with
 | .load t x=>(match isAggT P t with
  | some true=>(match sizeT P t with | some n=>aLoadN4 n Ws (ev st x) h k | none=>none)
  | some false=>aLoad4 Ws (ev st x) h k
  | none=>none)
 | _=>dOpX P Γ 2 o st h fun a h'=>bc (okL Ws h') (k a h') none
def cls4 (P:Program) (o:Oper):Nat:=match o.op with | .load _ _=>0 | _=>clsOf P 2 o
def clsAt4 (P:Program) (ops:Array Oper) (k:Nat):Nat:=match ops[k]? with | some o=>cls4 P o | none=>2
def dOpsL (N:Nat) (dx:DX) (ops:Array Oper):List Nat->St->H->K->Option R
 | [],st,h,kn=>kn st h
 | k::l,st,h,kn=>match ops[k]? with
  | some o=>(match o.guard with
   | none=>dx o st h fun a h'=>putO N o.dst a st fun st'=>dOpsL N dx ops l st' h' kn
   | some _=>none)
  | none=>none
def H.unmark (h:H) (lo:Nat):H:=⟨h.n,h.t,minN h.lo lo⟩
def srcS (ops:List Oper) (x:Operand):Operand:=match x with
 | .tmp t=>(match ops.find? (fun o=>match o.dst with | some d=>Nat.beq d t | none=>false) with
  | some o=>(match o.op with | .move y=>y | .assign y=>y | .nilCheck y=>y | _=>x)
  | none=>x)
 | _=>x
def watOps4 (ops:List Oper):List Operand:=ops.filterMap fun o=>match o.op with | .load _ x=>some (srcS ops (srcS ops (srcS ops x))) | .fieldAddr _ x _=>some (srcS ops (srcS ops (srcS ops x))) | _=>none
def region4 (P:Program) (Γ:Env) (N:Nat) (ops:Array Oper) (an:An) (st:St) (h:H) (kn:K):Option R:=
 match an.ks with
 | some l=>bc (lexP .any ops (clsAt4 P ops) l) ((fun (Ws:List (Nat×List AV)) (lo:Nat)=>dOpsL N (dOpX4 P Γ Ws) ops l st h.mark fun st' h'=>kn st' (h'.unmark lo)) (watchP h ((watOps4 ops.toList).map (ev st))) h.lo) none
 | none=>none
def loopD (n:Nat) (body:List AV->H->(List AV->H->Option R)->Option R):List AV->H->Option R:=
 @Nat.rec (fun _=>List AV->H->Option R) (fun _ _=>none) (fun _ ih vs h=>body vs h ih) n
theorem zabx (n:Nat) (body:List AV->H->(List AV->H->Option R)->Option R) (vs:List AV) (h:H):loopD (n+1) body vs h=body vs h (loopD n body):=rfl
def den (P:Program) (Γ:Env) (N F:Nat):Code->An->St->H->K->(Nat->K)->K->Option R
 | .skip,_,st,h,kn,_,_=>kn st h
 | .region _ ops draw,an,st,h,kn,_,_=>bc draw (bc (P.follows .mixedOrders) (bc (lexX .any ops (clsAt P 2 ops)) (dOpsX N (dOpX P Γ 2) ops.toList ops.toList.length an ops.toList st h kn) (bc (use3 P ops) ((fun Ws=>dOpsX N (dOpX3 P Γ Ws) ops.toList ops.toList.length an ops.toList st h kn) (bif intLoads P ops.toList then watch h ((watOps ops.toList).map (ev st)) else watchN h 2 ((watOpsL ops.toList).map (ev st)))) (bc (use1 P ops) (dOpsX N (dOpX P Γ 1) ops.toList ops.toList.length an ops.toList st h kn) (region4 P Γ N ops an st h kn)))) none) (dOps P Γ N ops.toList ops.toList.length an ops.toList st h kn)
 | .seq a b,an,st,h,kn,ke,kr=>match an.ks with
  | none=>den P Γ N F a an.l st h (fun st h=>den P Γ N F b an.r st h kn ke kr) ke kr
  | some ks=>(fun J:List AV->H->Option R=>den P Γ N F a an.l st h (fun st h=>J (ks.map (get st)) h) ke kr) (fun vs h=>den P Γ N F b an.r (mkSt ks vs) h kn ke kr)
 | .cond c a b,an,st,h,kn,ke,kr=>withBool (ev st c) fun t=>bc t (den P Γ N F a an.l st h kn ke kr) (den P Γ N F b an.r st h kn ke kr)
 | .block id a,an,st,h,kn,ke,kr=>den P Γ N F a an.l st h kn (fun i st h=>bc (Nat.beq i id) (kn st h) (ke i st h)) kr
 | .loop a,an,st,h,kn,ke,kr=>match an.ks with
  | none=>none
  | some ks=>loopD F (fun vs h kc=>den P Γ N F a an.l (mkSt ks vs) h (fun st h=>kc (ks.map (get st)) h) ke kr) (ks.map (get st)) h
 | .exit id,_,st,h,_,ke,_=>ke id st h
 | .scope a,an,st,h,kn,ke,kr=>den P Γ N F a an.l st h kn ke kr
 | .label _,_,st,h,kn,_,_=>kn st h
 | .ret,_,st,h,_,_,kr=>kr st h
 | _,_,_,_,_,_,_=>none
def Post (ι:Inj) (h:H) (a:Act) (w:World) (N:Nat) (kn:K) (ke:Nat->K) (kr:K) (r:R):Exit->Act->World->Prop:=fun e a' w'=>
 ∃ι' st' h',Ext ι h w ι' h' w'/\Rel ι' h' w'/\StR ι' N st' a'/\a'.defers=a.defers /\
  match e with
  | .normal=>kn st' h'=some r
  | .exit i=>ke i st' h'=some r
  | .ret=>kr st' h'=some r
  | _=>False
theorem zaao {ι:Inj} {N:Nat} {st:St} {a:Act} (hs:StR ι N st a) (ks:List Nat):StR ι N (mkSt ks (ks.map (get st))) a:=by
 refine ⟨hs.size,fun s=>?_⟩
 induction ks with
 | nil=>exact rfl
 | cons k ks ih=>
  simp only [List.map_cons,mkSt,hd,tl,get]
  cases hb:Nat.beq k s with
  | true=>rw [cond_true];have:=Nat.eq_of_beq_eq_true hb;subst this;exact hs.at_ k
  | false=>rw [cond_false];exact ih
theorem zaeh {N:Nat} {d:Option Nat} {x:AV} {st:St} {f:St->Option R} {r:R} (e:putO N d x st f=some r):∃st',f st'=some r /\
 ∀{ι:Inj} {a:Act} {v:Value},StR ι N st a->VR ι x v->StR ι N st' (a.put d v):=by
 unfold putO at e
 split at e
 · exact ⟨st,e,fun hs _=>hs⟩
 · rename_i d
   obtain ⟨hb,e1⟩:=zaab e
   exact ⟨_,e1,fun hs hv=>hs.put d x _ (Nat.le_of_ble_eq_true hb) hv⟩
theorem zabb (a:Act) (d:Option Tmp) (v:Value):(a.put d v).defers=a.defers:=by cases d <;> rfl
theorem zafg {want:Bool} {yes no:Option R} {r:R} {ι:Inj} {N:Nat} {ops:Array Oper} {j d:Nat} {st:St} {a:Act} (hd:(ops[j]?).bind (·.dst)=some d) (hs:StR ι N st a)
 (
  e:guardB want (get st d) yes no=some r):(∀(o:Oper),o.guard=some (j,want)->∀a':Act,a'.tmps.getD d undef=a.tmps.getD d undef->Region.wanted o (yielded ops a'.tmps)=true)/\yes=some r \/
  (∀(o:Oper),o.guard=some (j,want)->∀a':Act,a'.tmps.getD d undef=a.tmps.getD d undef->Region.wanted o (yielded ops a'.tmps)=false)/\no=some r:=by
 have hv:=hs.at_ d
 generalize get st d=x at e hv
 cases x using AV.casesE <;> (try (cases e;done))
 case bool b=>
  have e:bc (bc b want (bnot want)) yes no=some r:=e
  have hv:=hv.bool
  have key:∀a':Act,a'.tmps.getD d undef=a.tmps.getD d undef->yielded ops a'.tmps j=some b:=fun a' h'=>by
   rw [hv] at h'
   simp only [yielded,hd,Option.bind_some]
   rw [Array.getD_eq_getD_getElem?] at h'
   cases hq:a'.tmps[d]? with
   | none=>rw [hq] at h';simp [undef] at h'
   | some x=>rw [hq] at h';simp at h';rw [h']
  cases hc:bc b want (bnot want) with
  | true=>
   rw [hc,bc_true] at e
   refine .inl ⟨fun o ho a' h'=>?_,e⟩
   simp only [Region.wanted,ho,key a' h']
   cases b <;> cases want <;> first | rfl | cases hc
  | false=>
   rw [hc,zaag] at e
   refine .inr ⟨fun o ho a' h'=>?_,e⟩
   simp only [Region.wanted,ho,key a' h']
   cases b <;> cases want <;> first | rfl | cases hc
 case tup l=>
  cases l using AV.casesE <;> (try (cases e;done))
  have e:no=some r:=e
  obtain ⟨cs,hcs,hc⟩:=hv.tup
  refine .inr ⟨fun o ho a' h'=>?_,e⟩
  simp only [Region.wanted,ho,yielded,hd,Option.bind_some]
  rw [hcs] at h'
  rw [Array.getD_eq_getD_getElem?] at h'
  cases hq:a'.tmps[d]? with
  | none=>cases want <;> rfl
  | some x=>rw [hq] at h';simp at h';subst h';cases want <;> rfl
theorem zaia {a:Act} {dst:Option Nat} {v:Value} {d:Nat} (h:dst≠some d):(a.put dst v).tmps.getD d undef=a.tmps.getD d undef:=by
 cases dst with
 | none=>rfl
 | some e=>
  have:e≠d:=fun he=>h (by rw [he])
  simp [Act.put,Array.getD_eq_getD_getElem?,Array.getElem?_setIfInBounds_ne this]
section
variable {Γ:Env} {N:Nat} {ops:Array Oper} {kn:K} {ke:Nat->K} {kr:K} {r:R} {Q:Exit->Act->World->Prop}
theorem zad0 {β:Type} (p:β->Bool):∀(l:List β),∀x∈l.takeWhile p,p x=true
 | [],x,hx=>by simp at hx
 | y::l,x,hx=>by
  rw [List.takeWhile_cons] at hx
  split at hx
  · rcases List.mem_cons.1 hx with rfl | hx
    · assumption
    · exact zad0 p l x hx
  · simp at hx
theorem zapb {j:Nat} {want:Bool} {o:Oper} (h:sameG j want o=true):o.guard=some (j,want):=by
 unfold sameG at h
 split at h
 · rename_i i v hg
   simp only [Bool.and_eq_true] at h
   have:=Nat.eq_of_beq_eq_true h.1
   subst this
   rw [hg]
   cases v <;> cases want <;> first | rfl | (simp at h)
 · cases h
end
theorem Ext.grow {ι:Inj} {h:H} {w w':World} (hr:Rel ι h w) (hg:Below w.heap.size w w'):Ext ι h w ι h w' where
 le:=.refl _
 os:=hg.os
 tape:=hg.tape
 output:=hg.output
 size:=hg.size
 block:=fun B hB _=>hg.block B hB
 own:=fun B ho=>.inl ho
 num:=Nat.le_refl _
 lo:=Nat.le_refl _
 keep:=fun _ _ _=>rfl
 keepW:=fun b B o s _ _ _ e=>hg.block B (hr.lt _ _ _ _ e)
 dom:=fun b B o s e=>.inl ⟨b,_,_,e⟩
section
variable {Γ:Env} {N m:Nat} {ops:Array Oper} {r:R}
theorem clsOf0 {o:Oper} (hm:m=1\/m=2) (h:clsOf P m o=0):clsOf P 1 o=0:=by
 unfold clsOf at *
 cases ho:o.op with
 | call c=>
  simp only [ho] at h ⊢
  cases hc:c.callee with
  | value f=>simp only [hc] at h;rcases hm with rfl | rfl <;> cases h
  | invoke f n=>simp only [hc] at h;rcases hm with rfl | rfl <;> cases h
  | builtin b=>simp only [hc] at h ⊢;cases b <;> first | rfl | exact h | cases h
 | binOp op t x y u=>simp only [ho] at h ⊢;exact h
 | convert s d x=>simp only [ho] at h ⊢;exact h
 | _=>first | rfl | (simp [ho] at h;done)
structure Known (ι0:Inj) (h0:H) (w0:World) (ι:Inj) (h:H) (w:World) (U:Nat->Prop):Prop where
 ext:Ext ι0 h0 w0 ι h w
 rel:Rel ι h w
 avoid:∀b C q z,ι b=some (C,q,z)->¬ U C
 base:∀C,U C->w0.heap.size<=C
 lt:∀C,U C->C<w.heap.size
theorem Known.grow {ι0:Inj} {h0:H} {w0:World} {ι:Inj} {h:H} {w w':World} {U U':Nat->Prop} (K:Known ι0 h0 w0 ι h w U) (hg:Gr w U w' U'):Known ι0 h0 w0 ι h w' U' where
 ext:=K.ext.trans (Ext.grow K.rel hg.below)
 rel:=K.rel.grow hg.below
 avoid:=fun b C q z e hC=>by
  rw [hg.more] at hC
  rcases hC with hC | hC
  · exact K.avoid b C q z e hC
  · have:=K.rel.lt _ _ _ _ e;omega
 base:=fun C hC=>by
  rw [hg.more] at hC
  rcases hC with hC | hC
  · exact K.base C hC
  · exact Nat.le_trans K.ext.size hC.1
 lt:=fun C hC=>by
  rw [hg.more] at hC
  rcases hC with hC | hC
  · exact Nat.lt_of_lt_of_le (K.lt C hC) hg.below.size
  · exact hC.2
theorem Known.adopt {ι0:Inj} {h0:H} {w0:World} {ι:Inj} {h:H} {w:World} {U:Nat->Prop} (K:Known ι0 h0 w0 ι h w U) {B:Nat} (hB:U B) {cells:Array Value} {el:TypeId} (hX:w.heap[B]?=some (.cells cells el)) {l:List AV} (hv:VL ι l cells.toList)
 (hr0:∀b C q z,ι0 b=some (C,q,z)->C<w0.heap.size) :
 Known ι0 h0 w0 (ι.add h.n (B,0,cells.toList.length)) (h.push (.cells 0 l)) w (less U B) where
 ext:={
  le:=K.ext.le.trans (Inj.le_add K.rel.noId)
  os:=K.ext.os
  tape:=K.ext.tape
  output:=K.ext.output
  size:=K.ext.size
  block:=K.ext.block
  own:=fun C ⟨c,q,z,e,ho⟩=>by
   unfold Inj.add at e
   rw [H.get_push] at ho
   split at e
   · cases e;exact .inr (K.base B hB)
   · rename_i hn;rw [if_neg hn] at ho;exact K.ext.own C ⟨c,q,z,e,ho⟩
  num:=Nat.le_trans K.ext.num (Nat.le_succ _)
  lo:=K.ext.lo
  keep:=fun c h1 h2=>by
   have:=K.ext.num
   rw [H.get_push,if_neg (by omega)];exact K.ext.keep c h1 h2
  keepW:=K.ext.keepW
  dom:=fun c C q z e=>by
   unfold Inj.add at e
   split at e
   · cases e;exact .inr (K.base B hB)
   · exact K.ext.dom c C q z e }
 rel:={
  fresh:=fun c x e=>by
   unfold Inj.add at e;rw [H.n_push]
   split at e
   · omega
   · have:=K.rel.fresh _ _ e;omega
  lt:=fun c C q z e=>by
   unfold Inj.add at e
   split at e
   · cases e;exact K.lt B hB
   · exact K.rel.lt _ _ _ _ e
  inj:=fun c d C q z q' z' hc hd ec ed=>by
   unfold Inj.add at ec ed
   rw [H.get_push] at hc hd
   split at ec
   · cases ec
     split at ed
     · omega
     · exact absurd hB (K.avoid _ _ _ _ ed)
   · rename_i hcn
     rw [if_neg hcn] at hc
     split at ed
     · cases ed;exact absurd hB (K.avoid _ _ _ _ ec)
     · rename_i hdn;rw [if_neg hdn] at hd;exact K.rel.inj c d C q z q' z' hc hd ec ed
  blk:=fun c hc=>by
   rw [H.get_push] at hc ⊢
   by_cases hcn:c=h.n
   · subst hcn
     refine ⟨B,0,cells.toList.length,by simp [Inj.add],?_⟩
     rw [if_pos rfl,hX]
     refine ⟨cells,el,0,0,rfl,by simp,fun i a hi=>?_,fun _=>rfl,fun h=>by cases h⟩
     obtain ⟨v,h1,h2⟩:=(hv.mono (Inj.le_add K.rel.noId)).get i a hi
     exact ⟨v,by simpa using h1,h2⟩
   · rw [if_neg hcn] at hc ⊢
     obtain ⟨C,q,z,e,hR⟩:=K.rel.blk c hc
     exact ⟨C,q,z,by simp [Inj.add,hcn,e],hR.mono (Inj.le_add K.rel.noId)⟩
  pin:=fun c r' e' hp=>by
   rw [H.get_push] at hp
   by_cases hcn:c=h.n
   · rw [if_pos hcn] at hp;exact absurd hp (Blk.cells_free (by decide) _ _)
   · rw [if_neg hcn] at hp
     obtain ⟨⟨s',hb⟩,hc⟩:=K.rel.pin c r' e' hp
     exact ⟨⟨s',by simp [Inj.add,hcn,hb]⟩,hc⟩ }
 avoid:=fun c C q z e hC=>by
  unfold Inj.add at e
  split at e
  · cases e;exact hC.2 rfl
  · exact K.avoid c C q z e hC.1
 base:=fun C hC=>K.base C hC.1
 lt:=fun C hC=>K.lt C hC.1
theorem zaj1 {S:Adm} (hΓ:Sound P Γ) (hm:m=1\/m=2) {ι0:Inj} {h0:H} {w0:World} (hr0:∀b C q z,ι0 b=some (C,q,z)->C<w0.heap.size) {o:Oper} {ι:Inj} {h:H} {a:Act} {w:World} {U:Nat->Prop} {st:St} {k:AV->H->Option R} (hR:Known ι0 h0 w0 ι h w U) (hS:StR ι N st a) {c:Nat} (hc:c=clsOf P m o)
 (hw:Region.wanted o (yielded ops a.tmps)=true) (e:dOpX P Γ m o st h k=some r) {K:Act->World->(Nat->Prop)->Prop}
 (hSk:∀x w' U' ι' h',Known ι0 h0 w0 ι' h' w' U'->k x h'=some r->S.1 w')
 (hk:∀x v w' U' ι' h',Known ι0 h0 w0 ι' h' w' U'->ι.le ι'->VR ι' x v->k x h'=some r->K (a.put o.dst v) w' U'):step S P ops c o K a w U:=by
 unfold dOpX at e
 unfold step
 cases hb:Nat.ble 2 (clsOf P m o) with
 | true=>
  have h2:=Nat.le_of_ble_eq_true hb
  rw [hb,bc_true] at e
  rw [if_neg (by omega),if_neg (by omega)]
  by_cases h3:c=3
  · rw [if_pos h3]
    have hop:∃t n ps,o.op = .buildSlice t n ps:=by
     rw [hc] at h3
     unfold clsOf at h3
     cases ho:o.op with
     | buildSlice t n ps=>exact ⟨t,n,ps,rfl⟩
     | call cc=>
      simp only [ho] at h3
      cases hcc:cc.callee with
      | value f=>simp only [hcc] at h3;omega
      | invoke f n=>simp only [hcc] at h3;omega
      | builtin b=>simp only [hcc] at h3;cases b <;> cases h3
     | binOp op t x y u=>simp only [ho] at h3;split at h3 <;> omega
     | convert s d x=>simp only [ho] at h3;split at h3 <;> omega
     | _=>simp [ho] at h3
    obtain ⟨t,n,ps,ho⟩:=hop
    simp only [dOp,ho] at e
    split at e
    case h_2=>cases e
    rename_i el hu
    split at e
    case h_2=>cases e
    rename_i es zs hes hzs
    obtain ⟨hn,e1⟩:=zaab e
    obtain ⟨cells',l,g1,g2,g3⟩:=zafs (ρ:=a.eval) ho hS.ev hu hes hzs (Nat.le_of_ble_eq_true hn) e1
    refine .inl ⟨hw,n,.cells cells' el,g1,fun w' U' B hg hB hX=>?_⟩
    have K1:=hR.grow hg
    have K2:=K1.adopt hB hX g2 hr0
    exact hk _ _ w' _ _ _ K2 (Inj.le_add K1.rel.noId) VR.newSl g3
  · rw [if_neg h3]
    refine .inl ⟨hw,fun w' U' hg=>?_⟩
    have K1:=hR.grow hg
    refine zalc hΓ K1.rel hS e _ fun x v w'' ι' h' hE hR' hV hk'=>?_
    have K2:Known ι0 h0 w0 ι' h' w'' U':=⟨K1.ext.trans hE,hR',fun b C q z eb hC=>by
     rcases hE.dom b C q z eb with ⟨c',q',z',e'⟩ | h5
     · exact K1.avoid _ _ _ _ e' hC
     · have:=K1.lt C hC;omega,K1.base,fun C hC=>Nat.lt_of_lt_of_le (K1.lt C hC) hE.size⟩
    refine ⟨hk x v w'' U' ι' h' K2 hE.le hV hk',fun B hB=>?_,hSk x w'' U' ι' h' K2 hk'⟩
    · exact hE.block B (K1.lt B hB) fun ⟨b,q,z,eb,_⟩=>K1.avoid b B q z eb hB
 | false=>
  have h2:¬ 2<=clsOf P m o:=by intro h;rw [Nat.ble_eq_true_of_le h] at hb;cases hb
  rw [hb,zaag] at e
  by_cases h0':c=0
  · rw [if_pos h0']
    have hp:GivesC (fun _=>True) P a.eval o ι h (fun a _=>k a h) r:=by
     have hc1:=clsOf0 hm (hc.symm.trans h0')
     unfold dOpQ at e
     split at e
     · rename_i cc ho
       split at e
       · rename_i f hcc;exact absurd hc1 (by simp [clsOf,ho,hcc])
       · rename_i f n hcc;exact absurd hc1 (by simp [clsOf,ho,hcc])
       · obtain ⟨_,e2⟩:=zaab e;exact zaki hR.rel hS hc1 e2
     · obtain ⟨_,e2⟩:=zaab e;exact zaki hR.rel hS hc1 e2
    obtain ⟨v,x,g1,g2,g3⟩:=hp
    exact ⟨v,.inl ⟨hw,fun w' _=>g1 w' trivial⟩,hk x v w U ι h hR (.refl _) g2 g3⟩
  · have h1:c=1:=by omega
    rw [if_neg h0',if_pos h1]
    obtain ⟨v,x,g1,g2,g3⟩:=zanl hΓ hR.rel hS e
    exact ⟨v,.inl ⟨hw,g1⟩,fun w' U' hg=>hk x v w' U' ι h (hR.grow hg) (.refl _) g2 g3⟩
def DxSound (S:Adm) (P:Program) (ops:Array Oper) (N:Nat) (ι0:Inj) (h0:H) (w0:World) (r:R) (dx:DX) (cl:Oper->Nat):Prop:=
 ∀(o:Oper) (ι:Inj) (h:H) (a:Act) (w:World) (U:Nat->Prop) (st:St) (k:AV->H->Option R),Known ι0 h0 w0 ι h w U->StR ι N st a->Region.wanted o (yielded ops a.tmps)=true->dx o st h k=some r->
  ∀(K:Act->World->(Nat->Prop)->Prop),(∀x v w' U' ι' h',Known ι0 h0 w0 ι' h' w' U'->ι.le ι'->VR ι' x v->k x h'=some r->K (a.put o.dst v) w' U')->step S P ops (cl o) o K a w U
theorem DxSound.one (hΓ:Sound P Γ) (hm:m=1\/m=2) {ι0:Inj} {h0:H} {w0:World} (hr0:∀b C q z,ι0 b=some (C,q,z)->C<w0.heap.size):DxSound Adm.all P ops N ι0 h0 w0 r (dOpX P Γ m) (clsOf P m):=
 fun o ι h a w U st k hR hS hw e K hk=>zaj1 hΓ hm hr0 hR hS rfl hw e (fun _ _ _ _ _ _ _=>trivial) hk
theorem zapu {a b:AV} (h:eqW1 a b=true) (hw:wat a=true):b=a:=by
 cases a <;> try (cases hw;done)
 case int k n=>
  cases b <;> try (cases h;done)
  rename_i k' n'
  obtain ⟨h1,h2⟩:Nat.beq k k'=true/\ieq n n'=true:=by
   have h:bc (Nat.beq k k') (ieq n n') false=true:=h
   cases hk:Nat.beq k k' with
   | true=>rw [hk] at h;exact ⟨rfl,h⟩
   | false=>rw [hk] at h;cases h
  rw [ieq_eq,decide_eq_true_eq] at h2
  rw [Nat.eq_of_beq_eq_true h1,h2]
 case bool x=>
  cases b <;> try (cases h;done)
  rename_i y
  cases x <;> cases y <;> first | rfl | cases h
 case ptr c q=>
  cases b <;> try (cases h;done)
  rename_i c' q'
  have h:bc (Nat.beq c c') (Nat.beq q q') false=true:=h
  cases hk:Nat.beq c c' with
  | true=>rw [hk,bc_true] at h;rw [Nat.eq_of_beq_eq_true hk,Nat.eq_of_beq_eq_true h]
  | false=>rw [hk] at h;cases h
 case leaf l=>
  cases l <;> try (cases hw;done)
  cases b <;> try (cases h;done)
  rename_i m
  cases m <;> first | rfl | (cases h;done)
theorem zapj:∀{l l':List AV},eqW l l'=true->∀(i:Nat) a,l[i]?=some a->wat a=true->l'[i]?=some a
 | [],_,_,i,a,hi,_=>by simp at hi
 | _::_,[],h,i,a,hi,_=>by cases h
 | x::l,y::l',h,i,a,hi,hw=>by
  have h:bc (eqW1 x y) (eqW l l') false=true:=h
  cases hx:eqW1 x y with
  | false=>rw [hx] at h;cases h
  | true=>
   rw [hx,bc_true] at h
   cases i with
   | zero=>simp at hi;subst hi;simp [zapu hx hw]
   | succ i=>simpa using zapj h i a (by simpa using hi) hw
theorem zahh {h:H} {b:Nat} {q:List (Nat×List AV)} (hq:∀p∈q,∃fl,h.get p.1 = .cells fl p.2):∀p∈watch1 h b q,∃fl,h.get p.1 = .cells fl p.2:=by
 unfold watch1
 cases hb:h.get b with
 | dead=>exact hq
 | map es c=>exact hq
 | cells fl l=>intro p hp;rcases List.mem_cons.1 hp with rfl | hp;exact ⟨fl,hb⟩;exact hq p hp
theorem zaj3 {h:H}:∀(xs:List AV),∀p∈watch h xs,∃fl,h.get p.1 = .cells fl p.2
 | []=>fun p hp=>by cases hp
 | x::xs=>by
  have ih:=zaj3 (h:=h) xs
  show ∀p∈x.onSl (x.onPtr (watch h xs) fun b _=>watch1 h b (watch h xs)) (fun _=>watch h xs) (fun b _ _ _=>watch1 h b (watch h xs)) (fun b _ _ _=>watch1 h b (watch h xs)),_
  cases x using AV.casesE <;> first | exact ih | exact zahh ih
theorem zafk {h:H}:∀(xs:List AV),∀p∈watchP h xs,∃fl,h.get p.1 = .cells fl p.2
 | []=>fun p hp=>by cases hp
 | x::xs=>by
  have ih:=zafk (h:=h) xs
  show ∀p∈x.onPtr (watchP h xs) fun b _=>watch1 h b (watchP h xs),_
  cases x using AV.casesE <;> first | exact ih | exact zahh ih
theorem zaoi {p:Nat×List AV}:∀{a b:List (Nat×List AV)},p∈appW a b->p∈a\/p∈b
 | [],b,h=>.inr h
 | q::a,b,h=>by
  have h:p∈q::appW a b:=h
  rcases List.mem_cons.1 h with rfl | h
  · exact .inl (List.mem_cons_self ..)
  · exact (zaoi h).imp (List.mem_cons_of_mem _) id
theorem zahq {h:H}:∀(n:Nat) (xs:List AV),∀p∈watchN h n xs,∃fl,h.get p.1 = .cells fl p.2
 | 0,xs=>zafk xs
 | n+1,xs=>by
  show ∀p∈@List.rec (Nat×List AV) (fun _=>List (Nat×List AV)) [] (fun p _ r=>p::appW (watchN h n p.2) r) (watchP h xs),_
  have key:∀(l:List (Nat×List AV)),(∀p∈l,∃fl,h.get p.1 = .cells fl p.2)->∀p∈@List.rec (Nat×List AV) (fun _=>List (Nat×List AV)) [] (fun p _ r=>p::appW (watchN h n p.2) r) l,∃fl,h.get p.1 = .cells fl p.2:=by
   intro l
   induction l with
   | nil=>intro _ p hp;cases hp
   | cons q l ih=>
    intro hl p hp
    have hp:p∈q::appW (watchN h n q.2) (@List.rec (Nat×List AV) (fun _=>List (Nat×List AV)) [] (fun p _ r=>p::appW (watchN h n p.2) r) l):=hp
    rcases List.mem_cons.1 hp with rfl | hp
    · exact hl _ (List.mem_cons_self ..)
    · rcases zaoi hp with hp | hp
      · exact zahq n q.2 p hp
      · exact ih (fun p hp=>hl p (List.mem_cons_of_mem _ hp)) p hp
  exact key _ (zafk xs)
theorem zaka {h:H}:∀{Ws:List (Nat×List AV)},okW Ws h=true->∀p∈Ws,∃fl l,h.get p.1 = .cells fl l/\eqW p.2 l=true
 | [],_,p,hp=>by cases hp
 | q::Ws,h0,p,hp=>by
  have h0:bc (@Blk.rec (fun _=>Bool) false (fun _ l=>eqW q.2 l) (fun _ _=>false) (h.get q.1)) (okW Ws h) false=true:=h0
  cases hb:h.get q.1 with
  | dead=>rw [hb] at h0;cases h0
  | map es c=>rw [hb] at h0;cases h0
  | cells fl l=>
   rw [hb] at h0
   have h0:bc (eqW q.2 l) (okW Ws h) false=true:=h0
   cases he:eqW q.2 l with
   | false=>rw [he] at h0;cases h0
   | true=>
    rw [he,bc_true] at h0
    rcases List.mem_cons.1 hp with rfl | hp
    · exact ⟨fl,l,hb,he⟩
    · exact zaka h0 p hp
theorem zagy {α:Type} {b:Nat} {g:List AV->Option α} {r:α}:∀{Ws:List (Nat×List AV)},findW Ws b g=some r->∃l,(b,l)∈Ws/\g l=some r
 | [],h=>by cases h
 | (c,l)::Ws,h=>by
  have h:bc (Nat.beq c b) (g l) (findW Ws b g)=some r:=h
  cases hb:Nat.beq c b with
  | true=>rw [hb,bc_true] at h;rw [Nat.eq_of_beq_eq_true hb];exact ⟨l,List.mem_cons_self ..,h⟩
  | false=>rw [hb,zaag] at h;obtain ⟨l',h1,h2⟩:=zagy h;exact ⟨l',List.mem_cons_of_mem _ h1,h2⟩
theorem zana {a:AV} {ι ι':Inj} {v v':Value} (h:wat a=true) (hle:ι.le ι') (h0:VR ι a v) (h1:VR ι' a v'):v'=v:=by
 cases a <;> try (cases h;done)
 case int k n=>rw [h0.int,h1.int]
 case bool b=>rw [h0.bool,h1.bool]
 case ptr b o=>
  obtain ⟨B,base,sz,ib,ex⟩:=h0.ptr
  obtain ⟨B',base',sz',ib',ex'⟩:=h1.ptr
  rw [hle _ _ ib] at ib';cases ib'
  rw [ex,ex']
 case leaf l=>
  cases l <;> try (cases h;done)
  rw [h0.nilp,h1.nilp]
theorem zark {a:AV} {ι:Inj} {v v':Value} (h:wat a=true) (h1:VR ι a v) (h2:VR ι a v'):v=v':=(zana h (.refl _) h1 h2).symm
def SW (ι0:Inj) (Ws:List (Nat×List AV)) (w:World):Prop:=∀p∈Ws,∀B o sz,ι0 p.1=some (B,o,sz)->
 ∃c e fr,w.heap[B]?=some (.cells c e fr)/\∀(i:Nat) a,p.2[i]?=some a->wat a=true->∃v,c[o+i]?=some v/\VR ι0 a v
def Adm.watch (ι0:Inj) (Ws:List (Nat×List AV)):Adm:=⟨SW ι0 Ws,fun w w' hs hb p hp B o sz e=>by
 obtain ⟨c,t,fr,h1,h2⟩:=hs p hp B o sz e
 have hlt:B<w.heap.size:=(Array.getElem?_eq_some_iff.1 h1).1
 exact ⟨c,t,fr,(hb.block B hlt).trans h1,h2⟩⟩
theorem SW.of {ι0 ι:Inj} {Ws:List (Nat×List AV)} {h:H} {w:World} (hr:Rel ι h w) (hle:ι0.le ι) (hv:∀p∈Ws,∀(i:Nat) a,p.2[i]?=some a->∃v,VR ι0 a v) (ho:∀p∈Ws,∃fl l,h.get p.1 = .cells fl l/\eqW p.2 l=true):SW ι0 Ws w:=fun p hp B o sz e=>by
 obtain ⟨fl,l,hb,he⟩:=ho p hp
 obtain ⟨B',o',s',e',hR⟩:=hr.blk p.1 (by rw [hb];simp)
 rw [hle _ _ e] at e';cases e'
 rw [hb] at hR
 obtain ⟨c,t,lo,hi,h1,h2,h3,_⟩:=hR
 refine ⟨c,t,(lo,hi),h1,fun i a hi hw=>?_⟩
 obtain ⟨v,g1,g2⟩:=h3 i a (zapj he i a hi hw)
 obtain ⟨v0,h0⟩:=hv p hp i a hi
 exact ⟨v,g1,by rw [zana hw hle h0 g2];exact h0⟩
theorem SW.vals {ι0:Inj} {h0:H} {w0:World} (hr:Rel ι0 h0 w0) {Ws:List (Nat×List AV)} (hW:∀p∈Ws,∃fl,h0.get p.1 = .cells fl p.2):∀p∈Ws,∀(i:Nat) a,p.2[i]?=some a->∃v,VR ι0 a v:=fun p hp i a hi=>by
 obtain ⟨fl,hb⟩:=hW p hp
 obtain ⟨B,o,s,e,hR⟩:=hr.blk p.1 (by rw [hb];simp)
 rw [hb] at hR
 obtain ⟨c,t,lo,hi',h1,h2,h3,_⟩:=hR
 obtain ⟨v,_,g⟩:=h3 i a hi
 exact ⟨v,g⟩
theorem zaj4:∀(l:List AV),eqW l l=true
 | []=>rfl
 | a::l=>by
  have h1:eqW1 a a=true:=by
   cases a <;> first | rfl | skip
   · show bc (Nat.beq _ _) (ieq _ _) false=true
     rw [Nat.beq_refl,bc_true,ieq_eq];simp
   · rename_i b;cases b <;> rfl
   · show bc (Nat.beq _ _) (Nat.beq _ _) false=true
     rw [Nat.beq_refl,bc_true,Nat.beq_refl]
   · rename_i l;cases l <;> rfl
  show bc (eqW1 a a) (eqW l l) false=true
  rw [h1,bc_true];exact zaj4 l
theorem DxSound.three (hΓ:Sound P Γ) {ι0:Inj} {h0:H} {w0:World} (hr:Rel ι0 h0 w0) {Ws:List (Nat×List AV)} (hW:∀p∈Ws,∃fl,h0.get p.1 = .cells fl p.2) :
 DxSound (Adm.watch ι0 Ws) P ops N ι0 h0 w0 r (dOpX3 P Γ Ws) (cls3 P):=by
 intro o ι h a w U st k hR hS hw e K hk
 have rest:cls3 P o=clsOf P 2 o->(dOpX P Γ 2 o st h fun a h'=>bc (okW Ws h') (k a h') none)=some r->step (Adm.watch ι0 Ws) P ops (cls3 P o) o K a w U:=fun hc e=>by
  rw [hc]
  refine zaj1 hΓ (.inr rfl) hr.lt hR hS rfl hw e (fun x w' U' ι' h' hK hk'=>?_) fun x v w' U' ι' h' hK hle hV hk'=>?_
  · obtain ⟨ho,_⟩:=zaab hk'
    exact SW.of hK.rel hK.ext.le (SW.vals hr hW) (zaka ho)
  · obtain ⟨_,hk2⟩:=zaab hk'
    exact hk x v w' U' ι' h' hK hle hV hk2
 unfold dOpX3 at e
 split at e
 · rename_i t x ho
   cases hwt:watT P t with
   | false=>
    rw [hwt] at e
    exact rest (by simp [cls3,ho,hwt]) e
   | true=>
   rw [hwt] at e
   have hc:cls3 P o=0:=by simp [cls3,ho,hwt]
   have hag:=zant hwt
   rw [hc]
   unfold step
   rw [if_pos rfl]
   have hxv:=hS.ev x
   have e:aLoadW Ws (ev st x) h k=some r:=e
   generalize hX:ev st x=X at e hxv
   cases X using AV.casesE <;> try (cases e;done)
   rename_i b q
   obtain ⟨l,hl,e1⟩:=zagy (show findW Ws b (fun l=>onSome (nthO l q) fun a=>bc (wat a) (k a h) none)=some r from e)
   obtain ⟨y,hy,e2⟩:=zaay e1
   obtain ⟨hyw,e3⟩:=zaab e2
   rw [zadr] at hy
   obtain ⟨fl,hb⟩:=hW _ hl
   obtain ⟨B,base,sz,ib0,hBR⟩:=hr.blk b (by rw [hb];simp)
   rw [hb] at hBR
   obtain ⟨c0,t0,lo,hi,g1,g2,g3,_⟩:=hBR
   obtain ⟨v,v1,v2⟩:=g3 q y hy
   obtain ⟨B',base',sz',ib,ex⟩:=hxv.ptr
   rw [hR.ext.le _ _ ib0] at ib;cases ib
   refine ⟨v,.inl ⟨hw,fun w' hs=>?_⟩,hk y v w U ι h hR (.refl _) (v2.mono hR.ext.le) e3⟩
   obtain ⟨c,t1,fr,k1,k2⟩:=hs _ hl B base sz ib0
   obtain ⟨v',k3,k4⟩:=k2 q y hy hyw
   obtain rfl:=zark hyw v2 k4
   obtain ⟨lo',hi'⟩:=fr
   have hcell:w'.cell? ⟨B,base+q,none⟩=some v:=by rw [zadn k1];exact k3
   simp [execOp,ho,ex,Instr.loadAt,Instr.sureAddr,loadVar,zabm hag,hcell]
 · rename_i hno
   refine rest ?_ e
   unfold cls3;split
   · rename_i t x ho;exact absurd ho (hno t x)
   · rfl
end
theorem Post.trans {ι ι':Inj} {h h':H} {a a':Act} {w w':World} {N:Nat} {kn:K} {ke:Nat->K} {kr:K} {r:R} (hE:Ext ι h w ι' h' w') (hd:a'.defers=a.defers) {e:Exit} {b:Act} {v:World}
 (hp:Post ι' h' a' w' N kn ke kr r e b v):Post ι h a w N kn ke kr r e b v:=by
 obtain ⟨ι2,st2,h2,e1,e2,e3,e4,e5⟩:=hp
 exact ⟨ι2,st2,h2,hE.trans e1,e2,e3,e4.trans hd,e5⟩
section
variable {Γ:Env} {ops:Array Oper} {N:Nat} {r:R}
def Lies (ι0:Inj) (Ws:List (Nat×List AV)) (w0 w:World):Prop:=∀p∈Ws,∀B o sz,ι0 p.1=some (B,o,sz)->∃X,w0.heap[B]?=some X/\w.heap[B]?=some X
theorem zaru {ι0:Inj} {h0:H} {w0:World} (hr:Rel ι0 h0 w0) {b fl:Nat} {l:List AV} (hb:h0.get b = .cells fl l) {ι:Inj} {h:H} {w:World} (hE:Ext ι0 h0.mark w0 ι h w) (hlo:b<h.lo) {B o sz:Nat} (e:ι0 b=some (B,o,sz)):w.heap[B]?=w0.heap[B]?:=by
 by_cases ho:(h0.get b).own
 · exact hE.keepW b B o sz hlo (hr.fresh _ _ e) ho e
 · refine hE.block B (hr.lt _ _ _ _ e) fun ⟨c,q,z,ec,hc⟩=>?_
   have:=hr.inj c b B q z o sz hc (by rw [hb];simp) ec e
   subst this;exact ho hc
theorem Lies.of {ι0:Inj} {h0:H} {w0:World} (hr:Rel ι0 h0 w0) {Ws:List (Nat×List AV)} (hW:∀p∈Ws,∃fl,h0.get p.1 = .cells fl p.2) {ι:Inj} {h:H} {w:World} (hE:Ext ι0 h0.mark w0 ι h w) (ho:∀p∈Ws,p.1<h.lo):Lies ι0 Ws w0 w:=fun p hp B o sz e=>by
 obtain ⟨fl,hb⟩:=hW p hp
 have hlt:=hr.lt _ _ _ _ e
 exact ⟨_,Array.getElem?_eq_some_iff.2 ⟨hlt,rfl⟩,by rw [zaru hr hb hE (ho p hp) e];exact Array.getElem?_eq_some_iff.2 ⟨hlt,rfl⟩⟩
theorem Ext.unmark {ι ι':Inj} {h h':H} {w w':World} (e:Ext ι h.mark w ι' h' w'):Ext ι h w ι' (h'.unmark h.lo) w' where
 le:=e.le
 os:=e.os
 tape:=e.tape
 output:=e.output
 size:=e.size
 block:=e.block
 own:=e.own
 num:=e.num
 lo:=(zal1 _ _).2
 keep:=fun b h1 h2=>e.keep b (Nat.lt_of_lt_of_le h1 (zal1 _ _).1) h2
 keepW:=fun b B o s h1 h2 h3 h4=>e.keepW b B o s (Nat.lt_of_lt_of_le h1 (zal1 _ _).1) h2 h3 h4
 dom:=e.dom
theorem Rel.unmark {ι:Inj} {h:H} {w:World} (r:Rel ι h w) (lo:Nat):Rel ι (h.unmark lo) w:=⟨r.fresh,r.lt,r.inj,r.blk,r.pin⟩
end
end
end Go.AI
namespace Go.AI
noncomputable section
open Go Go.RowKit
variable {P:Program}
def resA (ts:List Nat) (st:St):AV:=match ts with
 | [t]=>get st t
 | ts=>.tup (AV.ofList (ts.map (get st)))
def tmpsOf:List ResultVar->Option (List Nat)
 | []=>some []
 | .tmp t::l=>match tmpsOf l with | some ts=>some (t::ts) | none=>none
 | _=>none
theorem zaht:∀{l:List ResultVar} {ts:List Nat},tmpsOf l=some ts->l=ts.map ResultVar.tmp
 | [],ts,e=>by cases e;rfl
 | .tmp t::l,ts,e=>by
  simp only [tmpsOf] at e
  split at e
  · rename_i ts' hts;cases e;rw [zaht hts];rfl
  · cases e
 | .cell a t::l,ts,e=>by cases e
theorem zaoj (tmps:Array Value) (w:World) (g:ResultVar->Sem Value) (hg:∀t,g (.tmp t)=pure (tmps.getD t undef)):∀(ts:List Nat),((ts.map ResultVar.tmp).mapM g).run P w = .ok (ts.map fun t=>tmps.getD t undef) w
 | []=>by simp
 | t::ts=>by
  have ih:=zaoj tmps w g hg ts
  rw [List.map_cons,List.mapM_cons,hg]
  simp only [Sem.run_bind,Sem.run_pure,Result.andThen_ok,ih,List.map_cons]
def resV (tmps:Array Value):List Nat->Value
 | [t]=>tmps.getD t undef
 | ts=>.tuple (ts.map fun t=>tmps.getD t undef).toArray
theorem zacb {fn:Func} {ts:List Nat} {tmps:Array Value} {w:World} (h:tmpsOf fn.results.toList=some ts):(results fn tmps).run P w =
 .ok (resV tmps ts) w:=by
 have h1:=zaht h
 have e:fn.results=(ts.map ResultVar.tmp).toArray:=zaak h1
 unfold results
 rw [Array.mapM_eq_mapM_toList,h1]
 simp only [Sem.run_bind,Sem.run_map]
 rw [zaoj (P:=P) tmps w _ (fun _=>rfl) ts]
 simp only [Result.andThen_ok,Sem.run_pure]
 congr 1
 match ts with
 | []=>rfl
 | [t]=>rfl
 | t::u::ts=>simp [resV]
theorem zail {ι:Inj} {N:Nat} {st:St} {a:Act} (hs:StR ι N st a):∀(ts:List Nat),VL ι (ts.map (get st)) (ts.map fun t=>a.tmps.getD t undef)
 | []=>.nil
 | t::ts=>.cons (hs.at_ t) (zail hs ts)
theorem zani {ι:Inj} {N:Nat} {st:St} {a:Act} (hs:StR ι N st a) (ts:List Nat):VR ι (resA ts st) (resV a.tmps ts):=by
 match ts with
 | []=>exact ⟨_,rfl,rfl⟩
 | [t]=>exact hs.at_ _
 | t::u::ts=>exact ⟨_,rfl,by simpa using VX.of_list (zail hs (t::u::ts))⟩
def mkInit:Nat->List AV->St
 | _,[]=>[]
 | i,a::t=>(i,a)::mkInit (i+1) t
theorem zajv {ι:Inj} {tmps:Array Value}:∀{as:List AV} {vs:List Value} (i:Nat),VL ι as vs->(∀(j:Nat) v,vs[j]?=some v->tmps.getD (i+j) undef=v)->∀s,VR ι (get (mkInit i as) s) (tmps.getD s undef)
 | _,_,i,.nil,_,s=>rfl
 | _,_,i,.cons (a:=a) (v:=v) hv hl,hg,s=>by
  simp only [mkInit,get]
  cases hb:Nat.beq i s with
  | true=>
   have:=Nat.eq_of_beq_eq_true hb
   subst this
   rw [cond_true,show tmps.getD i undef=v from by simpa using hg 0 v rfl]
   exact hv
  | false=>
   rw [cond_false]
   exact zajv (i+1) hl (fun j u hj=>by have:=hg (j+1) u (by simpa using hj);rw [show i+1+j=i+(j+1) by omega];exact this) s
def callD (P:Program) (Γ:Env) (N F:Nat) (c:Code) (ts:List Nat) (an:An) (args:List AV) (h:H):Option R:=
 bc (Nat.ble args.length N) (den P Γ N F c an (mkInit 0 args) h (fun st h=>some (resA ts st,h)) (fun _ _ _=>none) (fun st h=>some (resA ts st,h))) none
def finC (P:Program) (a:Nat) (t:TypeId) (st:St) (h:H):Option R:=
 match isAggT P t with
 | some true=>(match sizeT P t with | some n=>aLoadN n (get st a) h (fun x h=>some (x,h)) | none=>none)
 | _=>none
def callC (P:Program) (Γ:Env) (N F:Nat) (c:Code) (a:Nat) (t:TypeId) (an:An) (args:List AV) (h:H):Option R:=
 bc (Nat.ble args.length N) (den P Γ N F c an (mkInit 0 args) h (finC P a t) (fun _ _ _=>none) (finC P a t)) none
theorem zapo {a:Nat} {t:TypeId} {fn:Func} (hr:fn.results = #[.cell a t]) {ι:Inj} {h:H} {w:World} {N:Nat} {st:St} {ac:Act} {r:R} (hR:Rel ι h w) (hS:StR ι N st ac) (e:finC P a t st h=some r) :
 ∃v,(results fn ac.tmps).run P w = .ok v w/\VR ι r.1 v/\r.2=h:=by
 unfold finC at e
 split at e
 case h_2=>cases e
 rename_i hA
 split at e
 case h_2=>cases e
 rename_i n hs
 obtain ⟨b,q,hb,e1⟩:=zaaw e
 obtain ⟨fl,l,hl,e2⟩:=zaae e1
 rw [zabd,AV.ofL_eq,takeL_eq,zab1] at e2
 obtain ⟨hn,e3⟩:=zaab e2
 have hn:=Nat.eq_of_beq_eq_true hn
 cases e3
 have hv:=hS.at_ a
 rw [hb] at hv
 obtain ⟨B,base,sz,ib,ex⟩:=hv.ptr
 obtain ⟨c,ty,lo,hi,hh,_,hc,_⟩:=hR.cells hl ib
 obtain ⟨vs,h1,h2,h3⟩:=hc.list q n hn
 refine ⟨.agg vs.toArray,?_,⟨vs.toArray,rfl,by simpa using VX.of_list h2⟩,rfl⟩
 have hrun:=zab7 P hh (base+q) vs (fun j v hj=>by have:=h3 j v hj;exact this)
 rw [h1] at hrun
 rw [Array.getD_eq_getD_getElem?] at ex
 simp [results,hr,ex,asAddr,loadVar,zabm hA,zaa0 hs,hrun]
theorem Sound.none (P:Program):Sound P (fun _ _ _=>Option.none):=fun _ _ _ _ e=>by cases e
def Env.add (Γ:Env) (f:FuncId) (c:List AV->H->Option R):Env:=fun g args h=>bc (Nat.beq g f) (c args h) (Γ g args h)
theorem Sound.add {Γ:Env} {f:FuncId} {c:List AV->H->Option R} (hΓ:Sound P Γ) (hc:∀args h r,c args h=some r->Tri P f args h r):Sound P (Γ.add f c):=fun g args h r e=>by
 unfold Env.add at e
 cases hb:Nat.beq g f with
 | true=>rw [hb,bc_true] at e;have:=Nat.eq_of_beq_eq_true hb;subst this;exact hc _ _ _ e
 | false=>rw [hb,zaag] at e;exact hΓ _ _ _ _ e
def H0:H:=⟨0,.e,0⟩
theorem Rel.empty (w:World):Rel (fun _=>Option.none) H0 w where
 fresh:=fun _ _ e=>by cases e
 lt:=fun _ _ _ _ e=>by cases e
 inj:=fun b _ _ _ _ _ _ hb=>by exact hb.elim
 blk:=fun b hb=>by exact absurd rfl hb
 pin:=fun b r e ⟨_,l,h⟩=>by cases h
theorem Ext.below {ι ι':Inj} {h':H} {w w':World} (hE:Ext ι H0 w ι' h' w'):Below w.heap.size w w':=
 ⟨hE.os,hE.tape,hE.output,hE.size,fun k hk=>hE.block k hk fun ⟨b,o,s,e,ho⟩=>by exact ho.elim⟩
theorem Below.grown' {w w':World} (hb:Below w.heap.size w w') (hf:∀a,w'.frozen? a=w.frozen? a):Grown w w':=⟨hb.frame _,hf,hb.size⟩
def Hp (r e:Nat):H:=⟨1,.n .e (.cells (4+(r * 65536+e)) [.undef]) .e,0⟩
def ιp (n:Nat):Inj:=fun b=>if b=0 then some (0,0,n) else none
theorem Hp_get (r e b:Nat):(Hp r e).get b=if b=0 then .cells (4+(r * 65536+e)) [.undef] else .dead:=by
 unfold Hp H.get
 cases b with
 | zero=>rfl
 | succ b=>rw [Tr.get_succ];split <;> rfl
theorem Rel.pinned {r e:Nat} (he:e<65536) {w:World} (hw:w.cell? ⟨0,0,none⟩=some (.iface (r % 65536) (.agg #[.pointer (some ⟨r / 65536,e,none⟩)]))) {c:Array Value} {el:TypeId} {fr:Nat×Nat} (heq:w.heap[0]?=some (.cells c el fr)) (hs:0<c.size):Rel (ιp c.size) (Hp r e) w where
 fresh:=fun b x h=>by
  unfold ιp at h
  split at h
  · subst_vars;exact Nat.one_pos
  · cases h
 lt:=fun b B o s h=>by
  unfold ιp at h
  split at h
  · cases h
    rcases Nat.eq_zero_or_pos w.heap.size with h0 | h0
    · simp [World.cell?,h0] at hw
    · exact h0
  · cases h
 inj:=fun b c B o s o' s' hb hc eb ec=>by
  unfold ιp at eb ec
  split at eb
  · split at ec
    · omega
    · cases ec
  · cases eb
 blk:=fun b hb=>by
  rw [Hp_get] at hb ⊢
  by_cases h0:b=0
  · subst h0
    refine ⟨0,0,c.size,rfl,?_⟩
    rw [if_pos rfl]
    refine ⟨c,el,fr.1,fr.2,heq,rfl,fun i a hi=>?_,fun h=>by omega,fun h=>by omega⟩
    have hi0:i=0:=by
     rcases i with _ | i
     · rfl
     · simp at hi
    subst hi0
    simp at hi
    subst hi
    exact ⟨c[0]'(by omega),by simp [hs],rfl⟩
  · rw [if_neg h0] at hb;exact absurd rfl hb
 pin:=fun b r' e' hp=>by
  rw [Hp_get] at hp
  by_cases h0:b=0
  · subst h0
    rw [if_pos rfl] at hp
    obtain ⟨he',l,hl⟩:=hp
    injection hl with h1 h2
    have:r'=r/\e'=e:=by omega
    obtain ⟨rfl,rfl⟩:=this
    exact ⟨⟨c.size,rfl⟩,by unfold PinR;split <;> first | trivial | exact hw⟩
  · rw [if_neg h0] at hp;exact absurd hp (Blk.dead_free _ _)
theorem zaq5 {w:World} {b:Nat} {v:Value} (h:w.cell? ⟨b,0,none⟩=some v):∃c el fr,w.heap[b]?=some (.cells c el fr)/\0<c.size:=by
 unfold World.cell? at h
 split at h
 · rename_i c el fr heq
   refine ⟨c,el,fr,heq,?_⟩
   rcases Nat.eq_zero_or_pos c.size with h0 | h0
   · simp [h0] at h
   · exact h0
 · cases h
def FUEL:Nat:=2097152
def bodyOf (f:Func):Code:=match f.body with | some c=>c | none=>.skip
def u0 (c:H->Option R):List AV->H->Option R:=fun args h=>match args with | []=>c h | _=>none
theorem zau7 {c:H->Option R} {args:List AV} {h:H} {r:R} (e:u0 c args h=some r):args=[]/\c h=some r:=by
 unfold u0 at e;split at e
 · exact ⟨rfl,e⟩
 · cases e
def u1 (c:AV->H->Option R):List AV->H->Option R:=fun args h=>match args with | [a0]=>c a0 h | _=>none
theorem zafo {c:AV->H->Option R} {args:List AV} {h:H} {r:R} (e:u1 c args h=some r):∃a0,args=[a0]/\c a0 h=some r:=by
 unfold u1 at e;split at e
 · exact ⟨_,rfl,e⟩
 · cases e
def u2 (c:AV->AV->H->Option R):List AV->H->Option R:=fun args h=>match args with | [a0,a1]=>c a0 a1 h | _=>none
theorem zafm {c:AV->AV->H->Option R} {args:List AV} {h:H} {r:R} (e:u2 c args h=some r):∃a0 a1,args=[a0,a1]/\c a0 a1 h=some r:=by
 unfold u2 at e;split at e
 · exact ⟨_,_,rfl,e⟩
 · cases e
def u3 (c:AV->AV->AV->H->Option R):List AV->H->Option R:=fun args h=>match args with | [a0,a1,a2]=>c a0 a1 a2 h | _=>none
theorem zaup {c:AV->AV->AV->H->Option R} {args:List AV} {h:H} {r:R} (e:u3 c args h=some r):∃a0 a1 a2,args=[a0,a1,a2]/\c a0 a1 a2 h=some r:=by
 unfold u3 at e;split at e
 · exact ⟨_,_,_,rfl,e⟩
 · cases e
def u4 (c:AV->AV->AV->AV->H->Option R):List AV->H->Option R:=fun args h=>match args with | [a0,a1,a2,a3]=>c a0 a1 a2 a3 h | _=>none
theorem zaux {c:AV->AV->AV->AV->H->Option R} {args:List AV} {h:H} {r:R} (e:u4 c args h=some r):∃a0 a1 a2 a3,args=[a0,a1,a2,a3]/\c a0 a1 a2 a3 h=some r:=by
 unfold u4 at e;split at e
 · exact ⟨_,_,_,_,rfl,e⟩
 · cases e
def u5 (c:AV->AV->AV->AV->AV->H->Option R):List AV->H->Option R:=fun args h=>match args with | [a0,a1,a2,a3,a4]=>c a0 a1 a2 a3 a4 h | _=>none
theorem zaus {c:AV->AV->AV->AV->AV->H->Option R} {args:List AV} {h:H} {r:R} (e:u5 c args h=some r):∃a0 a1 a2 a3 a4,args=[a0,a1,a2,a3,a4]/\c a0 a1 a2 a3 a4 h=some r:=by
 unfold u5 at e;split at e
 · exact ⟨_,_,_,_,_,rfl,e⟩
 · cases e
def u6 (c:AV->AV->AV->AV->AV->AV->H->Option R):List AV->H->Option R:=fun args h=>match args with | [a0,a1,a2,a3,a4,a5]=>c a0 a1 a2 a3 a4 a5 h | _=>none
theorem zauo {c:AV->AV->AV->AV->AV->AV->H->Option R} {args:List AV} {h:H} {r:R} (e:u6 c args h=some r):∃a0 a1 a2 a3 a4 a5,args=[a0,a1,a2,a3,a4,a5]/\c a0 a1 a2 a3 a4 a5 h=some r:=by
 unfold u6 at e;split at e
 · exact ⟨_,_,_,_,_,_,rfl,e⟩
 · cases e
def u7 (c:AV->AV->AV->AV->AV->AV->AV->H->Option R):List AV->H->Option R:=fun args h=>match args with | [a0,a1,a2,a3,a4,a5,a6]=>c a0 a1 a2 a3 a4 a5 a6 h | _=>none
theorem zauy {c:AV->AV->AV->AV->AV->AV->AV->H->Option R} {args:List AV} {h:H} {r:R} (e:u7 c args h=some r):∃a0 a1 a2 a3 a4 a5 a6,args=[a0,a1,a2,a3,a4,a5,a6]/\c a0 a1 a2 a3 a4 a5 a6 h=some r:=by
 unfold u7 at e;split at e
 · exact ⟨_,_,_,_,_,_,_,rfl,e⟩
 · cases e
def u8 (c:AV->AV->AV->AV->AV->AV->AV->AV->H->Option R):List AV->H->Option R:=fun args h=>match args with | [a0,a1,a2,a3,a4,a5,a6,a7]=>c a0 a1 a2 a3 a4 a5 a6 a7 h | _=>none
theorem zau0 {c:AV->AV->AV->AV->AV->AV->AV->AV->H->Option R} {args:List AV} {h:H} {r:R} (e:u8 c args h=some r):∃a0 a1 a2 a3 a4 a5 a6 a7,args=[a0,a1,a2,a3,a4,a5,a6,a7]/\c a0 a1 a2 a3 a4 a5 a6 a7 h=some r:=by
 unfold u8 at e;split at e
 · exact ⟨_,_,_,_,_,_,_,_,rfl,e⟩
 · cases e
end
end Go.AI
namespace Go.AI
open Go Go.RowKit
noncomputable section
theorem zabt {α:Type} {h:H} {b fl:Nat} {l:List AV} {f:Nat->List AV->Option α} (hb:h.get b = .cells fl l):withCells h b f=f fl l:=by unfold withCells;rw [hb]
theorem zaaq {h:H} {x:Blk} {c:Nat} (hc:c<h.n):(h.push x).get c=h.get c:=by rw [H.get_push,if_neg (by omega)]
theorem zaa5 {h:H} {x:Blk} {c:Nat} (hc:c=h.n):(h.push x).get c=x:=by rw [H.get_push,if_pos hc]
theorem zabn {h:H} {x:Blk} {b c:Nat} (hc:c≠b):(h.set b x).get c=h.get c:=by rw [H.get_set,if_neg hc]
theorem zae3 {h:H} {x:Blk} {b:Nat}:(h.set b x).get b=x:=by rw [H.get_set,if_pos rfl]
theorem zaau {a b:Nat} (h:a<=b):Nat.ble a b=true:=Nat.ble_eq_true_of_le h
theorem zabo {a b:Nat} (h:b<a):Nat.ble a b=false:=by rw [zabp,decide_eq_false_iff_not];omega
theorem zacg {α:Type} {h:H} {b o fl:Nat} {l:List AV} {a:AV} {k:AV->H->Option α} (hb:h.get b = .cells fl l) (ha:nthO l o=some a):aLoad (.ptr b o) h k=k a h:=by
 show withCells h b (fun _ l=>onSome (nthO l o) fun a=>k a h)=_
 rw [zabt hb,ha];rfl
theorem zakg {α:Type} {h:H} {b o fl:Nat} {l:List AV} {v:AV} {k:AV->H->Option α} (hb:h.get b = .cells fl l) (hf:fl<=1) (ho:o<l.length) (hv:v.one1=true) :
 aStore (.ptr b o) v h k=k (.leaf .undef) (h.set b (.cells fl (setNth v l o))):=by
 show withCells h b (fun fl l=>bc (Nat.ble fl 1) (bc (Nat.ble (Nat.succ o) (lenL l)) (bc v.one1 (k (.leaf .undef) (h.set b (.cells fl (setNth v l o)))) none) none) none)=_
 rw [zabt hb,zaau hf,zabd,zaau ho,hv];rfl
theorem zas0 {h:H} {q fl:Nat} {a:AV} {k:AV->H->Option R} (hq:h.get q = .cells fl [a]) :
 aAppend 1 8 (.leaf .nils) (.leaf (.sl q 0 1 1)) h k=k (.osl h.n 0 1 1) (h.push (.cells 0 [a])):=by
 show withCells h q (fun _ l=>bc (Nat.beq (lenL (takeL (Nat.mul 1 1) (dropL 0 l))) (Nat.mul 1 1)) (aApp1 1 8 1 (takeL (Nat.mul 1 1) (dropL 0 l)) (.leaf .nils) h k) none)=_
 rw [zabt hq];rfl
theorem zaoe {h:H} {q fl kb f2 m:Nat} {a:AV} {l:List AV} {k:AV->H->Option R} (hq:h.get q = .cells fl [a]) (hk:h.get kb = .cells f2 l) (hl:l.length=m) (hm:m<1000) (hf:f2<=1) (ha:a.one1=true) :
 aAppend 1 8 (.osl kb 0 m 1) (.leaf (.sl q 0 1 1)) h k=k (.osl h.n 0 (m+1) 1) ((h.set kb .dead).push (.cells f2 (l++[a]))):=by
 show withCells h q (fun _ l=>bc (Nat.beq (lenL (takeL (Nat.mul 1 1) (dropL 0 l))) (Nat.mul 1 1)) (aApp1 1 8 1 (takeL (Nat.mul 1 1) (dropL 0 l)) (.osl kb 0 m 1) h k) none)=_
 rw [zabt hq]
 show withCells h kb (fun fl l=>bc (Nat.beq (lenL (takeL (Nat.mul m 1) (dropL 0 l))) (Nat.mul m 1)) (bc (Nat.ble (Nat.mul (Nat.add m 1) 8) 140737488355328) (bc (Nat.ble (Nat.add m 1) strMax)
  (bc (Nat.beq 1 1) (bc (Nat.ble fl 1) (bc (allOne [a]) (k (.osl h.n 0 (Nat.add m 1) 1) ((h.set kb .dead).push (.cells fl (appA (takeL (Nat.mul m 1) (dropL 0 l)) [a])))) none) none) none) none) none) none)=_
 rw [zabt hk]
 have e1:takeL (Nat.mul m 1) (dropL 0 l)=l:=by rw [takeL_eq,zab1];show List.take (m * 1) (List.drop 0 l)=l;rw [Nat.mul_one,List.drop_zero, <- hl,List.take_length]
 have e2:allOne [a]=true:=by show bc a.one1 true false=true;rw [ha];rfl
 have e3:Nat.mul (Nat.add m 1) 8<=140737488355328:=by show (m+1) * 8<=140737488355328;omega
 have e4:Nat.add m 1<=strMax:=by have:=zaec;show m+1<=strMax;omega
 rw [e1,zabd,hl,show Nat.mul m 1=m from Nat.mul_one m,Nat.beq_refl,zaau e3,zaau e4,zaau hf,e2,zacq]
 rfl
section
variable {α:Type} {h:H} {k:AV->H->Option α}
theorem zabh (a:AV) (l:List AV):hd (a::l)=a:=rfl
theorem zabg (a:AV) (l:List AV):tl (a::l)=l:=rfl
theorem zaa7 (k:Nat):kEq k k=true:=Nat.beq_refl k
theorem zabi (l:List Nat) (n:Nat) (h:H) (k:AV->H->Option R):aLenK 0 (.str l n) h k=k (.int 3 (.ofNat n)) h:=rfl
theorem zabj (f:Int->Int->Bool) (j j':Nat) (a b:Int):aCmpI f (.int j a) (.int j' b) h k=bc (kEq j j') (k (.bool (f a b)) h) none:=rfl
theorem zabw (f:Int->Int->Int) (j j':Nat) (a b:Int):aArith f (.int j a) (.int j' b) h k=bc (kEq j j') (k (.int j (fwrap j (f a b))) h) none:=rfl
theorem zaai (b:Bool) (f:Bool->Option α):withBool (.bool b) f=f b:=rfl
theorem zaco (a b:Nat):ilt (.ofNat a) (.ofNat b)=Nat.ble (Nat.succ a) b:=rfl
theorem zal3 (a b:Nat):ile (.ofNat a) (.ofNat b)=Nat.ble a b:=rfl
theorem zard (a b:Nat):ieq (.ofNat a) (.ofNat b)=Nat.beq a b:=rfl
theorem zau1 (a b:Nat):ilt (.negSucc a) (.ofNat b)=true:=rfl
theorem zauz (a b:Nat):ieq (.negSucc a) (.ofNat b)=false:=rfl
theorem zab8 (w b:Bool) (x y:Option R):guardB w (.bool b) x y=bc (bc b w (bnot w)) x y:=rfl
theorem zadu (w:Bool) (x y:Option R):guardB w (.one .tup (.leaf .nil)) x y=y:=rfl
theorem zaby (b:Bool) (x y:AV):aPick (.bool b) x y h k=bc b (k x h) (k y h):=rfl
theorem aEq_np (j b o:Nat) (hj:j=1):aEq true j (.ptr b o) (.leaf .nilp) h k=k (.bool true) h:=by subst hj;rfl
theorem aEq_ep (b o:Nat):aEq false 1 (.ptr b o) (.leaf .nilp) h k=k (.bool false) h:=rfl
theorem aEq_pp (b o:Nat):aEq true 1 (.ptr b o) (.leaf .nilp) h k=k (.bool true) h:=rfl
theorem aEq_nn:aEq true 1 (.leaf .nilp) (.leaf .nilp) h k=k (.bool false) h:=rfl
theorem aEq_en:aEq false 1 (.leaf .nilp) (.leaf .nilp) h k=k (.bool true) h:=rfl
theorem zacc (l:List Nat) (n j i:Nat):aIdxStr (.str l n) (.int j (.ofNat i)) h k=bc (Nat.ble (Nat.succ i) n) (onSome (nthN l i) fun c=>k (.int 4 (.ofNat c)) h) none:=rfl
theorem zabl {β:Type} (a:β) (f:β->Option α):onSome (some a) f=f a:=rfl
theorem bindR_some' (a:AV) (h:H) (k:AV->H->Option R):bindR (some (a,h)) k=k a h:=rfl
theorem zaaz (b o:Nat):aNilCheck (.ptr b o) h k=k (.ptr b o) h:=rfl
theorem zabc (f b o:Nat):aField f (.ptr b o) h k=k (.ptr b (Nat.add o f)) h:=rfl
theorem zatd (a t:AV):aExtract (.one .tup (.cons a t)) 0 h k=k a h:=rfl
theorem zas8 (a b t:AV):aExtract (.one .tup (.cons a (.cons b t))) 1 h k=k b h:=rfl
theorem zatc (a b c t:AV):aExtract (.one .tup (.cons a (.cons b (.cons c t)))) 2 h k=k c h:=rfl
theorem zacl (a b:Nat) (hab:a+b<=9223372036854775807):fwrap 3 (iadd (.ofNat a) (.ofNat b)) = .ofNat (a+b):=by
 rw [zapi,zadl,kd3]
 show IntKind.i64.wrap ((a:Int)+(b:Int))=((a+b:Nat):Int)
 rw [zafd _ (by omega) (by omega)];omega
end
end
end Go.AI
namespace Go.AI
noncomputable section
def scan:List Nat->Nat->Nat->Bool
 | [],d,m=>Nat.beq d 0
 | c::r,0,m=>false
 | c::r,d+1,m=>bc (Nat.beq c 41) (scan r d m) (bc (Nat.beq c 40) (bc (Nat.ble (m+1) 9) (scan r (d+2) (m+1)) false) false)
def isTree:List Nat->Bool
 | []=>false
 | c::r=>bc (Nat.beq c 40) (scan r 1 1) false
def rests:Nat->Nat->Nat->List (List Nat)
 | 0,d,m=>bc (Nat.beq d 0) [[]] []
 | f+1,0,m=>[[]]
 | f+1,d+1,m=>(rests f d m).map (41 :: ·)++bc (Nat.ble (m+1) 9) ((rests f (d+2) (m+1)).map (40 :: ·)) []
theorem zak6:∀(f:Nat) (l:List Nat) (d m:Nat),m<=9->2 * (9 - m)+d<=f->scan l d m=true->l∈rests f d m
 | 0,[],d,m,_,hf,h=>by
  have:=Nat.eq_of_beq_eq_true h;subst this
  simp [rests,bc_true]
 | 0,c::r,d,m,_,hf,h=>by
  obtain rfl:d=0:=by omega
  cases h
 | f+1,[],d,m,_,hf,h=>by
  have:=Nat.eq_of_beq_eq_true h;subst this
  simp [rests]
 | f+1,c::r,0,m,_,hf,h=>by cases h
 | f+1,c::r,d+1,m,hm,hf,h=>by
  simp only [scan] at h
  simp only [rests]
  cases h41:Nat.beq c 41 with
  | true=>
   rw [h41,bc_true] at h
   have:=Nat.eq_of_beq_eq_true h41;subst this
   exact List.mem_append_left _ (List.mem_map.2 ⟨r,zak6 f r d m hm (by omega) h,rfl⟩)
  | false=>
   rw [h41,zaag] at h
   cases h40:Nat.beq c 40 with
   | false=>rw [h40] at h;cases h
   | true=>
    rw [h40,bc_true] at h
    have:=Nat.eq_of_beq_eq_true h40;subst this
    cases h9:Nat.ble (m+1) 9 with
    | false=>rw [h9] at h;cases h
    | true=>
     rw [h9,bc_true] at h
     have h9':=Nat.le_of_ble_eq_true h9
     exact List.mem_append_right _ (by rw [bc_true];exact List.mem_map.2 ⟨r,zak6 f r (d+2) (m+1) h9' (by omega) h,rfl⟩)
def treesFrom (p:List Nat) (f d m:Nat):List (List Nat):=(rests f d m).map (p ++ ·)
theorem zaub {l:List Nat} (h:isTree l=true):l∈treesFrom [40] 17 1 1:=by
 cases l with
 | nil=>cases h
 | cons c r=>
  simp only [isTree] at h
  cases hc:Nat.beq c 40 with
  | false=>rw [hc] at h;cases h
  | true=>
   rw [hc,bc_true] at h
   have:=Nat.eq_of_beq_eq_true hc;subst this
   exact List.mem_map.2 ⟨r,zak6 17 r 1 1 (by omega) (by omega) h,rfl⟩
def allR (t:List Nat->Bool):Nat->Nat->Nat->(List Nat->List Nat)->Bool:=
 @Nat.rec (fun _=>Nat->Nat->(List Nat->List Nat)->Bool) (fun d _ p=>bc (Nat.beq d 0) (t (p [])) true)
  (fun _ g d m p=>@Nat.rec (fun _=>Bool) (t (p [])) (fun d _=>bc (g d m (fun l=>p (41::l))) (bc (Nat.ble (Nat.succ m) 9) (g (Nat.succ (Nat.succ d)) (Nat.succ m) (fun l=>p (40::l))) true) false) d)
theorem zao0 (t:List Nat->Bool):∀(f d m:Nat) (p:List Nat->List Nat),allR t f d m p=true->∀l∈rests f d m,t (p l)=true
 | 0,d,m,p,h,l,hl=>by
  have h:bc (Nat.beq d 0) (t (p [])) true=true:=h
  simp only [rests] at hl
  cases hd:Nat.beq d 0 with
  | false=>rw [hd,zaag] at hl;cases hl
  | true=>rw [hd,bc_true] at hl h;rw [List.mem_singleton] at hl;subst hl;exact h
 | f+1,0,m,p,h,l,hl=>by
  simp only [rests,List.mem_singleton] at hl;subst hl;exact h
 | f+1,d+1,m,p,h,l,hl=>by
  have h:bc (allR t f d m (fun l=>p (41::l))) (bc (Nat.ble (m+1) 9) (allR t f (d+2) (m+1) (fun l=>p (40::l))) true) false=true:=h
  simp only [rests] at hl
  cases h1:allR t f d m (fun l=>p (41::l)) with
  | false=>rw [h1] at h;cases h
  | true=>
   rw [h1,bc_true] at h
   rcases List.mem_append.1 hl with hl | hl
   · obtain ⟨r,hr,rfl⟩:=List.mem_map.1 hl
     exact zao0 t f d m _ h1 r hr
   · cases h9:Nat.ble (m+1) 9 with
     | false=>rw [h9] at hl;cases hl
     | true=>
      rw [h9,bc_true] at hl h
      obtain ⟨r,hr,rfl⟩:=List.mem_map.1 hl
      exact zao0 t f (d+2) (m+1) _ h r hr
end
end Go.AI
namespace Go.AI
open Go Go.RowKit Go.WideShapes Go.ChangeShapes
theorem post_under {H:Type} {enc:TypeId×Value->H} {P:Program} {f:Func} {s:ChangeSpec} {apart fresh handsOn again:Bool} {W W':World} {args:Array Value} {v:Value} {ds gs:List (DataW H)} {before pa pv:List MemPlace}
 (hW:DataW.Whole enc P f.params.toList s.vars apart W args.toList ds gs before)
 (hres:∀(b:Nat) (sp:Nat->Bool) (hd:Bool),DataW.TrodAll enc P W' b sp hd f.resultTypes.toList (v.resultList f.resultTypes.size) (s.fn H (ds++gs)).results [])
 (hargs:∀sp:Nat->Bool,(∀p∈before,sp p.block=true)->DataW.TrodAll enc P W' 0 sp true f.params.toList args.toList (s.fn H (ds++gs)).args pa)
 (hvars:∀sp:Nat->Bool,(∀p∈before,sp p.block=true)->DataW.TrodVars enc P W' sp s.vars (s.fn H (ds++gs)).vars pv)
 (hps:before=pa++pv) (hb:Below W.heap.size W W')
 (hok:∀(j:Nat) (t:TypeId) (r:Value),f.resultTypes[j]?=some t->(v.resultList f.resultTypes.size)[j]?=some r->Value.okWide P W' .any 0 t r) :
 s.post enc P f apart fresh handsOn again W args v W':=by
 subst hps
 have lt:∀p∈pa++pv,p.block<W.heap.size:=fun p hp=>hW.lt p hp
 have there:∀p∈pa++pv,(fun b=>decide (b<W.heap.size)) p.block=true:=fun p hp=>decide_eq_true (lt p hp)
 refine ⟨ds,gs,pa++pv,[],pa,pv,hW,hres _ _ _,hargs _ there,hvars _ there,World.keptBut_mono (fun p hp=>⟨hp,.inr (List.mem_append.1 hp)⟩) (hb.frame (· ∈ pa++pv)),fun _=>?_⟩
 obtain ⟨_,_,_,_,_,hz,hn⟩:=hW
 refine ⟨hok,_,_,([]++pa)++pv,⟨[]++pa,pv,trodAll_append (hargs _ fun _ _=>rfl) (hres _ _ _),hvars _ fun _ _=>rfl,rfl,fun b off hp=>?_,fun ha=>?_⟩,fun p hp _=>?_⟩
 · have hin:MemPlace.cell b off∈pa++pv:=by simpa using hp
   rw [hb.frozen (lt _ hin)];exact hz b off hin
 · simpa using hn ha
 · simpa using hp
end Go.AI
namespace Go.AI
open Go Go.RowKit
noncomputable section
variable {P:Program}
theorem VL.plain {ι ι':Inj}:∀{xs:List AV} {vs:List Value},(∀a∈xs,a.plain=true)->VL ι xs vs->VL ι' xs vs
 | _,_,_,.nil=>.nil
 | _,_,h,.cons hv hl=>.cons (zac8 (h _ (List.mem_cons_self ..)) hv) (VL.plain (fun a ha=>h a (List.mem_cons_of_mem _ ha)) hl)
theorem Ext.of_below {ι:Inj} {h:H} {w w':World} (r:Rel ι h w) (hb:Below w.heap.size w w'):Ext ι h w ι h w':=
 ⟨.refl _,hb.os,hb.tape,hb.output,hb.size,fun B hB _=>hb.block B hB,fun _ h=>.inl h,Nat.le_refl _,Nat.le_refl _,fun _ _ _=>rfl,
  fun b B o s _ _ _ e=>hb.block _ (r.lt _ _ _ _ e),fun b _ _ _ e=>.inl ⟨b,_,_,e⟩⟩
end
end Go.AI
