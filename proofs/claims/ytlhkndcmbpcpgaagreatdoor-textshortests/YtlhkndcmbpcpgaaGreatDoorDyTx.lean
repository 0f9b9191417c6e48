/-
  What a tied card of text needs: what its laid variables hold, and the search's bound.
-/
import Derived.HandedShaped
import Derived.Shelf.Strings.Shaped
import Derived.Test.YtlhkndcmbpcpgaaGreatDoorXs21
namespace Go.Proofs.YtlhkndcmbpcpgaaGreatDoor.dy
open Go.Shelf Go.ChangeShapes Go.WideShapes Go.ChangeAt Go.RowKit Go.Joins
shelf_lay LaysM.n145 Nm 145 at Tryz as laysX
theorem cellsU64:Tryz.prog.cellsOf 132=1:=by kernel_rfl
theorem adq:Tryz.prog.cellsOf 247=20:=by kernel_rfl
theorem tPow:((Tryz.prog.globalNamed powN).bind fun g=>(Tryz.prog.globals[g]?).map (·.type))=some 247:=by kernel_rfl
theorem pow_of_laid {W:World}(h:laidMetH Tryz.prog Rows.textShortestsRow.laid W):Lib.TabIs Tryz.prog W powN .u64 Lib.pow10Tab:=by
 rw[MakeChecks.laidMetH_plain _ _ _ (by kernel_rfl)] at h;obtain⟨ps,⟨g0,t0,cs0,f0,p0,q0,hg0,ht0,hv0,hd0,⟨g1,t1,cs1,f1,p1,q1,hg1,ht1,hv1,hd1,⟨g2,t2,cs2,f2,p2,q2,hg2,ht2,hv2,hd2,_⟩,_⟩,_⟩,_⟩:=h;have hg:Tryz.prog.globalNamed powN=some g2:=hg2;have ht:=tPow;rw[hg,Option.bind_some] at ht;obtain rfl:=Option.some.inj (ht.symm.trans ht2);unfold Lib.TabIs;have hc:=Lib.cells_of_tab (zs:=Lib.pow10Tab) Tryz.underlying247 Tryz.underlying132 cellsU64 adq hd2;have hv:W.var? Tryz.prog powN=some cs2:=hv2;rw[hv,←hc]
theorem bound_is:laysX_ren.g 1=lays145_ren.g 1:=by kernel_rfl
theorem tx_of_laid {W:World}(h:laidMetH Tryz.prog Rows.textShortestsRow.laid W)(hs:W.ShapedOpen Tryz.prog):TxW W:=by
 refine⟨tab_of_laid h, ?_,pow_of_laid h⟩;obtain⟨m,hm⟩:=laysX.s1_3 W hs;rw[bound_is] at hm;exact⟨m,hm⟩
theorem handed_both {H:Type}{enc:TypeId×Value→H}{a:Assume}{C:Checked}{os:Os}{f:FuncId}{fn:Func}{s:ChangeSpec}{conds:List PathCond}{apart fresh handsOn again:Bool}{X:World→Array Value→Prop}
  (hX: ∀(w w':World) (args:Array Value),w.heap=w'.heap→X w args→X w' args)
  (own:ownKnob C.prog.godebug=none) (started:os.Started) (noInit:C.prog.inits.idxOf? f=none) (hfn:C.prog.funcs[f]? =some fn)
  (witness: ∃(w:World) (tape:Tape) (i:Input),w.os=os∧(w.forCall tape i).Shaped C.prog∧i.vars=[]∧Input.okWide C.prog (w.forCall tape i) .any w.heap.size f i∧
   ((s.pre enc C.prog fn conds apart (w.forCall tape i).memory i.args∧X (w.forCall tape i).memory i.args)∧sizedMet enc C.prog fn (OpenSpec.ofChange s) apart (w.forCall tape i).memory i.args)∧a.holds C.prog (lone (Frame.enter C.prog f i.args .normal) [] (w.forCall tape i)))
  (contract: ∀(W:World) (base:Nat) (args:Array Value) (ds gs:List (DataW H)) (before:List MemPlace),
   (∀(j:Nat) t v,fn.params[j]? =some t→args[j]? =some v→Value.okWide C.prog W .any base t v)→
   DataW.Whole enc C.prog fn.params.toList s.vars apart W args.toList ds gs before→X W args→W.ShapedOpen C.prog→
   Calls C.prog f args W fun e W'=> ∃v,e= .returned v∧s.post enc C.prog fn apart fresh handsOn again W args v W'):
  ReturnsInHanded a C os f .any (fun w args=>(s.pre enc C.prog fn conds apart w args∧X w args)∧sizedMet enc C.prog fn (OpenSpec.ofChange s) apart w args) (s.post enc C.prog fn apart fresh handsOn again):=by
 refine returnsInHanded_of_calls own started noInit witness ?_;intro w tape i _ hsh _ hok hpre _;obtain⟨_,_,_,fn',hfn',_,_,_,_,hval⟩:=hok;have e:fn'=fn:=Option.some.inj (hfn'.symm.trans hfn);subst e;obtain⟨⟨⟨ds,gs,before,hw,_⟩,hx⟩,_⟩:=hpre;have hw':=DataW.Whole.of_heap (w':=w.forCall tape i) (by rfl) hw;refine(contract (w.forCall tape i) w.heap.size i.args ds gs before hval hw' (hX _ _ _ (by rfl) hx) hsh).mono fun e W' hv=> ?_
 obtain⟨v,he,hp⟩:=hv;subst he;exact ChangeSpec.post_blind hp
end Go.Proofs.YtlhkndcmbpcpgaaGreatDoor.dy
