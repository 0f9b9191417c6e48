/-
  For every input the law SeriesSums returns true, and each argument reads afterwards as it read before; the library's table of bits lies as the program's text lays it (tied).
-/
import Derived.Test.YtiakgfmlpdfhdaaDoorRows
import Derived.Test.YtiakgfmlpdfhdaaDoorTie
import Derived.Test.YtiakgfmlpdfhdaaDoorCards
import Derived.Test.YtiakgfmlpdfhdaaDoorSy04
set_option maxRecDepth 100000
set_option maxHeartbeats 4000000
namespace Go.Proofs.YtiakgfmlpdfhdaaDoor.seriesSums
open Go.ChangeShapes Go.WideShapes Go.ChangeAt Go.RowKit Go.Joins
theorem lifted (os:Os)(started:os.Started)(H:Type)(enc:TypeId×Value→H):
  ReturnsInHanded {} Tryd.checked os 5 .any (fun w args=>(Rows.seriesSumsSpec.pre enc Tryd.prog Tryd.f5 [] false w args∧laidMetH Tryd.prog Rows.seriesPisRow.laid w)∧sizedMet enc Tryd.prog Tryd.f5 (OpenSpec.ofChange Rows.seriesSumsSpec) false w args)
   (Rows.seriesSumsSpec.post enc Tryd.prog Tryd.f5 false true false false):=by
 refine returnsInHanded_of_change_and (C:=Tryd.checked) (X:=fun w _=>laidMetH Tryd.prog Rows.seriesPisRow.laid w) (fun _ _ _ hh h=>h.of_heap hh) dy.own started (by kernel_rfl) Tryd.func5
  (ChangeSpec.witness_shaped (enc:=enc) (C:=Tryd.checked) (os:=os) (X:=fun w _=>laidMetH Tryd.prog Rows.seriesPisRow.laid w) false (World.doorLaid Tryd.prog 400 os) #[yi 0,yi 0] 8 rfl (World.shaped_of_RefB (by kernel_rfl) (by kernel_rfl)) (by kernel_rfl) (by kernel_rfl) (by kernel_rfl) (dy.door_met os _)) ?_
 intro W base args ds gs before hval0 hW _ _ hL _;have hval: ∀(j:Nat) t v,Tryd.f5.params[j]? =some t→args[j]? =some v→Value.okWide Tryd.prog W .any base t v:=hval0;have hW':=hW;obtain⟨p,q,hA0,hV,rfl,hfz,hnd⟩:=hW;have hA:DataW.TrodAll enc Tryd.prog W 0 (fun _=>true) true Tryd.f5.params.toList args.toList ds p:=hA0
 rw[Tryd.params5] at hA hval;obtain⟨v0,vs0,d0,ds0,p0,q0,hargs,rfl,rfl,h0,r0⟩:=trodAll_cons hA;obtain⟨v1,vs1,d1,ds1,p1,q1,rfl,rfl,rfl,h1,r1⟩:=trodAll_cons r0;obtain⟨rfl,rfl,rfl⟩:=trodAll_nil r1;obtain rfl:args= #[v0,v1]:=by cases args;simp_all
 obtain⟨rfl,rfl⟩:=trodVars_none hV;have k0:=h0;have lt0: ∀x∈p0,x.block<W.heap.size:=by obtain⟨m,hm⟩:=k0;exact DataW.trod_lt m _ _ _ hm
 obtain⟨n0,rfl,hn0⟩:=dy.open_int' (hval 0 3 v0 rfl rfl) h0;have k1:=h1;have lt1: ∀x∈p1,x.block<W.heap.size:=by obtain⟨m,hm⟩:=k1;exact DataW.trod_lt m _ _ _ hm
 obtain⟨n1,rfl,hn1⟩:=dy.open_int' (hval 1 3 v1 rfl rfl) h1;have hT:=dy.tab_of_laid hL;clear hA0 hval0;refine(seriesSums_walk n0 n1 W hT).mono fun z W' ⟨he,bel⟩=> ?_
 subst he;exact⟨_,rfl,_,_,_,[],_,[],hW',trodAll_mk1 (shut_bool Tryd.underlying4 _),(trodAll_cons_mk (Below.trod dy.laidOut (by kernel_rfl) (of_decide_eq_true (by kernel_rfl)) k0 bel lt0) (trodAll_cons_mk (Below.trod dy.laidOut (by kernel_rfl) (of_decide_eq_true (by kernel_rfl)) k1 bel lt1) trodAll_mk0)),rfl,bel.frame _,fun h=>by cases h⟩
theorem closed:joinedFacts Tryd.prog 5 Tryd.f5 Rows.seriesSumsSpec Rows.seriesSumsRow=true:=by
 unfold joinedFacts
 repeat' (with_reducible (refine dy.and_mk ?_ ?_))
 all_goals (first| (with_reducible (exact dy.enter_is))| (rw[dy.final_is];kernel_rfl)| (rw[dy.make_is];kernel_rfl)| (as_aux_lemma=>kernel_rfl))
theorem over:Rows.seriesSumsRow.holds Tryd.pinned (OpenSpec.ofChange Rows.seriesSumsSpec):=
 OpenClaim.holds_of_wide 5 Tryd.f5 rfl rfl rfl rfl rfl rfl rfl ⟨rfl,rfl,rfl,rfl,rfl⟩ rfl rfl rfl rfl rfl (by kernel_rfl) Tryd.func5 closed
  (of_decide_eq_true (by kernel_rfl)) (by unfold Func.isWrapper;first| (rw[if_pos (by decide+kernel)];kernel_rfl)| (rw[if_neg (by decide+kernel)];exact⟨rfl,rfl⟩))
  (fun os started H enc _=>lifted os started H enc)
theorem card:Rows.SeriesSumsCardSaid:=
 Claim7.holds_tied_plain_at .later [] [.data] true Rows.seriesSumsCard.stood.harness false
  over (fun _ h=>by cases h) (by kernel_rfl) (fun _ h=>by cases h) seriesSums_row_tie rfl ⟨rfl,rfl⟩ dy.main_is rfl
  (fun f fn hf hfn=>by
   obtain rfl:f=5:=Option.some.inj ((show Tryd.prog.funcNamed Rows.seriesSumsRow.func=some 5 by kernel_rfl).symm.trans hf)|>.symm
   obtain rfl:fn=Tryd.f5:=(Option.some.inj (Tryd.func5.symm.trans hfn)).symm;exact⟨by kernel_rfl,fun j t ht=>by
    rw[Tryd.params5] at ht;have hm:t∈[3,3]:=by simpa using Array.mem_of_getElem? ht
    have hall:([3,3].all fun u=> !Tryd.prog.wantsStandIn u)=true:=by kernel_rfl
    exact(show Tryd.prog.wantsStandIn t=false from by have:=List.all_eq_true.1 hall t hm;simpa using this)⟩)
  (by kernel_rfl)
end Go.Proofs.YtiakgfmlpdfhdaaDoor.seriesSums
namespace Go.Proofs.YtiakgfmlpdfhdaaDoor
theorem seriesSums_holds:Rows.SeriesSumsCardSaid:=seriesSums.card
#print axioms seriesSums_holds
end Go.Proofs.YtiakgfmlpdfhdaaDoor
