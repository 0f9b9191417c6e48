/-
  For every input the law SeriesMachin returns true, and each argument reads afterwards as it read before; the library's table of bits lies as the program's text lays it (tied).
-/
import Derived.Test.YtiakgfmlpdfhdaaGreatDoorDyCs
import Derived.Test.YtiakgfmlpdfhdaaGreatDoorSb2
set_option maxRecDepth 100000
set_option maxHeartbeats 4000000
namespace Go.Proofs.YtiakgfmlpdfhdaaGreatDoor.seriesMachin
open Go.ChangeShapes Go.WideShapes Go.ChangeAt Go.RowKit Go.Joins
theorem lifted (os:Os)(started:os.Started)(H:Type)(enc:TypeId×Value→H):
  ReturnsInHanded {} Tryz.checked os 4 .any (fun w args=>(Rows.seriesMachinSpec.pre enc Tryz.prog Tryz.f4 [] false w args∧laidMetH Tryz.prog Rows.seriesBracketsRow.laid w)∧sizedMet enc Tryz.prog Tryz.f4 (OpenSpec.ofChange Rows.seriesMachinSpec) false w args)
   (Rows.seriesMachinSpec.post enc Tryz.prog Tryz.f4 false true false false):=by
 refine returnsInHanded_of_change_and (C:=Tryz.checked) (X:=fun w _=>laidMetH Tryz.prog Rows.seriesBracketsRow.laid w) (fun _ _ _ hh h=>h.of_heap hh) dy.own started (by kernel_rfl) Tryz.func4
  (ChangeSpec.witness_shaped (enc:=enc) (C:=Tryz.checked) (os:=os) (X:=fun w _=>laidMetH Tryz.prog Rows.seriesBracketsRow.laid w) false (World.doorLaid Tryz.prog 400 os) #[yi 0] 8 rfl (World.shaped_of_RefB (by kernel_rfl) (by kernel_rfl)) (by kernel_rfl) (by kernel_rfl) (by kernel_rfl) (dy.door_met os _)) ?_
 intro W base args ds gs before hval0 hW _ _ hL _;have hval: ∀(j:Nat) t v,Tryz.f4.params[j]? =some t→args[j]? =some v→Value.okWide Tryz.prog W .any base t v:=hval0;have hW':=hW;obtain⟨p,q,hA0,hV,rfl,hfz,hnd⟩:=hW;have hA:DataW.TrodAll enc Tryz.prog W 0 (fun _=>true) true Tryz.f4.params.toList args.toList ds p:=hA0
 rw[Tryz.params4] at hA hval;obtain⟨v0,vs0,d0,ds0,p0,q0,hargs,rfl,rfl,h0,r0⟩:=trodAll_cons hA;obtain⟨rfl,rfl,rfl⟩:=trodAll_nil r0;obtain rfl:args= #[v0]:=by cases args;simp_all
 obtain⟨rfl,rfl⟩:=trodVars_none hV;have k0:=h0;have lt0: ∀x∈p0,x.block<W.heap.size:=by obtain⟨m,hm⟩:=k0;exact DataW.trod_lt m _ _ _ hm
 obtain⟨n0,rfl,hn0⟩:=dy.open_int' (hval 0 3 v0 rfl rfl) h0;have hb: -9223372036854775808≤n0∧n0≤9223372036854775807:=by
  have h1:=hn0;unfold Lit.wf at h1;rw[Bool.and_eq_true,decide_eq_true_eq,decide_eq_true_eq] at h1;exact h1
 have hT:=dy.tab_of_laid hL;clear hA0 hval0;refine(seriesMachin_walk n0 W hb.1 hb.2 hT).mono fun z W' ⟨he,bel⟩=> ?_
 subst he;exact⟨_,rfl,_,_,_,[],_,[],hW',trodAll_mk1 (shut_bool Tryz.underlying4 _),(trodAll_cons_mk (Below.trod dy.laidOut (by kernel_rfl) (of_decide_eq_true (by kernel_rfl)) k0 bel lt0) trodAll_mk0),rfl,bel.frame _,fun h=>by cases h⟩
theorem closed:joinedFacts Tryz.prog 4 Tryz.f4 Rows.seriesMachinSpec Rows.seriesMachinRow=true:=by
 unfold joinedFacts
 repeat' (with_reducible (refine dy.and_mk ?_ ?_))
 all_goals (first| (with_reducible (exact dy.enter_is))| (rw[dy.final_is];kernel_rfl)| (rw[dy.make_is];kernel_rfl)| (as_aux_lemma=>kernel_rfl))
theorem over:Rows.seriesMachinRow.holds Tryz.pinned (OpenSpec.ofChange Rows.seriesMachinSpec):=
 OpenClaim.holds_of_wide 4 Tryz.f4 rfl rfl rfl rfl rfl rfl rfl ⟨rfl,rfl,rfl,rfl,rfl⟩ rfl rfl rfl rfl rfl (by kernel_rfl) Tryz.func4 closed
  (of_decide_eq_true (by kernel_rfl)) (by unfold Func.isWrapper;first| (rw[if_pos (by decide+kernel)];kernel_rfl)| (rw[if_neg (by decide+kernel)];exact⟨rfl,rfl⟩))
  (fun os started H enc _=>lifted os started H enc)
theorem card:Rows.SeriesMachinCardSaid:=
 Claim7.holds_tied_plain_at .later [] [.data] true Rows.seriesMachinCard.stood.harness false
  over (fun _ h=>by cases h) (by kernel_rfl) (fun _ h=>by cases h) seriesMachin_row_tie rfl ⟨rfl,rfl⟩ dy.main_is rfl
  (fun f fn hf hfn=>by
   obtain rfl:f=4:=Option.some.inj ((show Tryz.prog.funcNamed Rows.seriesMachinRow.func=some 4 by kernel_rfl).symm.trans hf)|>.symm
   obtain rfl:fn=Tryz.f4:=(Option.some.inj (Tryz.func4.symm.trans hfn)).symm;exact⟨by kernel_rfl,fun j t ht=>by
    rw[Tryz.params4] at ht;have hm:t∈[3]:=by simpa using Array.mem_of_getElem? ht
    have hall:([3].all fun u=> !Tryz.prog.wantsStandIn u)=true:=by kernel_rfl
    exact(show Tryz.prog.wantsStandIn t=false from by have:=List.all_eq_true.1 hall t hm;simpa using this)⟩)
  (by kernel_rfl)
end Go.Proofs.YtiakgfmlpdfhdaaGreatDoor.seriesMachin
namespace Go.Proofs.YtiakgfmlpdfhdaaGreatDoor
theorem seriesMachin_holds:Rows.SeriesMachinCardSaid:=seriesMachin.card
#print axioms seriesMachin_holds
end Go.Proofs.YtiakgfmlpdfhdaaGreatDoor
