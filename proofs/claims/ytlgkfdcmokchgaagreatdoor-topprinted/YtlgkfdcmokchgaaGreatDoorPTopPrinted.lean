/-
  For every input the law TopPrinted returns true, and each argument reads afterwards as it read before; the library's tables (of bits, of powers of ten) and its errors lie as the program's text lays them (tied).
-/
import Derived.Test.YtlgkfdcmokchgaaGreatDoorDyTx
import Derived.Test.YtlgkfdcmokchgaaGreatDoorTo2
set_option maxRecDepth 100000
set_option maxHeartbeats 4000000
namespace Go.Proofs.YtlgkfdcmokchgaaGreatDoor.topPrinted
open Go.ChangeShapes Go.WideShapes Go.ChangeAt Go.RowKit Go.Joins
theorem lifted (os:Os)(started:os.Started)(H:Type)(enc:TypeId×Value→H):
  ReturnsInHanded {} Tryz.checked os 4 .any (fun w args=>(Rows.topPrintedSpec.pre enc Tryz.prog Tryz.f4 [] false w args∧laidMetH Tryz.prog Rows.topDigitsRow.laid w)∧sizedMet enc Tryz.prog Tryz.f4 (OpenSpec.ofChange Rows.topPrintedSpec) false w args)
   (Rows.topPrintedSpec.post enc Tryz.prog Tryz.f4 false true false false):=by
 refine dy.handed_both (C:=Tryz.checked) (X:=fun w _=>laidMetH Tryz.prog Rows.topDigitsRow.laid w) (fun _ _ _ hh h=>h.of_heap hh) dy.own started (by kernel_rfl) Tryz.func4
  (ChangeSpec.witness_shaped (enc:=enc) (C:=Tryz.checked) (os:=os) (X:=fun w _=>laidMetH Tryz.prog Rows.topDigitsRow.laid w) false (World.doorLaid Tryz.prog 400 os) #[yi 0,.string ⟨#[]⟩,yi 0] 8 rfl (World.shaped_of_RefB (by kernel_rfl) (by kernel_rfl)) (by kernel_rfl) (by kernel_rfl) (by kernel_rfl) (dy.door_met os _)) ?_
 intro W base args ds gs before hval0 hW hL hsh;have hval: ∀(j:Nat) t v,Tryz.f4.params[j]? =some t→args[j]? =some v→Value.okWide Tryz.prog W .any base t v:=hval0;have hW':=hW;obtain⟨p,q,hA0,hV,rfl,hfz,hnd⟩:=hW;have hA:DataW.TrodAll enc Tryz.prog W 0 (fun _=>true) true Tryz.f4.params.toList args.toList ds p:=hA0
 rw[Tryz.params4] at hA hval;obtain⟨v0,vs0,d0,ds0,p0,q0,hargs,rfl,rfl,h0,r0⟩:=trodAll_cons hA;obtain⟨v1,vs1,d1,ds1,p1,q1,rfl,rfl,rfl,h1,r1⟩:=trodAll_cons r0;obtain⟨v2,vs2,d2,ds2,p2,q2,rfl,rfl,rfl,h2,r2⟩:=trodAll_cons r1;obtain⟨rfl,rfl,rfl⟩:=trodAll_nil r2;obtain rfl:args= #[v0,v1,v2]:=by cases args;simp_all
 obtain⟨rfl,rfl⟩:=trodVars_none hV;have k0:=h0;have lt0: ∀x∈p0,x.block<W.heap.size:=by obtain⟨m,hm⟩:=k0;exact DataW.trod_lt m _ _ _ hm
 obtain⟨n0,rfl,hn0⟩:=dy.open_int' (hval 0 3 v0 rfl rfl) h0;have k1:=h1;have lt1: ∀x∈p1,x.block<W.heap.size:=by obtain⟨m,hm⟩:=k1;exact DataW.trod_lt m _ _ _ hm
 obtain⟨s1,rfl,-,-,-⟩:=Go.ChangeMaps.open_string Tryz.underlying9 (hval 1 9 v1 rfl rfl) h1;have k2:=h2;have lt2: ∀x∈p2,x.block<W.heap.size:=by obtain⟨m,hm⟩:=k2;exact DataW.trod_lt m _ _ _ hm
 obtain⟨n2,rfl,hn2⟩:=dy.open_int' (hval 2 3 v2 rfl rfl) h2;have hT:=dy.tx_of_laid hL hsh;clear hA0 hval0;refine(topPrinted_walk n0 s1 n2 W hT).mono fun z W' ⟨he,bel⟩=> ?_
 subst he;exact⟨_,rfl,_,_,_,[],_,[],hW',trodAll_mk1 (shut_bool Tryz.underlying4 _),(trodAll_cons_mk (Below.trod dy.laidOut (by kernel_rfl) (of_decide_eq_true (by kernel_rfl)) k0 bel lt0) (trodAll_cons_mk (Below.trod dy.laidOut (by kernel_rfl) (of_decide_eq_true (by kernel_rfl)) k1 bel lt1) (trodAll_cons_mk (Below.trod dy.laidOut (by kernel_rfl) (of_decide_eq_true (by kernel_rfl)) k2 bel lt2) trodAll_mk0))),rfl,bel.frame _,fun h=>by cases h⟩
theorem closed:joinedFacts Tryz.prog 4 Tryz.f4 Rows.topPrintedSpec Rows.topPrintedRow=true:=by
 unfold joinedFacts
 repeat' (with_reducible (refine dy.and_mk ?_ ?_))
 all_goals (first| (with_reducible (exact dy.enter_is))| (rw[dy.final_is];kernel_rfl)| (rw[dy.make_is];kernel_rfl)| (as_aux_lemma=>kernel_rfl))
theorem over:Rows.topPrintedRow.holds Tryz.pinned (OpenSpec.ofChange Rows.topPrintedSpec):=
 OpenClaim.holds_of_wide 4 Tryz.f4 rfl rfl rfl rfl rfl rfl rfl ⟨rfl,rfl,rfl,rfl,rfl⟩ rfl rfl rfl rfl rfl (by kernel_rfl) Tryz.func4 closed
  (of_decide_eq_true (by kernel_rfl)) (by unfold Func.isWrapper;first| (rw[if_pos (by decide+kernel)];kernel_rfl)| (rw[if_neg (by decide+kernel)];exact⟨rfl,rfl⟩))
  (fun os started H enc _=>lifted os started H enc)
theorem card:Rows.TopPrintedCardSaid:=
 Claim7.holds_tied_plain_at .later [] [.data,.data,.data,.sentinel,.sentinel] true Rows.topPrintedCard.stood.harness true
  over (fun _ h=>by cases h) (by kernel_rfl) (fun _ h=>by cases h) topPrinted_row_tie rfl ⟨rfl,rfl⟩ dy.main_is rfl
  (fun f fn hf hfn=>by
   obtain rfl:f=4:=Option.some.inj ((show Tryz.prog.funcNamed Rows.topPrintedRow.func=some 4 by kernel_rfl).symm.trans hf)|>.symm
   obtain rfl:fn=Tryz.f4:=(Option.some.inj (Tryz.func4.symm.trans hfn)).symm;exact⟨by kernel_rfl,fun j t ht=>by
    rw[Tryz.params4] at ht;have hm:t∈[3,9,3]:=by simpa using Array.mem_of_getElem? ht
    have hall:([3,9,3].all fun u=> !Tryz.prog.wantsStandIn u)=true:=by kernel_rfl
    exact(show Tryz.prog.wantsStandIn t=false from by have:=List.all_eq_true.1 hall t hm;simpa using this)⟩)
  (by kernel_rfl)
end Go.Proofs.YtlgkfdcmokchgaaGreatDoor.topPrinted
namespace Go.Proofs.YtlgkfdcmokchgaaGreatDoor
theorem topPrinted_holds:Rows.TopPrintedCardSaid:=topPrinted.card
#print axioms topPrinted_holds
end Go.Proofs.YtlgkfdcmokchgaaGreatDoor
