/-
  Texts laid together: As8.
-/
import Derived.Test.YtnhackdjplppjaaGreatDoorSp26
set_option maxRecDepth 100000
namespace Go.Proofs.YtnhackdjplppjaaGreatDoor
open Go.RowKit
theorem OpsV.off {w w':World} {n:Int} {ps:List ByteArray} {g cap b:Nat} {ty:TypeId} {vs:List Value} (h:OpsV w n ps g cap) (bu:But b w w') (hl:LocE w b ty vs) (hu: ∀x∈vs,∀k:Int,x≠ .int .u32 k) (hg:g≠b):OpsV w' n ps g cap:=
 ⟨h.fit,h.most,fun i p hp=>by
  obtain⟨so,sc,h1,h2⟩:=h.each i p hp;exact⟨so,sc,fun j v hj=>by rw[bu.cell (by exact hg)];exact h1 j v hj,bu.rd h2 (rd_offU h2 hl hu)⟩⟩
set_option maxHeartbeats 6400000 in
theorem add1_W (n wy fam R D L G cx cy c fl:Int) (gr gx gy gg:Bool) (x y t:Trip) (xo yo:Option Addr) (xc yc g cap:Nat) (w:World)
  (h0:w.rangeAt g 0 (yOL cx gx x xo xc)) (h1:w.rangeAt g 5 (yOL cy gy y yo yc))
  (HS: ∀w1,Below w.heap.size w w1→Calls Tryz.prog 55 #[ykV n wy fam R D L G gr,yOV cx gx x xo xc,yOV cy gy y yo yc] w1 (OpRes2 w1 c gg t fl)):
  Calls Tryz.prog 54 #[ykV n wy fam R D L G gr,.slice (some ⟨g,0,none⟩) 2 cap] w (OpRes2 w c gg t fl):=by
 replace HS:Hid _:=HS;have a1:=below_alloc w (.cells (ykL n wy fam R D L G gr).toArray 93);have a2:=below_alloc (w.alloc (.cells (ykL n wy fam R D L G gr).toArray 93)) (.cells (yoL 0 false false (.slice none 0 0) 0).toArray 98);have d0:=(locE_new w (ykL n wy fam R D L G gr) 93).later a2;have o0:=locE_new (w.alloc (.cells (ykL n wy fam R D L G gr).toArray 93)) (yoL 0 false false (.slice none 0 0) 0) 98;rw[World.size_alloc] at o0;have b0:=below_trans a1 a2;have hgl:g<w.heap.size:=World.block_lt_of_cell? w _ (h0 0 _ rfl);have k0:=range_later h0 b0;have k1:=range_later h1 b0;clear a1 a2 h0 h1
 go_enter Tryz.func54,Tryz.ntmps54
 go_upto_region 1 with fail
 generalize(w.alloc (.cells (ykL n wy fam R D L G gr).toArray 93)).alloc (.cells (yoL 0 false false (.slice none 0 0) 0).toArray 98)=W0 at d0 o0 b0 k0 k1⊢;have bW:Below W0.heap.size W0 W0.drew:=(Below.refl _ _).drew;have d1:=d0.later bW;have o1:=o0.later bW;have b1:=below_trans b0 bW;have r0:=range_later k0 bW;have r1:=range_later k1 bW;clear bW d0 o0 b0 k0 k1;refine wp_region_held_drew (S:=fun wq=>wq.rangeAt w.heap.size 0 (ykL n wy fam R D L G gr)∧wq.rangeAt g 0 (yOL cx gx x xo xc)∧wq.rangeAt g 5 (yOL cy gy y yo yc)) (by kernel_rfl) ⟨d1.range,r0,r1⟩ (fun hS0=> ?_)
 generalize W0.drew=WD at d1 o1 b1 r0 r1 hS0⊢;refine wpAnyH_take (i:=0) (v:=(ykV n wy fam R D L G gr)) rfl (by kernel_rfl) (by kernel_rfl) (by kernel_rfl) (fun _ _ _ h=>h) (Or.inl ⟨by kernel_rfl,fun w0 hw0=>xrow 93 (.tmp 2) rfl w.heap.size 0 (by kernel_rfl) _ _ hw0.1 Tryz.underlying93 rfl (by kernel_rfl)⟩) hS0 ?_
 refine wpAnyH_take (i:=1) (v:= .slice (some ⟨g,0,none⟩) 2 cap) rfl (by kernel_rfl) (by kernel_rfl) (by kernel_rfl) (fun _ _ _ h=>h) (Or.inl ⟨by kernel_rfl,fun w0 _=>by kernel_rfl⟩) hS0 ?_
 refine wpAnyH_take (i:=2) (v:= .pointer (some ⟨g,0,none⟩)) rfl (by kernel_rfl) (by kernel_rfl) (by kernel_rfl) (fun _ _ _ h=>h) (Or.inl ⟨by kernel_rfl,fun w0 _=>by kernel_rfl⟩) hS0 ?_
 refine wpAnyH_take (i:=3) (v:=(yOV cx gx x xo xc)) rfl (by kernel_rfl) (by kernel_rfl) (by kernel_rfl) (fun _ _ _ h=>h) (Or.inl ⟨by kernel_rfl,fun w0 hw0=>xrow 98 (.tmp 8) rfl g 0 (by kernel_rfl) _ _ hw0.2.1 Tryz.underlying98 rfl (by kernel_rfl)⟩) hS0 ?_
 refine wpAnyH_take (i:=4) (v:= .slice (some ⟨g,0,none⟩) 2 cap) rfl (by kernel_rfl) (by kernel_rfl) (by kernel_rfl) (fun _ _ _ h=>h) (Or.inl ⟨by kernel_rfl,fun w0 _=>by kernel_rfl⟩) hS0 ?_
 refine wpAnyH_take (i:=5) (v:= .pointer (some ⟨g,5,none⟩)) rfl (by kernel_rfl) (by kernel_rfl) (by kernel_rfl) (fun _ _ _ h=>h) (Or.inl ⟨by kernel_rfl,fun w0 _=>by kernel_rfl⟩) hS0 ?_
 refine wpAnyH_take (i:=6) (v:=(yOV cy gy y yo yc)) rfl (by kernel_rfl) (by kernel_rfl) (by kernel_rfl) (fun _ _ _ h=>h) (Or.inl ⟨by kernel_rfl,fun w0 hw0=>xrow 98 (.tmp 11) rfl g 5 (by kernel_rfl) _ _ hw0.2.2 Tryz.underlying98 rfl (by kernel_rfl)⟩) hS0 ?_
 refine wpAnyH_ready (rs:=[7]) (by kernel_rfl) (by simp) ?_;refine AllReadyH.cons rfl (fun K hK=> ?_) AllReadyH.nil
 go_simp
 refine(HS.out _ b1).mono ?_;rintro z w2 ⟨u,rfl,q2,b2⟩;obtain⟨ro,rc,hu⟩:=q2.shape;subst hu;have d2:=d1.later b2;have o2:=o1.later b2;have b02:=below_trans b1 b2;have s0:=range_later r0 b2;have s1:=range_later r1 b2;refine hK.out _ _ ⟨d2.range,s0,s1⟩ (fun hS7=> ?_)
 clear hK K d1 o1 b1 r0 r1 b2 HS;have bu:But (w.heap.size+1) w2 (w2.setCells (w.heap.size+1) 0 (yOL c gg t ro rc)):=but_sets _ _ _ _;have bR:=bu.below b02 (by omega);have rR:=bu.rd q2 (rd_offU q2 o2 (by simp));have hth:w2.there (w.heap.size+1) 0 5:=there_of o2;have hl:=run_loadVar_mid (P:=Tryz.prog) _ (w.heap.size+1) 0 98 (yOL c gg t ro rc) _ (World.rangeAt_setCells_same w2 (w.heap.size+1) 0 (yOL c gg t ro rc) hth) Tryz.underlying98 rfl (by kernel_rfl);have hg:g≠w.heap.size+1:=by omega
 have HH:Hid (_∧_∧_):=⟨hl,rR,bR⟩;refine wpAnyH_take (i:=8) (v:=(yOV c gg t ro rc)) rfl (by kernel_rfl) (by kernel_rfl) (by kernel_rfl) (fun _ _ _ h=>h) (Or.inl ⟨by kernel_rfl,fun w0 _=>by go_simp⟩) hS7 ?_
 refine wpAnyH_take (i:=9) (v:=yi fl) rfl (by kernel_rfl) (by kernel_rfl) (by kernel_rfl) (fun _ _ _ h=>h) (Or.inl ⟨by kernel_rfl,fun w0 _=>by go_simp⟩) hS7 ?_
 refine wpAnyH_ready (rs:=[10]) (by kernel_rfl) (by simp) ?_;refine AllReadyH.cons rfl (fun K hK=> ?_) AllReadyH.nil
 rw[if_pos (by kernel_rfl)];refine wp_store_mid 98 (.tmp 4) (.tmp 14) rfl (w.heap.size+1) 0 (yOL c gg t ro rc).toArray (by kernel_rfl) (by kernel_rfl) hth (by kernel_rfl) (by simp[Value.oneCell']) ?_;refine hK.out _ _ ⟨(bu.loc d2 (by omega)).range,World.rangeAt_setCells_apart s0 _ _ _ (.inl hg),World.rangeAt_setCells_apart s1 _ _ _ (.inl hg)⟩ (fun hS10=> ?_)
 clear hK K;refine wpAnyH_take (i:=11) (v:=yi fl) rfl (by kernel_rfl) (by kernel_rfl) (by kernel_rfl) (fun _ _ _ h=>h) (Or.inl ⟨by kernel_rfl,fun w0 _=>by go_simp⟩) hS10 ?_
 refine wpAnyH_done (by kernel_rfl) ?_ _;obtain⟨hl,rR,bR⟩:=HH.out;clear HH hS0 hS7 hS10 d2 o2 b02 s0 s1 bu hth q2;change Exit.then _ _ _ _ (World.setCells w2 (w.heap.size+1) 0 (yOL c gg t ro rc));generalize World.setCells w2 (w.heap.size+1) 0 (yOL c gg t ro rc)=WE at hl rR bR⊢;simp only[Act.put,List.getElem_toArray,List.getElem_cons_succ,List.getElem_cons_zero,List.setIfInBounds_toArray,List.set_cons_zero,List.set_cons_succ]
 go_wp2
 exact bodyPost_ret (results_two Tryz.results54 rfl rfl hl) rfl ⟨_,rfl,rR,bR⟩
set_option maxHeartbeats 6400000 in
theorem reckon_ok (n R D L G fam way c fl f1 e1:Int) (gr gg:Bool) (t:Trip) (F m:Nat) (ps:List ByteArray) (pb:Nat) (st:ByteArray) (w:World) (hw1:1≤way) (hw2:way≤5) (hm:ps.length=m) (hm3:m≤3) (hm0:1≤m) (hE:errL n ps=0) (hN:ps.any (noNum n)=false) (hp:LocE w pb 9 (ps.map Value.string)) (hfn: ∀args W,(callFunc F args).run Tryz.prog W= .ok (.enter F args) W)
  (HD: ∀w1,Calls Tryz.prog 80 #[yi n] w1 fun z w'=>z= .returned (.tuple #[ykV n 0 fam R D L G gr,yi 0])∧Below w1.heap.size w1 w')
  (HO: ∀w1,Below w.heap.size w w1→LocE w1 pb 9 (ps.map Value.string)→Calls Tryz.prog 81 #[ykV n 0 fam R D L G gr,.slice (some ⟨pb,0,none⟩) m m] w1 (OpsRes w1 n ps))
  (HF: ∀g cap w1,Below w.heap.size w w1→OpsV w1 n ps g cap→Calls Tryz.prog F #[ykV n way fam R D L G gr,.slice (some ⟨g,0,none⟩) m cap] w1 (OpRes2 w1 c gg t fl))
  (HA: ∀ro rc w1,Below w.heap.size w w1→Rd w1 .u32 (.slice ro (Dg.dg 4294967296 t.n).length rc) (Dg.dg 4294967296 t.n)→Calls Tryz.prog 107 #[ykV n way fam R D L G gr,yOV c gg t ro rc,yi fl] w1 fun z w'=>z= .returned (.tuple #[.string st,yi f1,yi e1])∧Below w1.heap.size w1 w'):
  Calls Tryz.prog 53 #[yi n,yi way,.func (.func F) #[] #[],.slice (some ⟨pb,0,none⟩) m m] w fun z w'=>z= .returned (.tuple #[.string st,yi f1,yi e1])∧Below w.heap.size w w':=by
 replace HD:Hid _:=HD;replace HO:Hid _:=HO;replace HF:Hid _:=HF;replace HA:Hid _:=HA;have HFn:Hid _:=hfn;clear hfn
 go_enter Tryz.func53,Tryz.ntmps53
 go_wp2_with fail
 refine(HD.out _).mono ?_;rintro z w1 ⟨rfl,b1⟩;have al:=below_alloc w1 (.cells (ykL n 0 fam R D L G gr).toArray 93);have d1:=locE_new w1 (ykL n 0 fam R D L G gr) 93;have p1:=(hp.later b1).later al;have hlt:w.heap.size≤w1.heap.size:=b1.size;have b01:=below_trans b1 al;clear b1 al hp HD
 go_upto_region 4 with fail
 generalize w1.alloc (.cells (ykL n 0 fam R D L G gr).toArray 93)=W1 at d1 p1 b01⊢;generalize w1.heap.size=PD at d1 hlt⊢;obtain⟨x0,x1,x2,x3,x4,x5,x6,x7⟩:=d1.cs8
 go_wp2_with fail
 refine(HO.out _ b01 p1).mono ?_;rintro z w2 hz;have hz':=hz.resolve_right (fun h=>h.1 hE)
 obtain⟨-,v,cs,rfl,hown,hat,b2⟩:=hz';obtain⟨g,cap,hv,hV⟩:=opsV_of (fun h=>by subst h;simp at hm;omega) hown hat
 rw[hm] at hv;subst hv;have hgP:g≠PD:=by
  have h1:=(World.ownsRow.lt hown g rfl).1;have h2:=d1.lt;omega
 have d2:=d1.later b2;have b02:=below_trans b01 b2;have HNN:Hid (∀w1,OpsV w1 n ps g cap→Calls Tryz.prog 82 #[.slice (some ⟨g,0,none⟩) m cap] w1 fun z w'=>z= .returned (.bool false)∧Below w1.heap.size w1 w'):=fun w1 h=>by
  have:=noNumbers_W n ps g cap w1 h (by omega);rw[hN,hm] at this;exact this
 clear x0 x1 x2 x3 x4 x5 x6 x7 d1 p1 b01 b2 hz hown hat HO hE hN hm;have c1:=d2.cell 1 rfl;have f1':=d2.free 1;have d3:LocE (w2.setCell ⟨PD,1,none⟩ (yi way)) PD 93 (ykL n way fam R D L G gr):=d2.set 1 (yi way);have bu:=but_set w2 PD 1 (yi way);have hV3:=hV.off bu d2 (by simp) hgP;have b03:=bu.below b02 hlt
 go_upto_block 0 with fail
 generalize w2.setCell ⟨PD,1,none⟩ (yi way)=W3 at d3 hV3 b03⊢;clear c1 f1' bu d2 b02 hV
 go_wp2_with fail
 refine(HNN.out _ hV3).mono ?_;rintro z w4 ⟨rfl,b4⟩;have d4:=d3.later b4;have hV4:=hV3.later b4;have b04:=below_trans b03 b4;clear d3 hV3 b03 b4 HNN
 go_upto_region 11 with fail
 have bW:Below w4.heap.size w4 w4.drew:=(Below.refl _ _).drew;have d5:=d4.later bW;have hV5:=hV4.later bW;have b05:=below_trans b04 bW;clear bW d4 hV4 b04;refine wp_region_held_drew (S:=fun wq=>wq.rangeAt PD 0 (ykL n way fam R D L G gr)) (by kernel_rfl) d5.range (fun hS0=> ?_)
 generalize w4.drew=WD at d5 hV5 b05 hS0⊢;refine wpAnyH_take (i:=0) (v:=(ykV n way fam R D L G gr)) rfl (by kernel_rfl) (by kernel_rfl) (by kernel_rfl) (fun _ _ _ h=>h) (Or.inl ⟨by kernel_rfl,fun w0 hw0=>xrow 93 (.tmp 11) rfl PD 0 (by kernel_rfl) _ _ hw0 Tryz.underlying93 rfl (by kernel_rfl)⟩) hS0 ?_
 refine wpAnyH_take (i:=1) (v:= .func (.func F) #[] #[]) rfl (by kernel_rfl) (by kernel_rfl) (by kernel_rfl) (fun _ _ _ h=>h) (Or.inl ⟨by kernel_rfl,fun w0 _=>by kernel_rfl⟩) hS0 ?_
 refine wpAnyH_take (i:=2) (v:=(ykV n way fam R D L G gr)) rfl (by kernel_rfl) (by kernel_rfl) (by kernel_rfl) (fun _ _ _ h=>h) (Or.inl ⟨by kernel_rfl,fun w0 hw0=>xrow 93 (.tmp 11) rfl PD 0 (by kernel_rfl) _ _ hw0 Tryz.underlying93 rfl (by kernel_rfl)⟩) hS0 ?_
 refine wpAnyH_take (i:=3) (v:= .slice (some ⟨g,0,none⟩) m cap) rfl (by kernel_rfl) (by kernel_rfl) (by kernel_rfl) (fun _ _ _ h=>h) (Or.inl ⟨by kernel_rfl,fun w0 _=>by kernel_rfl⟩) hS0 ?_
 refine wpAnyH_ready (rs:=[4]) (by kernel_rfl) (by simp) ?_;refine AllReadyH.cons rfl (fun K hK=> ?_) AllReadyH.nil
 have hfn:=HFn.out
 go_simp
 refine(HF.out _ _ _ b05 hV5).mono ?_;rintro z w6 ⟨u,rfl,q6,b6⟩;obtain⟨ro,rc,hu⟩:=q6.shape;subst hu;have d6:=d5.later b6;have b06:=below_trans b05 b6;refine hK.out _ _ d6.range (fun hS4=> ?_)
 clear hK K d5 hV5 b05 b6;refine wpAnyH_take (i:=5) (v:=(yOV c gg t ro rc)) rfl (by kernel_rfl) (by kernel_rfl) (by kernel_rfl) (fun _ _ _ h=>h) (Or.inl ⟨by kernel_rfl,fun w0 _=>by go_simp⟩) hS4 ?_
 refine wpAnyH_take (i:=6) (v:=yi fl) rfl (by kernel_rfl) (by kernel_rfl) (by kernel_rfl) (fun _ _ _ h=>h) (Or.inl ⟨by kernel_rfl,fun w0 _=>by go_simp⟩) hS4 ?_
 refine wpAnyH_ready (rs:=[7]) (by kernel_rfl) (by simp) ?_;refine AllReadyH.cons rfl (fun K hK=> ?_) AllReadyH.nil
 go_simp
 refine(HA.out _ _ _ b06 q6).mono ?_;rintro z w7 ⟨rfl,b7⟩;have d7:=d6.later b7;have b07:=below_trans b06 b7;refine hK.out _ _ d7.range (fun hS7=> ?_)
 clear hK K d6 b06 b7 q6;refine wpAnyH_take (i:=8) (v:= .string st) rfl (by kernel_rfl) (by kernel_rfl) (by kernel_rfl) (fun _ _ _ h=>h) (Or.inl ⟨by kernel_rfl,fun w0 _=>by go_simp⟩) hS7 ?_
 refine wpAnyH_take (i:=9) (v:=yi f1) rfl (by kernel_rfl) (by kernel_rfl) (by kernel_rfl) (fun _ _ _ h=>h) (Or.inl ⟨by kernel_rfl,fun w0 _=>by go_simp⟩) hS7 ?_
 refine wpAnyH_take (i:=10) (v:=yi e1) rfl (by kernel_rfl) (by kernel_rfl) (by kernel_rfl) (fun _ _ _ h=>h) (Or.inl ⟨by kernel_rfl,fun w0 _=>by go_simp⟩) hS7 ?_
 refine wpAnyH_take (i:=11) (v:= .string st) rfl (by kernel_rfl) (by kernel_rfl) (by kernel_rfl) (fun _ _ _ h=>h) (Or.inl ⟨by kernel_rfl,fun w0 _=>by go_simp⟩) hS7 ?_
 refine wpAnyH_take (i:=12) (v:=yi f1) rfl (by kernel_rfl) (by kernel_rfl) (by kernel_rfl) (fun _ _ _ h=>h) (Or.inl ⟨by kernel_rfl,fun w0 _=>by go_simp⟩) hS7 ?_
 refine wpAnyH_take (i:=13) (v:=yi e1) rfl (by kernel_rfl) (by kernel_rfl) (by kernel_rfl) (fun _ _ _ h=>h) (Or.inl ⟨by kernel_rfl,fun w0 _=>by go_simp⟩) hS7 ?_
 simp only[Act.put,List.getElem_toArray,List.getElem_cons_succ,List.getElem_cons_zero,List.setIfInBounds_toArray,List.set_cons_zero,List.set_cons_succ];refine wpAnyH_done (by kernel_rfl) ?_ _
 go_wp2
 go_ret3
 exact⟨rfl,b07⟩
end Go.Proofs.YtnhackdjplppjaaGreatDoor
