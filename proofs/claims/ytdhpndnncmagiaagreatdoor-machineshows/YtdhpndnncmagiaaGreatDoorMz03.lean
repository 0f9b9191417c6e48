/-
  Texts laid together: Mc10, Mc11, Mc12.
-/
import Derived.Test.YtdhpndnncmagiaaGreatDoorMz02
set_option maxRecDepth 100000
set_option maxHeartbeats 3200000
namespace Go.Proofs.YtdhpndnncmagiaaGreatDoor
open _root_.Go.Proofs.Tryz
open Go.RowKit
theorem drop_any (q:Nat)(F W fl tr told:Int)(g L sc k n:Nat)(w:World)(hq:au w q 130 [yi F,yi W,yi fl,yi tr,.slice (some ⟨g,0,none⟩) L sc,yi told])(hw:IntKind.i64.wrap ((L:Int)-(n:Int))=(k:Int))(_hle:(k:Int)≤(L:Int))(hsc:(k:Int)≤(sc:Int)):
  yC 114 #[.pointer (some ⟨q,0,none⟩),yi n] w fun z w'=>z= .returned (.tuple #[])∧au w' q 130 [yi F,yi W,yi fl,yi tr,.slice (some ⟨g,0,none⟩) k sc,yi told]∧But q w w':=by
 have bW:yB w w.drew:=(Below.refl _ _).drew;have bd:But q w w.drew:=⟨rfl,rfl,rfl,rfl,fun _ _=>rfl⟩
 have q2:=hq.l bW;have hqlt:=q2.lt;clear hq bW
 go_enter func114,ntmps114
 go_upto_region 0 with fail
 refine wp_region_held_drew (S:=fun wq=> ∃v,au wq q 130 [yi F,yi W,yi fl,yi tr,v,yi told]) (by kernel_rfl) ⟨_,q2⟩ (fun hS0=> ?_)
 generalize w.drew=WD at q2 bd hqlt hS0⊢;refine tq 0 (.pointer (some ⟨q,0,none⟩)) rfl (fun _ _=>by kernel_rfl) hS0 ?_
 refine tq 1 (.pointer (some ⟨q,0,none⟩)) rfl (fun _ _=>by kernel_rfl) hS0 ?_
 refine tq 2 (.pointer (some ⟨q,0,none⟩)) rfl (fun _ _=>by kernel_rfl) hS0 ?_
 refine tq 3 (.pointer (some ⟨q,0,none⟩)) rfl (fun _ _=>by kernel_rfl) hS0 ?_
 refine tq 4 (.pointer (some ⟨q,4,none⟩)) rfl (fun _ _=>by kernel_rfl) hS0 ?_
 refine tq 6 (.pointer (some ⟨q,0,none⟩)) rfl (fun _ _=>by kernel_rfl) hS0 ?_
 refine tq 7 (.pointer (some ⟨q,0,none⟩)) rfl (fun _ _=>by kernel_rfl) hS0 ?_
 refine tq 8 (.pointer (some ⟨q,0,none⟩)) rfl (fun _ _=>by kernel_rfl) hS0 ?_
 refine tq 9 (.pointer (some ⟨q,4,none⟩)) rfl (fun _ _=>by kernel_rfl) hS0 ?_
 refine tq 12 (yi n) rfl (fun _ _=>by kernel_rfl) hS0 ?_
 simp only[Act.put,List.getElem_toArray,List.getElem_cons_succ,List.getElem_cons_zero,List.setIfInBounds_toArray,List.set_cons_zero,List.set_cons_succ];refine wpAnyH_ready (rs:=[5,10]) (by kernel_rfl) (by simp) ?_;refine AllReadyH.cons rfl ?_ (AllReadyH.cons rfl ?_ AllReadyH.nil)
 ·intro K hK
  rw[if_pos (by kernel_rfl)];refine wp_yield (.slice (some ⟨g,0,none⟩) L sc) (gU 22 (.tmp 8) rfl q 4 (by kernel_rfl) _ _ underlying22 rfl (q2.c 4 rfl)) ?_;refine hK.out _ _ ⟨_,q2⟩ (fun hS1=> ?_)
  clear hK K;simp only[Act.put,List.getElem_toArray,List.getElem_cons_succ,List.getElem_cons_zero,List.setIfInBounds_toArray,List.set_cons_zero,List.set_cons_succ];refine wpAnyH_ready (rs:=[10]) (by kernel_rfl) (by simp) ?_;refine AllReadyH.cons rfl ?_ AllReadyH.nil;intro K hK;rw[if_pos (by kernel_rfl)];refine wp_yield (.slice (some ⟨g,0,none⟩) L sc) (gU 22 (.tmp 13) rfl q 4 (by kernel_rfl) _ _ underlying22 rfl (q2.c 4 rfl)) ?_;refine hK.out _ _ ⟨_,q2⟩ (fun hS1=> ?_)
  clear hK K;refine tq 11 (yi L) rfl (fun _ _=>by go_simp) hS1 ?_
  refine tq 13 (yi k) rfl (fun _ _=>by go_simp) hS1 ?_
  refine tq 14 (.slice (some ⟨g,0,none⟩) k sc) rfl (fun _ _=>by go_simp) hS1 ?_
  refine tq 15 (.pointer (some ⟨q,0,none⟩)) rfl (fun _ _=>by kernel_rfl) hS1 ?_
  refine tq 16 (.pointer (some ⟨q,0,none⟩)) rfl (fun _ _=>by kernel_rfl) hS1 ?_
  refine tq 17 (.pointer (some ⟨q,4,none⟩)) rfl (fun _ _=>by kernel_rfl) hS1 ?_
  simp only[Act.put,List.getElem_toArray,List.getElem_cons_succ,List.getElem_cons_zero,List.setIfInBounds_toArray,List.set_cons_zero,List.set_cons_succ];refine wpAnyH_ready (rs:=[18]) (by kernel_rfl) (by simp) ?_;refine AllReadyH.cons rfl ?_ AllReadyH.nil;intro K hK;have c4:=q2.c 4 rfl;have y5:=q2.f 4;have bu:=ag WD q 4 (.slice (some ⟨g,0,none⟩) k sc);have q6:au (WD.setCell ⟨q,4,none⟩ (.slice (some ⟨g,0,none⟩) k sc)) q 130 [yi F,yi W,yi fl,yi tr,.slice (some ⟨g,0,none⟩) k sc,yi told]:=q2.set 4 (.slice (some ⟨g,0,none⟩) k sc);have b7:=bd.trans bu
  go_simp
  refine hK.out _ _ ⟨_,q6⟩ (fun hS2=> ?_)
  clear hK K;clear q2 c4 y5 bd bu;refine wpAnyH_done (by kernel_rfl) ?_ _;clear hS0 hS1 hS2
  go_wp2
  go_end0
  exact⟨by simp,q6,b7⟩
 ·intro K hK
  rw[if_pos (by kernel_rfl)];refine wp_yield (.slice (some ⟨g,0,none⟩) L sc) (gU 22 (.tmp 13) rfl q 4 (by kernel_rfl) _ _ underlying22 rfl (q2.c 4 rfl)) ?_;refine hK.out _ _ ⟨_,q2⟩ (fun hS1=> ?_)
  clear hK K;refine tq 11 (yi L) rfl (fun _ _=>by go_simp) hS1 ?_
  refine tq 13 (yi k) rfl (fun _ _=>by go_simp) hS1 ?_
  simp only[Act.put,List.getElem_toArray,List.getElem_cons_succ,List.getElem_cons_zero,List.setIfInBounds_toArray,List.set_cons_zero,List.set_cons_succ];refine wpAnyH_ready (rs:=[5]) (by kernel_rfl) (by simp) ?_;refine AllReadyH.cons rfl ?_ AllReadyH.nil;intro K hK;rw[if_pos (by kernel_rfl)];refine wp_yield (.slice (some ⟨g,0,none⟩) L sc) (gU 22 (.tmp 8) rfl q 4 (by kernel_rfl) _ _ underlying22 rfl (q2.c 4 rfl)) ?_;refine hK.out _ _ ⟨_,q2⟩ (fun hS1=> ?_)
  clear hK K;refine tq 14 (.slice (some ⟨g,0,none⟩) k sc) rfl (fun _ _=>by go_simp) hS1 ?_
  refine tq 15 (.pointer (some ⟨q,0,none⟩)) rfl (fun _ _=>by kernel_rfl) hS1 ?_
  refine tq 16 (.pointer (some ⟨q,0,none⟩)) rfl (fun _ _=>by kernel_rfl) hS1 ?_
  refine tq 17 (.pointer (some ⟨q,4,none⟩)) rfl (fun _ _=>by kernel_rfl) hS1 ?_
  simp only[Act.put,List.getElem_toArray,List.getElem_cons_succ,List.getElem_cons_zero,List.setIfInBounds_toArray,List.set_cons_zero,List.set_cons_succ];refine wpAnyH_ready (rs:=[18]) (by kernel_rfl) (by simp) ?_;refine AllReadyH.cons rfl ?_ AllReadyH.nil;intro K hK;have c4:=q2.c 4 rfl;have y5:=q2.f 4;have bu:=ag WD q 4 (.slice (some ⟨g,0,none⟩) k sc);have q6:au (WD.setCell ⟨q,4,none⟩ (.slice (some ⟨g,0,none⟩) k sc)) q 130 [yi F,yi W,yi fl,yi tr,.slice (some ⟨g,0,none⟩) k sc,yi told]:=q2.set 4 (.slice (some ⟨g,0,none⟩) k sc);have b7:=bd.trans bu
  go_simp
  refine hK.out _ _ ⟨_,q6⟩ (fun hS2=> ?_)
  clear hK K;clear q2 c4 y5 bd bu;refine wpAnyH_done (by kernel_rfl) ?_ _;clear hS0 hS1 hS2
  go_wp2
  go_end0
  exact⟨by simp,q6,b7⟩
theorem two1_add (cb bb q g k cc:Nat)(F W fl tr told f e:Int)(v:Value)(a b st:ByteArray)(w:World)
  (hc:au w cb 41 [.func (.func 15) #[] #[]]) (hb:au w bb 131 [.pointer (some ⟨q,0,none⟩)]) (hq:au w q 130 [yi F,yi W,yi fl,yi tr,v,yi told]) (h0:w.cell? ⟨g,k,none⟩=some (.string a)) (h1:w.cell? ⟨g,k+1,none⟩=some (.string b))
  (HF:yH w 15 #[yi F,.string a,.string b,yi W] (.tuple #[.string st,yi f,yi e])):
  yC 166 #[.slice (some ⟨g,k,none⟩) 2 cc,.pointer (some ⟨cb,0,none⟩),.pointer (some ⟨bb,0,none⟩)] w (yR w (.tuple #[.string st,yi f,yi e])):=by
 replace HF:Hid _:=HF;have b0:=Below.refl w.heap.size w
 go_enter func166,ntmps166
 go_upto_region 1 with fail
 have bW:yB w w.drew:=(Below.refl _ _).drew;have c2:=hc.l bW;have d2:=hb.l bW;have q2:=hq.l bW;have x2:=cell_later bW h0;have y2:=cell_later bW h1;clear hc hb hq h0 h1 b0;refine wp_region_held_drew (S:=fun wq=>au wq cb 41 [.func (.func 15) #[] #[]]∧au wq bb 131 [.pointer (some ⟨q,0,none⟩)]∧au wq q 130 [yi F,yi W,yi fl,yi tr,v,yi told]∧wq.cell? ⟨g,k,none⟩=some (.string a)∧wq.cell? ⟨g,k+1,none⟩=some (.string b)) (by kernel_rfl) ⟨c2,d2,q2,x2,y2⟩ (fun hS0=> ?_)
 generalize w.drew=WD at c2 d2 q2 x2 y2 bW hS0⊢;refine tq 0 (.func (.func 15) #[] #[]) rfl (fun _ hw0=>gU 41 (.tmp 1) rfl cb 0 (by kernel_rfl) _ _ underlying41 rfl (hw0.1.c 0 rfl)) hS0 ?_
 refine tq 1 (.pointer (some ⟨q,0,none⟩)) rfl (fun _ hw0=>gU 131 (.tmp 2) rfl bb 0 (by kernel_rfl) _ _ underlying131 rfl (hw0.2.1.c 0 rfl)) hS0 ?_
 refine tq 2 (.pointer (some ⟨q,0,none⟩)) rfl (fun _ _=>by kernel_rfl) hS0 ?_
 refine tq 3 (.pointer (some ⟨q,0,none⟩)) rfl (fun _ _=>by kernel_rfl) hS0 ?_
 refine tq 4 (.pointer (some ⟨q,0,none⟩)) rfl (fun _ _=>by kernel_rfl) hS0 ?_
 refine tq 5 (yi F) rfl (fun _ hw0=>gU 3 (.tmp 11) rfl q 0 (by kernel_rfl) _ _ underlying3 rfl (hw0.2.2.1.c 0 rfl)) hS0 ?_
 refine tq 6 (.slice (some ⟨g,k,none⟩) 2 cc) rfl (fun _ _=>by kernel_rfl) hS0 ?_
 refine tq 7 (.pointer (some ⟨g,k,none⟩)) rfl (fun _ _=>by kernel_rfl) hS0 ?_
 refine tq 8 (.string a) rfl (fun _ hw0=>gU 9 (.tmp 14) rfl g k (by kernel_rfl) _ _ underlying9 rfl hw0.2.2.2.1) hS0 ?_
 refine tq 9 (.slice (some ⟨g,k,none⟩) 2 cc) rfl (fun _ _=>by kernel_rfl) hS0 ?_
 refine tq 10 (.pointer (some ⟨g,k+1,none⟩)) rfl (fun _ _=>by kernel_rfl) hS0 ?_
 refine tq 11 (.string b) rfl (fun _ hw0=>gU 9 (.tmp 17) rfl g (k+1) (by kernel_rfl) _ _ underlying9 rfl hw0.2.2.2.2) hS0 ?_
 refine tq 12 (.pointer (some ⟨q,0,none⟩)) rfl (fun _ hw0=>gU 131 (.tmp 2) rfl bb 0 (by kernel_rfl) _ _ underlying131 rfl (hw0.2.1.c 0 rfl)) hS0 ?_
 refine tq 13 (.pointer (some ⟨q,0,none⟩)) rfl (fun _ _=>by kernel_rfl) hS0 ?_
 refine tq 14 (.pointer (some ⟨q,0,none⟩)) rfl (fun _ _=>by kernel_rfl) hS0 ?_
 refine tq 15 (.pointer (some ⟨q,1,none⟩)) rfl (fun _ _=>by kernel_rfl) hS0 ?_
 refine tq 16 (yi W) rfl (fun _ hw0=>gU 3 (.tmp 22) rfl q 1 (by kernel_rfl) _ _ underlying3 rfl (hw0.2.2.1.c 1 rfl)) hS0 ?_
 refine wpAnyH_ready (rs:=[17]) (by kernel_rfl) (by simp) ?_;refine AllReadyH.cons rfl (fun K hK=> ?_) AllReadyH.nil
 go_simp
 refine(HF.out _ bW).mono ?_;rintro zz w9 ⟨rfl,bb9⟩;have b4:=aa bW bb9;refine hK.out _ _ ⟨c2.l bb9,d2.l bb9,q2.l bb9,cell_later bb9 x2,cell_later bb9 y2⟩ (fun hS1=> ?_)
 clear hK K hS0 c2 d2 q2 x2 y2 bb9 bW HF;refine tq 18 (.string st) rfl (fun _ _=>by kernel_rfl) hS1 ?_
 refine tq 19 (yi f) rfl (fun _ _=>by kernel_rfl) hS1 ?_
 refine tq 20 (yi e) rfl (fun _ _=>by kernel_rfl) hS1 ?_
 refine tq 21 (.string st) rfl (fun _ _=>by kernel_rfl) hS1 ?_
 refine tq 22 (yi f) rfl (fun _ _=>by kernel_rfl) hS1 ?_
 refine tq 23 (yi e) rfl (fun _ _=>by kernel_rfl) hS1 ?_
 refine wpAnyH_done (by kernel_rfl) ?_ _;clear hS1;simp only[Act.put,List.getElem_toArray,List.getElem_cons_succ,List.getElem_cons_zero,List.setIfInBounds_toArray,List.set_cons_zero,List.set_cons_succ]
 go_wp2
 go_ret3
 exact⟨by simp,b4⟩
theorem repl2_add_ok (q base cb bb:Nat)(F W fl tr f:Int)(a b st:ByteArray)(vo:Option Addr)(l:List ByteArray)(vc:Nat)(w:World)
  (hc:au w cb 41 [.func (.func 15) #[] #[]]) (hbb:au w bb 131 [.pointer (some ⟨q,0,none⟩)])
  (hq:au w q 130 [yi F,yi W,yi fl,yi tr,.slice vo (l++[a,b]).length vc,yi 0]) (ho:OwnS w base (.slice vo (l++[a,b]).length vc) (l++[a,b])) (hl:l.length<16) (hb:base≤q) (hs:base≤w.heap.size) (ht:bits .or .i64 0 f=f)
  (HF:yH w 15 #[yi F,.string a,.string b,yi W] (.tuple #[.string st,yi f,yi 0])):
  yC 101 #[.pointer (some ⟨q,0,none⟩),yi 2,.func (.func 166) #[] #[.pointer (some ⟨cb,0,none⟩),.pointer (some ⟨bb,0,none⟩)]] w (PushR q base F W fl tr f (l++[st]) w):=by
 replace HF:Hid _:=HF;obtain⟨L,hL⟩: ∃L,(l++[a,b]).length=L:=⟨_,rfl⟩;obtain⟨k,hk⟩: ∃k,l.length=k:=⟨_,rfl⟩;have hLk:L=k+2:=by rw[←hL,←hk];simp
 obtain⟨g,hvo,hsc,hcell⟩: ∃g,vo=some ⟨g,0,none⟩∧L≤vc∧ ∀i,i<L→w.cell? ⟨g,i,none⟩=some (.string ((l++[a,b]).getD i ⟨#[]⟩)):=by
  obtain⟨ao,cap,hv,h1,h2,h3⟩:=ho.rd;simp only[Value.slice.injEq] at hv;obtain⟨rfl,-,rfl⟩:=hv
  rcases ho.2 with⟨h4,h5⟩| ⟨g,cap',cur,h4,-⟩
  ·omega
  ·simp only[Value.slice.injEq] at h4
   obtain⟨rfl,-,-⟩:=h4;obtain⟨b',off,h6,h7⟩:=h3 (by omega);simp only[Option.some.injEq,Addr.mk.injEq] at h6;obtain⟨rfl,rfl,-⟩:=h6;exact⟨_,rfl,by omega,fun i hi=>by have:=h7 i (by omega);rwa [Nat.zero_add] at this⟩
 subst hvo;rw[hL] at hq ho;have h0:=hcell k (by omega);have h1:=hcell (k+1) (by omega);rw[show(l++[a,b]).getD k ⟨#[]⟩=a by rw[←hk];simp] at h0
 rw[show(l++[a,b]).getD (k+1) ⟨#[]⟩=b by rw[←hk];simp] at h1
 clear hcell;have hwr:IntKind.i64.wrap ((L:Int)-(2:Int))=(k:Int):=by rw[show(L:Int)-2=(k:Int) by omega];exact IntWalk.i64_in _ ⟨by omega,by omega⟩
 have HU:=upper_W q F W fl tr 0 g L vc k 2 w hq hwr (by omega) (by omega) (by omega);replace HU:Hid _:=HU;have HA:Hid (k=l.length∧L=k+2∧L≤vc∧l.length<16∧base≤q∧base≤w.heap.size∧IntKind.i64.wrap ((L:Int)-(2:Int))=(k:Int)):=⟨hk.symm,hLk,hsc,hl,hb,hs,hwr⟩;clear hk hLk hsc hl hb hs hwr hL
 go_enter func101,ntmps101
 go_wp2_with fail
 refine Calls.mono HU.out ?_;rintro z w1 ⟨rfl,b1⟩;have HC:=two1_add cb bb q g k (vc-k) F W fl tr 0 f 0 _ a b st w1 (hc.l b1) (hbb.l b1) (hq.l b1) (cell_later b1 h0) (cell_later b1 h1) (fun w2 b2=>HF.out _ (aa b1 b2))
 replace HC:Hid _:=HC;have q1:=hq.l b1;have o1:=ho.l b1;clear hc hbb hq ho h0 h1 HU HF
 go_wp2_with fail
 refine Calls.mono HC.out ?_;rintro z w2 ⟨rfl,b2⟩;have q2:=q1.l b2;have o2:=o1.l b2;have b12:=aa b1 b2;clear q1 o1 b1 b2 HC;obtain⟨hk,hLk,hsc,hl,hb,hs,hwr⟩:=HA.out;have HD:=drop_any q F W fl tr 0 g L vc k 2 w2 q2 hwr (by omega) (by omega);replace HD:Hid _:=HD;clear hk hLk hsc hl hb hs hwr
 go_wp2_with fail
 refine Calls.mono HD.out ?_;rintro z w3 ⟨rfl,q3,bu3⟩;obtain⟨hk,hLk,hsc,hl,hb,hs,hwr⟩:=HA.out;have b3:=bu3.below (b12.mono hs) hb;have K3:Hid (∀b' ty vs,b'≠q→ty≠9→au w b' ty vs→au w3 b' ty vs):=fun b' ty vs hne _ h=>bu3.loc (h.l b12) hne
 have o3:=(o2.off bu3 q2 (by decide) (Nat.zero_le _)).take k (by rw[hk];simp);rw[show(l++[a,b]).take k=l by rw[hk];simp] at o3
 rw[hk] at q3 o3;have HP:=push_ok q base F W fl tr f f st _ l vc w3 q3 o3 hl hb (Nat.le_trans hs b3.size) ht;replace HP:Hid _:=HP;replace b3:Hid _:=b3;clear hk hLk hsc hl hb hs hwr q2 o2 b12 bu3 q3 o3 HD
 go_wp2_with fail
 refine Calls.mono HP.out ?_;rintro z w4 ⟨vo2,vc2,rfl,l5,o5,kp⟩;have HE:Hid (PushR q base F W fl tr f (l++[st]) w (.returned (yi 0)) w4):=⟨vo2,vc2,rfl,l5,o5,b3.out.trans kp.1,fun b' ty vs hne hty h=>kp.2 _ _ _ hne hty (K3.out _ _ _ hne hty h)⟩
 clear l5 o5 kp HP K3
 go_wp2
 go_ret
 exact HE.out
theorem oftwo_add_ok (q base cb:Nat)(F W fl tr f:Int)(v0 v1 v2:Value)(a b st:ByteArray)(vo:Option Addr)(l:List ByteArray)(vc:Nat)(w:World)
  (hc:au w cb 41 [.func (.func 15) #[] #[]])
  (hq:au w q 130 [yi F,yi W,yi fl,yi tr,.slice vo (l++[a,b]).length vc,yi 0]) (ho:OwnS w base (.slice vo (l++[a,b]).length vc) (l++[a,b])) (hl:l.length<16) (hb:base≤q) (hs:base≤w.heap.size) (ht:bits .or .i64 0 f=f)
  (HF:yH w 15 #[yi F,.string a,.string b,yi W] (.tuple #[.string st,yi f,yi 0])):
  yC 165 #[.pointer (some ⟨q,0,none⟩),.agg #[v0,v1,v2],.pointer (some ⟨cb,0,none⟩)] w (PushR q base F W fl tr f (l++[st]) w):=by
 replace HF:Hid _:=HF;obtain⟨W3,hW4,q1,-,b2⟩:=iG w [.pointer (some ⟨q,0,none⟩)] 131 [v0,v1,v2] 37;replace hW4:Hid _:=hW4;have HR:=repl2_add_ok q base cb w.heap.size F W fl tr f a b st vo l vc W3 (hc.l b2) q1 (hq.l b2) (ho.l b2) hl hb (Nat.le_trans hs b2.size) ht (fun w2 h2=>HF.out _ (aa b2 h2))
 replace HR:Hid _:=HR;have HS:Hid (base≤w.heap.size):=hs;have c0:=q1.c 0 rfl;clear hc hq ho hl hb hs HF q1
 go_enter func165,ntmps165
 go_upto_region 1 with fail
 rw[hW4.out];clear hW4
 go_wp2_with fail
 refine Calls.mono HR.out ?_;rintro z w4 ⟨vo2,vc2,rfl,l5,o5,kp⟩;have HE:Hid (PushR q base F W fl tr f (l++[st]) w (.returned (yi 0)) w4):=⟨vo2,vc2,rfl,l5,o5,Kept.after b2 HS.out kp⟩;clear l5 o5 kp HR c0
 go_wp2
 go_ret
 exact HE.out
theorem two1_mul (cb bb q g k cc:Nat)(F W fl tr told f e:Int)(v:Value)(a b st:ByteArray)(w:World)
  (hc:au w cb 41 [.func (.func 98) #[] #[]]) (hb:au w bb 131 [.pointer (some ⟨q,0,none⟩)]) (hq:au w q 130 [yi F,yi W,yi fl,yi tr,v,yi told]) (h0:w.cell? ⟨g,k,none⟩=some (.string a)) (h1:w.cell? ⟨g,k+1,none⟩=some (.string b))
  (HF:yH w 98 #[yi F,.string a,.string b,yi W] (.tuple #[.string st,yi f,yi e])):
  yC 166 #[.slice (some ⟨g,k,none⟩) 2 cc,.pointer (some ⟨cb,0,none⟩),.pointer (some ⟨bb,0,none⟩)] w (yR w (.tuple #[.string st,yi f,yi e])):=by
 replace HF:Hid _:=HF;have b0:=Below.refl w.heap.size w
 go_enter func166,ntmps166
 go_upto_region 1 with fail
 have bW:yB w w.drew:=(Below.refl _ _).drew;have c2:=hc.l bW;have d2:=hb.l bW;have q2:=hq.l bW;have x2:=cell_later bW h0;have y2:=cell_later bW h1;clear hc hb hq h0 h1 b0;refine wp_region_held_drew (S:=fun wq=>au wq cb 41 [.func (.func 98) #[] #[]]∧au wq bb 131 [.pointer (some ⟨q,0,none⟩)]∧au wq q 130 [yi F,yi W,yi fl,yi tr,v,yi told]∧wq.cell? ⟨g,k,none⟩=some (.string a)∧wq.cell? ⟨g,k+1,none⟩=some (.string b)) (by kernel_rfl) ⟨c2,d2,q2,x2,y2⟩ (fun hS0=> ?_)
 generalize w.drew=WD at c2 d2 q2 x2 y2 bW hS0⊢;refine tq 0 (.func (.func 98) #[] #[]) rfl (fun _ hw0=>gU 41 (.tmp 1) rfl cb 0 (by kernel_rfl) _ _ underlying41 rfl (hw0.1.c 0 rfl)) hS0 ?_
 refine tq 1 (.pointer (some ⟨q,0,none⟩)) rfl (fun _ hw0=>gU 131 (.tmp 2) rfl bb 0 (by kernel_rfl) _ _ underlying131 rfl (hw0.2.1.c 0 rfl)) hS0 ?_
 refine tq 2 (.pointer (some ⟨q,0,none⟩)) rfl (fun _ _=>by kernel_rfl) hS0 ?_
 refine tq 3 (.pointer (some ⟨q,0,none⟩)) rfl (fun _ _=>by kernel_rfl) hS0 ?_
 refine tq 4 (.pointer (some ⟨q,0,none⟩)) rfl (fun _ _=>by kernel_rfl) hS0 ?_
 refine tq 5 (yi F) rfl (fun _ hw0=>gU 3 (.tmp 11) rfl q 0 (by kernel_rfl) _ _ underlying3 rfl (hw0.2.2.1.c 0 rfl)) hS0 ?_
 refine tq 6 (.slice (some ⟨g,k,none⟩) 2 cc) rfl (fun _ _=>by kernel_rfl) hS0 ?_
 refine tq 7 (.pointer (some ⟨g,k,none⟩)) rfl (fun _ _=>by kernel_rfl) hS0 ?_
 refine tq 8 (.string a) rfl (fun _ hw0=>gU 9 (.tmp 14) rfl g k (by kernel_rfl) _ _ underlying9 rfl hw0.2.2.2.1) hS0 ?_
 refine tq 9 (.slice (some ⟨g,k,none⟩) 2 cc) rfl (fun _ _=>by kernel_rfl) hS0 ?_
 refine tq 10 (.pointer (some ⟨g,k+1,none⟩)) rfl (fun _ _=>by kernel_rfl) hS0 ?_
 refine tq 11 (.string b) rfl (fun _ hw0=>gU 9 (.tmp 17) rfl g (k+1) (by kernel_rfl) _ _ underlying9 rfl hw0.2.2.2.2) hS0 ?_
 refine tq 12 (.pointer (some ⟨q,0,none⟩)) rfl (fun _ hw0=>gU 131 (.tmp 2) rfl bb 0 (by kernel_rfl) _ _ underlying131 rfl (hw0.2.1.c 0 rfl)) hS0 ?_
 refine tq 13 (.pointer (some ⟨q,0,none⟩)) rfl (fun _ _=>by kernel_rfl) hS0 ?_
 refine tq 14 (.pointer (some ⟨q,0,none⟩)) rfl (fun _ _=>by kernel_rfl) hS0 ?_
 refine tq 15 (.pointer (some ⟨q,1,none⟩)) rfl (fun _ _=>by kernel_rfl) hS0 ?_
 refine tq 16 (yi W) rfl (fun _ hw0=>gU 3 (.tmp 22) rfl q 1 (by kernel_rfl) _ _ underlying3 rfl (hw0.2.2.1.c 1 rfl)) hS0 ?_
 refine wpAnyH_ready (rs:=[17]) (by kernel_rfl) (by simp) ?_;refine AllReadyH.cons rfl (fun K hK=> ?_) AllReadyH.nil
 go_simp
 refine(HF.out _ bW).mono ?_;rintro zz w9 ⟨rfl,bb9⟩;have b4:=aa bW bb9;refine hK.out _ _ ⟨c2.l bb9,d2.l bb9,q2.l bb9,cell_later bb9 x2,cell_later bb9 y2⟩ (fun hS1=> ?_)
 clear hK K hS0 c2 d2 q2 x2 y2 bb9 bW HF;refine tq 18 (.string st) rfl (fun _ _=>by kernel_rfl) hS1 ?_
 refine tq 19 (yi f) rfl (fun _ _=>by kernel_rfl) hS1 ?_
 refine tq 20 (yi e) rfl (fun _ _=>by kernel_rfl) hS1 ?_
 refine tq 21 (.string st) rfl (fun _ _=>by kernel_rfl) hS1 ?_
 refine tq 22 (yi f) rfl (fun _ _=>by kernel_rfl) hS1 ?_
 refine tq 23 (yi e) rfl (fun _ _=>by kernel_rfl) hS1 ?_
 refine wpAnyH_done (by kernel_rfl) ?_ _;clear hS1;simp only[Act.put,List.getElem_toArray,List.getElem_cons_succ,List.getElem_cons_zero,List.setIfInBounds_toArray,List.set_cons_zero,List.set_cons_succ]
 go_wp2
 go_ret3
 exact⟨by simp,b4⟩
theorem repl2_mul_ok (q base cb bb:Nat)(F W fl tr f:Int)(a b st:ByteArray)(vo:Option Addr)(l:List ByteArray)(vc:Nat)(w:World)
  (hc:au w cb 41 [.func (.func 98) #[] #[]]) (hbb:au w bb 131 [.pointer (some ⟨q,0,none⟩)])
  (hq:au w q 130 [yi F,yi W,yi fl,yi tr,.slice vo (l++[a,b]).length vc,yi 0]) (ho:OwnS w base (.slice vo (l++[a,b]).length vc) (l++[a,b])) (hl:l.length<16) (hb:base≤q) (hs:base≤w.heap.size) (ht:bits .or .i64 0 f=f)
  (HF:yH w 98 #[yi F,.string a,.string b,yi W] (.tuple #[.string st,yi f,yi 0])):
  yC 101 #[.pointer (some ⟨q,0,none⟩),yi 2,.func (.func 166) #[] #[.pointer (some ⟨cb,0,none⟩),.pointer (some ⟨bb,0,none⟩)]] w (PushR q base F W fl tr f (l++[st]) w):=by
 replace HF:Hid _:=HF;obtain⟨L,hL⟩: ∃L,(l++[a,b]).length=L:=⟨_,rfl⟩;obtain⟨k,hk⟩: ∃k,l.length=k:=⟨_,rfl⟩;have hLk:L=k+2:=by rw[←hL,←hk];simp
 obtain⟨g,hvo,hsc,hcell⟩: ∃g,vo=some ⟨g,0,none⟩∧L≤vc∧ ∀i,i<L→w.cell? ⟨g,i,none⟩=some (.string ((l++[a,b]).getD i ⟨#[]⟩)):=by
  obtain⟨ao,cap,hv,h1,h2,h3⟩:=ho.rd;simp only[Value.slice.injEq] at hv;obtain⟨rfl,-,rfl⟩:=hv
  rcases ho.2 with⟨h4,h5⟩| ⟨g,cap',cur,h4,-⟩
  ·omega
  ·simp only[Value.slice.injEq] at h4
   obtain⟨rfl,-,-⟩:=h4;obtain⟨b',off,h6,h7⟩:=h3 (by omega);simp only[Option.some.injEq,Addr.mk.injEq] at h6;obtain⟨rfl,rfl,-⟩:=h6;exact⟨_,rfl,by omega,fun i hi=>by have:=h7 i (by omega);rwa [Nat.zero_add] at this⟩
 subst hvo;rw[hL] at hq ho;have h0:=hcell k (by omega);have h1:=hcell (k+1) (by omega);rw[show(l++[a,b]).getD k ⟨#[]⟩=a by rw[←hk];simp] at h0
 rw[show(l++[a,b]).getD (k+1) ⟨#[]⟩=b by rw[←hk];simp] at h1
 clear hcell;have hwr:IntKind.i64.wrap ((L:Int)-(2:Int))=(k:Int):=by rw[show(L:Int)-2=(k:Int) by omega];exact IntWalk.i64_in _ ⟨by omega,by omega⟩
 have HU:=upper_W q F W fl tr 0 g L vc k 2 w hq hwr (by omega) (by omega) (by omega);replace HU:Hid _:=HU;have HA:Hid (k=l.length∧L=k+2∧L≤vc∧l.length<16∧base≤q∧base≤w.heap.size∧IntKind.i64.wrap ((L:Int)-(2:Int))=(k:Int)):=⟨hk.symm,hLk,hsc,hl,hb,hs,hwr⟩;clear hk hLk hsc hl hb hs hwr hL
 go_enter func101,ntmps101
 go_wp2_with fail
 refine Calls.mono HU.out ?_;rintro z w1 ⟨rfl,b1⟩;have HC:=two1_mul cb bb q g k (vc-k) F W fl tr 0 f 0 _ a b st w1 (hc.l b1) (hbb.l b1) (hq.l b1) (cell_later b1 h0) (cell_later b1 h1) (fun w2 b2=>HF.out _ (aa b1 b2))
 replace HC:Hid _:=HC;have q1:=hq.l b1;have o1:=ho.l b1;clear hc hbb hq ho h0 h1 HU HF
 go_wp2_with fail
 refine Calls.mono HC.out ?_;rintro z w2 ⟨rfl,b2⟩;have q2:=q1.l b2;have o2:=o1.l b2;have b12:=aa b1 b2;clear q1 o1 b1 b2 HC;obtain⟨hk,hLk,hsc,hl,hb,hs,hwr⟩:=HA.out;have HD:=drop_any q F W fl tr 0 g L vc k 2 w2 q2 hwr (by omega) (by omega);replace HD:Hid _:=HD;clear hk hLk hsc hl hb hs hwr
 go_wp2_with fail
 refine Calls.mono HD.out ?_;rintro z w3 ⟨rfl,q3,bu3⟩;obtain⟨hk,hLk,hsc,hl,hb,hs,hwr⟩:=HA.out;have b3:=bu3.below (b12.mono hs) hb;have K3:Hid (∀b' ty vs,b'≠q→ty≠9→au w b' ty vs→au w3 b' ty vs):=fun b' ty vs hne _ h=>bu3.loc (h.l b12) hne
 have o3:=(o2.off bu3 q2 (by decide) (Nat.zero_le _)).take k (by rw[hk];simp);rw[show(l++[a,b]).take k=l by rw[hk];simp] at o3
 rw[hk] at q3 o3;have HP:=push_ok q base F W fl tr f f st _ l vc w3 q3 o3 hl hb (Nat.le_trans hs b3.size) ht;replace HP:Hid _:=HP;replace b3:Hid _:=b3;clear hk hLk hsc hl hb hs hwr q2 o2 b12 bu3 q3 o3 HD
 go_wp2_with fail
 refine Calls.mono HP.out ?_;rintro z w4 ⟨vo2,vc2,rfl,l5,o5,kp⟩;have HE:Hid (PushR q base F W fl tr f (l++[st]) w (.returned (yi 0)) w4):=⟨vo2,vc2,rfl,l5,o5,b3.out.trans kp.1,fun b' ty vs hne hty h=>kp.2 _ _ _ hne hty (K3.out _ _ _ hne hty h)⟩
 clear l5 o5 kp HP K3
 go_wp2
 go_ret
 exact HE.out
theorem oftwo_mul_ok (q base cb:Nat)(F W fl tr f:Int)(v0 v1 v2:Value)(a b st:ByteArray)(vo:Option Addr)(l:List ByteArray)(vc:Nat)(w:World)
  (hc:au w cb 41 [.func (.func 98) #[] #[]])
  (hq:au w q 130 [yi F,yi W,yi fl,yi tr,.slice vo (l++[a,b]).length vc,yi 0]) (ho:OwnS w base (.slice vo (l++[a,b]).length vc) (l++[a,b])) (hl:l.length<16) (hb:base≤q) (hs:base≤w.heap.size) (ht:bits .or .i64 0 f=f)
  (HF:yH w 98 #[yi F,.string a,.string b,yi W] (.tuple #[.string st,yi f,yi 0])):
  yC 165 #[.pointer (some ⟨q,0,none⟩),.agg #[v0,v1,v2],.pointer (some ⟨cb,0,none⟩)] w (PushR q base F W fl tr f (l++[st]) w):=by
 replace HF:Hid _:=HF;obtain⟨W3,hW4,q1,-,b2⟩:=iG w [.pointer (some ⟨q,0,none⟩)] 131 [v0,v1,v2] 37;replace hW4:Hid _:=hW4;have HR:=repl2_mul_ok q base cb w.heap.size F W fl tr f a b st vo l vc W3 (hc.l b2) q1 (hq.l b2) (ho.l b2) hl hb (Nat.le_trans hs b2.size) ht (fun w2 h2=>HF.out _ (aa b2 h2))
 replace HR:Hid _:=HR;have HS:Hid (base≤w.heap.size):=hs;have c0:=q1.c 0 rfl;clear hc hq ho hl hb hs HF q1
 go_enter func165,ntmps165
 go_upto_region 1 with fail
 rw[hW4.out];clear hW4
 go_wp2_with fail
 refine Calls.mono HR.out ?_;rintro z w4 ⟨vo2,vc2,rfl,l5,o5,kp⟩;have HE:Hid (PushR q base F W fl tr f (l++[st]) w (.returned (yi 0)) w4):=⟨vo2,vc2,rfl,l5,o5,Kept.after b2 HS.out kp⟩;clear l5 o5 kp HR c0
 go_wp2
 go_ret
 exact HE.out
theorem opcopy_ok (q base:Nat)(F W fl tr:Int)(v0 v1 v2:Value)(a:ByteArray)(vo:Option Addr)(l:List ByteArray)(vc:Nat)(w:World)
  (hq:au w q 130 [yi F,yi W,yi fl,yi tr,.slice vo (l++[a]).length vc,yi 0]) (ho:OwnS w base (.slice vo (l++[a]).length vc) (l++[a])) (hl:(l++[a]).length<16) (hb:base≤q) (hs:base≤w.heap.size):
  yC 112 #[.pointer (some ⟨q,0,none⟩),.agg #[v0,v1,v2]] w (PushR q base F W fl tr 0 (l++[a]++[a]) w):=by
 obtain⟨L,hL⟩: ∃L,(l++[a]).length=L:=⟨_,rfl⟩;obtain⟨k,hk⟩: ∃k,l.length=k:=⟨_,rfl⟩;have hLk:L=k+1:=by rw[←hL,←hk];simp
 obtain⟨g,hvo,hsc,hcell⟩: ∃g,vo=some ⟨g,0,none⟩∧L≤vc∧ ∀i,i<L→w.cell? ⟨g,i,none⟩=some (.string ((l++[a]).getD i ⟨#[]⟩)):=by
  obtain⟨ao,cap,hv,h1,h2,h3⟩:=ho.rd;simp only[Value.slice.injEq] at hv;obtain⟨rfl,-,rfl⟩:=hv
  rcases ho.2 with⟨h4,h5⟩| ⟨g,cap',cur,h4,-⟩
  ·omega
  ·simp only[Value.slice.injEq] at h4
   obtain⟨rfl,-,-⟩:=h4;obtain⟨b',off,h6,h7⟩:=h3 (by omega);simp only[Option.some.injEq,Addr.mk.injEq] at h6;obtain⟨rfl,rfl,-⟩:=h6;exact⟨_,rfl,by omega,fun i hi=>by have:=h7 i (by omega);rwa [Nat.zero_add] at this⟩
 subst hvo;have HP:Hid (∀w1,yB w w1→yC 94 #[.pointer (some ⟨q,0,none⟩),.string a,yi 0,yi 0] w1 (PushR q base F W fl tr 0 (l++[a]++[a]) w1)):=fun w1 b1=>push_ok q base F W fl tr 0 0 a _ (l++[a]) vc w1 (hq.l b1) (ho.l b1) hl hb (Nat.le_trans hs b1.size) rfl
 have h0:=hcell k (by omega);rw[show(l++[a]).getD k ⟨#[]⟩=a by rw[←hk];simp] at h0
 rw[hL] at hq;obtain⟨W3,hW4,-,b2⟩:=cA w [v0,v1,v2] 37;replace hW4:Hid _:=hW4;have hwr:IntKind.i64.wrap ((L:Int)-(1:Int))=(k:Int):=by rw[show(L:Int)-1=(k:Int) by omega];exact IntWalk.i64_in _ ⟨by omega,by omega⟩
 have HU:=upper_W q F W fl tr 0 g L vc k 1 W3 (hq.l b2) hwr (by omega) (by omega) (by omega);replace HU:Hid _:=HU;have h1:=cell_later b2 h0;have HS:Hid (base≤w.heap.size):=hs;clear hk hLk hsc hl hb hs hL hcell hq ho h0 hwr
 go_enter func112,ntmps112
 go_upto_region 1 with fail
 rw[hW4.out];clear hW4
 go_wp2_with fail
 refine Calls.mono HU.out ?_;rintro z w1 ⟨rfl,b1⟩;have h2:=cell_later b1 h1;have b12:=aa b2 b1;clear h1 b1 b2 HU
 go_wp2_with fail
 refine(HP.out _ b12).mono ?_;rintro z w4 ⟨vo2,vc2,rfl,l5,o5,kp⟩;have HE:Hid (PushR q base F W fl tr 0 (l++[a]++[a]) w (.returned (yi 0)) w4):=⟨vo2,vc2,rfl,l5,o5,Kept.after b12 HS.out kp⟩;clear l5 o5 kp HP h2 b12
 go_wp2
 go_ret
 exact HE.out
end Go.Proofs.YtdhpndnncmagiaaGreatDoor
