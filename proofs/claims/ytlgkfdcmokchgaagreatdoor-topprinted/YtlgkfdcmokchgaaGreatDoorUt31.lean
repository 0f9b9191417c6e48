/-
  Texts laid together: Dy3, Aw0, Co2, Co3, Co21, Tx3, Co17, Gq9, Ar1, Tx2, Gh2, Eb3, Pa1, Fi1, Ty6.
-/
import Derived.Test.YtlgkfdcmokchgaaGreatDoorUt13
import Derived.Test.YtlgkfdcmokchgaaGreatDoorUt22
import Derived.Test.YtlgkfdcmokchgaaGreatDoorUt24
import Derived.Test.YtlgkfdcmokchgaaGreatDoorUt27
set_option maxRecDepth 100000
set_option maxHeartbeats 6400000
namespace Go.Proofs.YtlgkfdcmokchgaaGreatDoor
open _root_.Go.Proofs.Tryz
open Go.RowKit
theorem kL (v:Value)(t:ak)(w:World)(hv:Dv w v t)(hL:(Dg.dg 4294967296 t.n).length≤500000)(he: -1000000≤t.e∧t.e≤1000000)(hT:Tab w)(htz:tz t.n≤1000000):
  yC 163 #[v] w (gR w (bU t)):=by
 have HB:Hid (∀w1,yB w w1→yC 161 #[v] w1 (jN w1 (bare t))):=fun w1 b1=>II v t w1 (hv.l b1) hL he (hT.l b1) htz
 obtain⟨s0,rfl,hr⟩:=hv;obtain⟨ao,ca,rfl⟩:=hr.shape;obtain⟨ts,n,e⟩:=t;simp only at hr hL he htz⊢HB;obtain⟨m,hm⟩: ∃m,(Dg.dg 4294967296 n).length=m:=⟨_,rfl⟩;rw[hm] at HB⊢;obtain⟨⟨bs,bn,be⟩,hbt⟩: ∃bt,bare ⟨ts,n,e⟩=bt:=⟨_,rfl⟩;unfold bU;rw[hbt] at HB⊢;simp only at HB⊢;clear hbt hm hr hL he htz hT;have l1:=(aA w (.bool ts) (.slice ao m ca) (yi e) 197).l (af _ (.cells (ydA false yN 0) 78));have l2:=aA (w.alloc (.cells (ydA ts (.slice ao m ca) e) 197)) (.bool false) yN (yi 0) 78;have bA:=aa (af w (.cells (ydA ts (.slice ao m ca) e) 197)) (af _ (.cells (ydA false yN 0) 78));rw[World.size_alloc] at l2
 by_cases h1:1200< (Dg.dg 4294967296 bn).length
 ·rw[if_pos h1]
  go_enter func163,ntmps163
  go_wp2_with fail
  refine(HB.out _ bA).mono ?_;rintro x w1 ⟨s,rfl,own1,b1⟩;have l1:=l1.l b1;have l2:=l2.l b1;have b01:=aa bA b1;rw[World.size_alloc,World.size_alloc] at own1;obtain⟨so,sc,hs⟩:=own1.rd.shape;subst hs;obtain⟨hl1,⟨c0,c1,c2⟩,f0,f1,f2⟩:=id l1;obtain⟨hl2,⟨d0,d1,d2⟩,k0,k1,k2⟩:=id l2;clear bA b1 HB
  go_wp2
  obtain⟨-,⟨g0,g1,g2⟩,-⟩:=aD (l2.apart (c:=w.heap.size) (by omega) (.bool bs) (yT so bn sc) (yi be)) (.bool false) yN (yi 0);have b2:=am (am b01 (Nat.le_refl _) (.bool bs) (yT so bn sc) (yi be)) (show w.heap.size≤w.heap.size+1 by omega) (.bool false) yN (yi 0)
  refine bodyPost_ret (v:= .tuple #[.agg #[(.bool false),yN,(yi 0)],yi 2]) (by simp[results,results163,go_sem,g0,g1,g2]) rfl ?_;exact⟨_,rfl,aQ _ _ _ _,b2⟩
 ·rw[if_neg h1]
  by_cases h2:be< -20000
  ·rw[if_pos (Or.inl h2)]
   go_enter func163,ntmps163
   go_wp2_with fail
   refine(HB.out _ bA).mono ?_;rintro x w1 ⟨s,rfl,own1,b1⟩;have l1:=l1.l b1;have l2:=l2.l b1;have b01:=aa bA b1;rw[World.size_alloc,World.size_alloc] at own1;obtain⟨so,sc,hs⟩:=own1.rd.shape;subst hs;obtain⟨hl1,⟨c0,c1,c2⟩,f0,f1,f2⟩:=id l1;obtain⟨hl2,⟨d0,d1,d2⟩,k0,k1,k2⟩:=id l2;clear bA b1 HB
   go_wp2
   obtain⟨-,⟨g0,g1,g2⟩,-⟩:=aD (l2.apart (c:=w.heap.size) (by omega) (.bool bs) (yT so bn sc) (yi be)) (.bool false) yN (yi 0);have b2:=am (am b01 (Nat.le_refl _) (.bool bs) (yT so bn sc) (yi be)) (show w.heap.size≤w.heap.size+1 by omega) (.bool false) yN (yi 0)
   refine bodyPost_ret (v:= .tuple #[.agg #[(.bool false),yN,(yi 0)],yi 3]) (by simp[results,results163,go_sem,g0,g1,g2]) rfl ?_;exact⟨_,rfl,aQ _ _ _ _,b2⟩
  ·by_cases h3:20000<be
   ·rw[if_pos (Or.inr h3)]
    go_enter func163,ntmps163
    go_wp2_with fail
    refine(HB.out _ bA).mono ?_;rintro x w1 ⟨s,rfl,own1,b1⟩;have l1:=l1.l b1;have l2:=l2.l b1;have b01:=aa bA b1;rw[World.size_alloc,World.size_alloc] at own1;obtain⟨so,sc,hs⟩:=own1.rd.shape;subst hs;obtain⟨hl1,⟨c0,c1,c2⟩,f0,f1,f2⟩:=id l1;obtain⟨hl2,⟨d0,d1,d2⟩,k0,k1,k2⟩:=id l2;clear bA b1 HB
    go_wp2
    obtain⟨-,⟨g0,g1,g2⟩,-⟩:=aD (l2.apart (c:=w.heap.size) (by omega) (.bool bs) (yT so bn sc) (yi be)) (.bool false) yN (yi 0);have b2:=am (am b01 (Nat.le_refl _) (.bool bs) (yT so bn sc) (yi be)) (show w.heap.size≤w.heap.size+1 by omega) (.bool false) yN (yi 0)
    refine bodyPost_ret (v:= .tuple #[.agg #[(.bool false),yN,(yi 0)],yi 3]) (by simp[results,results163,go_sem,g0,g1,g2]) rfl ?_;exact⟨_,rfl,aQ _ _ _ _,b2⟩
   ·rw[if_neg (by omega)]
    go_enter func163,ntmps163
    go_wp2_with fail
    refine(HB.out _ bA).mono ?_;rintro x w1 ⟨s,rfl,own1,b1⟩;have l1:=l1.l b1;have l2:=l2.l b1;have b01:=aa bA b1;rw[World.size_alloc,World.size_alloc] at own1;obtain⟨so,sc,hs⟩:=own1.rd.shape;subst hs;obtain⟨hl1,⟨c0,c1,c2⟩,f0,f1,f2⟩:=id l1;obtain⟨hl2,⟨d0,d1,d2⟩,k0,k1,k2⟩:=id l2;clear bA b1 HB
    go_wp2
    obtain⟨-,⟨g0,g1,g2⟩,-⟩:=aD (l2.apart (c:=w.heap.size) (by omega) (.bool bs) (yT so bn sc) (yi be)) (.bool bs) (yT so bn sc) (yi be);have own2:=(own1.apart3 (b:=w.heap.size) (by omega) (.bool bs) (yT so bn sc) (yi be)).apart3 (b:=w.heap.size+1) (by omega) (.bool bs) (yT so bn sc) (yi be);have b2:=am (am b01 (Nat.le_refl _) (.bool bs) (yT so bn sc) (yi be)) (show w.heap.size≤w.heap.size+1 by omega) (.bool bs) (yT so bn sc) (yi be)
    refine bodyPost_ret (v:= .tuple #[.agg #[(.bool bs),(yT so bn sc),(yi be)],yi 0]) (by simp[results,results163,go_sem,g0,g1,g2]) rfl ?_;exact⟨_,rfl,own2.lower (by omega),b2⟩
theorem afy {P:Program}{w0 w:World}{n b:Nat}{ty:TypeId}{z0 z1 z2:Value}{d:TypeDesc}(h:au w b ty [z0,z1,z2])(hb:Below n w0 w)(hn:n≤b)(hu:P.underlying ty=some d)(hd:d.isRow=true)(hi:(P.info? ty).map (·.size)=some 3)(v0 v1 v2:Value):
  (loadVar ty ⟨b,0,none⟩).run P (((w.setCell ⟨b,0,none⟩ v0).setCell ⟨b,1,none⟩ v1).setCell ⟨b,2,none⟩ v2)= .ok (.agg #[v0,v1,v2]) (((w.setCell ⟨b,0,none⟩ v0).setCell ⟨b,1,none⟩ v1).setCell ⟨b,2,none⟩ v2)∧Below n w0 (((w.setCell ⟨b,0,none⟩ v0).setCell ⟨b,1,none⟩ v1).setCell ⟨b,2,none⟩ v2)∧But b w (((w.setCell ⟨b,0,none⟩ v0).setCell ⟨b,1,none⟩ v1).setCell ⟨b,2,none⟩ v2):=by
 have cR:au (((w.setCell ⟨b,0,none⟩ v0).setCell ⟨b,1,none⟩ v1).setCell ⟨b,2,none⟩ v2) b ty [v0,v1,v2]:=(((h.set 0 v0).set 1 v1).set 2 v2);have bu:=((ag w b 0 v0).trans (ag _ b 1 v1)).trans (ag _ b 2 v2);exact⟨run_loadVar_mid (P:=P) _ b 0 ty [v0,v1,v2] _ cR.range hu hd hi,bu.below hb hn,bu⟩
set_option maxRecDepth 20000 in
theorem jG (w:World):yC 121 #[] w (yR w (.agg Ar.toArray)):=by
 have l0:au (w.alloc (.cells Tryz.zeroCells190 190)) w.heap.size 190 Tryz.zeroCells190.toList:=by
  have:=ah w Tryz.zeroCells190.toList 190
  rwa [Array.toArray_toList] at this
 have th:=l0.there 81 (by kernel_rfl);have cR:=l0.sets Ar (by kernel_rfl);have bu:=de w.heap.size Ar 0 (w.alloc (.cells Tryz.zeroCells190 190));have bR:=bu.below (af w (.cells Tryz.zeroCells190 190)) (Nat.le_refl _);have hl:=run_loadVar_mid (P:=Tryz.prog) _ w.heap.size 0 190 Ar _ cR.range underlying190 rfl (by kernel_rfl);have HH:Hid (_∧_):=⟨hl,bR⟩;clear hl bR cR bu l0
 go_enter func121,ntmps121
 go_wp2_with (refine wpList_store_mid rfl 190 (.tmp 0) (.tmp 28) rfl w.heap.size 0 #[yi 0,yi 0,yi 0,yi 0,.bool false,yi 0,yi 0,yi 0,.nilFunc,yi 2,yi 24,yi (-149),yi 104,.bool true,yi 4,yi 8,yi 1,.func (.func 154) #[] #[],yi 2,yi 53,yi (-1074),yi 971,.bool true,yi 8,yi 11,yi 1,.func (.func 154) #[] #[],yi 2,yi 64,yi (-16445),yi 16320,.bool true,yi 10,yi 15,yi 1,.func (.func 155) #[] #[],yi 16,yi 6,yi (-70),yi 57,.bool false,yi 4,yi 7,yi 2,.func (.func 154) #[] #[],yi 16,yi 14,yi (-78),yi 49,.bool false,yi 8,yi 7,yi 2,.func (.func 154) #[] #[],yi 2,yi 24,yi (-151),yi 103,.bool false,yi 4,yi 8,yi 3,.func (.func 156) #[] #[],yi 2,yi 56,yi (-183),yi 71,.bool false,yi 8,yi 8,yi 3,.func (.func 156) #[] #[],yi 2,yi 53,yi (-1076),yi 970,.bool false,yi 8,yi 11,yi 3,.func (.func 156) #[] #[]] rfl rfl th (by kernel_rfl) (by simp[Value.oneCell']) ?_)
 change bodyPost _ _ _ _ _ (World.setCells (w.alloc (.cells Tryz.zeroCells190 190)) w.heap.size 0 Ar);obtain⟨hl,bR⟩:=HH.out;generalize World.setCells (w.alloc (.cells Tryz.zeroCells190 190)) w.heap.size 0 Ar=W at hl bR⊢;exact bodyPost_ret (v:= .agg Ar.toArray) (br results121 rfl hl) rfl ⟨rfl,bR⟩
theorem kC (k R D L G sz ex fam c:Int)(gr:Bool)(F:Nat)(A:Value)(w:World)(hc:(c==0)=false)
  (HF: ∀w1,yC 36 #[yi k] w1 fun z w'=>z= .returned (yi c)∧w'=w1)
  (HL: ∀w1,yC 121 #[] w1 fun z w'=>z= .returned A∧yB w1 w')
  (hix: ∀W:World,(Instr.index 190 A (yi k)).run Tryz.prog W= .ok (ylV R D L G gr sz ex fam F) W):
  yC 79 #[yi k] w (yR w (.tuple #[ylV R D L G gr sz ex fam F,yi 0])):=by
 replace HF:Hid _:=HF;replace HL:Hid _:=HL;have hsf:=cD;have l0:=ah w (yzL 0 0 0 0 false 0 0 0) 110;have b0:=af w (.cells (yzA 0 0 0 0 false 0 0 0) 110)
 go_enter func79,ntmps79
 go_wp2_with fail
 refine(HF.out _).mono ?_;rintro z w' ⟨rfl,rfl⟩
 go_wp2_with fail
 refine(HL.out _).mono ?_;rintro z w2 ⟨rfl,b2⟩;have l2:=l0.l b2;have cR:au (((((((((w2.setCell ⟨w.heap.size,0,none⟩ (yi R)).setCell ⟨w.heap.size,1,none⟩ (yi D)).setCell ⟨w.heap.size,2,none⟩ (yi L)).setCell ⟨w.heap.size,3,none⟩ (yi G)).setCell ⟨w.heap.size,4,none⟩ (.bool gr)).setCell ⟨w.heap.size,5,none⟩ (yi sz)).setCell ⟨w.heap.size,6,none⟩ (yi ex)).setCell ⟨w.heap.size,7,none⟩ (yi fam)).setCell ⟨w.heap.size,8,none⟩ (.func (.func F) #[] #[])) w.heap.size 110 (ylL R D L G gr sz ex fam F):=(((((((((l2.set 0 (yi R)).set 1 (yi D)).set 2 (yi L)).set 3 (yi G)).set 4 (.bool gr)).set 5 (yi sz)).set 6 (yi ex)).set 7 (yi fam)).set 8 (.func (.func F) #[] #[]));have bR:=(((((((((ag w2 w.heap.size 0 (yi R)).trans (ag _ w.heap.size 1 (yi D))).trans (ag _ w.heap.size 2 (yi L))).trans (ag _ w.heap.size 3 (yi G))).trans (ag _ w.heap.size 4 (.bool gr))).trans (ag _ w.heap.size 5 (yi sz))).trans (ag _ w.heap.size 6 (yi ex))).trans (ag _ w.heap.size 7 (yi fam))).trans (ag _ w.heap.size 8 (.func (.func F) #[] #[]))).below (aa b0 b2) (Nat.le_refl _);have hl:=run_loadVar_mid (P:=Tryz.prog) _ w.heap.size 0 110 (ylL R D L G gr sz ex fam F) _ cR.range underlying110 rfl (by kernel_rfl);have HH:Hid (_∧_):=⟨hl,bR⟩;have f0:=l2.f 0;have f1:=l2.f 1;have f2:=l2.f 2;have f3:=l2.f 3;have f4:=l2.f 4;have f5:=l2.f 5;have f6:=l2.f 6;have f7:=l2.f 7;have f8:=l2.f 8;obtain⟨x0,x1,x2,x3,x4,x5,x6,x7,x8⟩:=l2.cs9;clear hl bR cR l0 l2 b0 b2 HF HL
 go_wp2
 obtain⟨hl,bR⟩:=HH.out;exact bodyPost_ret (aj results79 rfl rfl hl) rfl ⟨rfl,bR⟩
theorem Uj (R D L G fam:Int)(gr:Bool)(sz ex:Nat)(F:Nat)(c p:Int)(ng:Bool)(ao:Option Addr)(dn dc:Nat)(sg0:Bool)(se sf:Nat)(w:World)
  (HS:yJ 130 #[ylV R D L G gr sz ex fam F,yi c] (.tuple #[yfV sg0 se sf,.bool true]))
  (HG:yJ 131 #[ylV R D L G gr sz ex fam F,yi c] (.bool true))
  (st:ByteArray) (HW:yJ 132 #[ylV R D L G gr sz ex fam F,yfV (sg0||ng) se sf] (.string st)) (hd:dn=0) (hp:p=0) (hn:ng=true):
  yC 87 #[ylV R D L G gr sz ex fam F,yvV c ng (.slice ao dn dc) p] w (yR w (.tuple #[.string st,yi 0])):=by
 subst hd hp hn;have HG':Hid _:=HG;have HW':Hid _:=HW;have hsf:=cD;have bf:=af (w.alloc (.cells (ylA R D L G gr sz ex fam F) 110)) (.cells (yvA c true (.slice ao 0 dc) 0) 48);have l0:=(ah w (ylL R D L G gr sz ex fam F) 110).l bf;have m0:=ah (w.alloc (.cells (ylA R D L G gr sz ex fam F) 110)) (yvL c true (.slice ao 0 dc) 0) 48;have b0:=aa (af w (.cells (ylA R D L G gr sz ex fam F) 110)) bf;rw[World.size_alloc] at m0;have HS':Hid _:=HS;clear HS bf
 go_enter func87,ntmps87
 go_wp2_with fail
 refine(HS'.out _).mono ?_;rintro z w1 ⟨rfl,b1⟩;have bq:=af w1 (.cells (yfA sg0 se sf) 112);have l1:=(l0.l b1).l bq;have m1:=(m0.l b1).l bq;have q1:=ah w1 (yfL sg0 se sf) 112;have b01:=aa (aa b0 b1) bq;obtain⟨x0,x1,x2,x3,x4,x5,x6,x7,x8⟩:=l1.cs9;obtain⟨u0,u1,u2,u3⟩:=m1.cs4;obtain⟨s0,s1,s2⟩:=q1.cs3;have hlw:w.heap.size<w1.heap.size:=(l0.l b1).lt;clear l0 m0 b0 b1 bq HS'
 go_wp2_with fail
 refine(HG'.out _).mono ?_;rintro z w2 ⟨rfl,b2⟩;have l2:=l1.l b2;have m2:=m1.l b2;have q2:=q1.l b2;have b02:=aa b01 b2;clear l1 m1 q1 b01 b2 x0 x1 x2 x3 x4 x5 x6 x7 x8 u0 u1 u2 u3 s0 s1 s2;obtain⟨x0,x1,x2,x3,x4,x5,x6,x7,x8⟩:=l2.cs9;obtain⟨u0,u1,u2,u3⟩:=m2.cs4;obtain⟨s0,s1,s2⟩:=q2.cs3;have k0:=q2.f 0;have hne0:w1.heap.size≠w.heap.size:=Nat.ne_of_gt hlw;have b03:=(ag _ w1.heap.size 0 (.bool true)).below b02 (Nat.le_of_lt hlw);clear HW HG
 cases sg0
 all_goals go_wp2_with fail
 all_goals (refine(HW'.out _).mono ?_;rintro z w3 ⟨rfl,b3⟩;go_wp2;go_ret2;exact⟨rfl,aa b03 b3⟩)
theorem reduced_any (ao:Option Addr)(la ca m n:Nat)(w:World)(hr:Rd w .u32 (.slice ao la ca) (Dg.dg 4294967296 m))(hl:(Dg.dg 4294967296 m).length≤10000)(hn:n≤300000):
  yC 107 #[.slice ao la ca,yi n] w (TwR w (redF m n).1 (5^ (redF m n).2)):=by
 have HF:Hid (∀(k:Nat) w1,k≤300000→yC 106 #[yi k] w1 (NmR w1 (5^k))):=fun k w1 h=>fives_any k w1 h
 have HO:Hid (∀(v:Value) (m' q:Nat) w1,m'≤m→Rd w1 .u32 v (Dg.dg 4294967296 m')→au w1 q 54 [.int .u32 5]→yC 92 #[v,.slice (some ⟨q,0,none⟩) 1 1] w1 (Two w1 (m'/5) (m' % 5))):=fun v m' q w1 hm hv hq=>by
  have h5:Rd w1 .u32 (.slice (some ⟨q,0,none⟩) 1 1) [5]:=⟨_,_,rfl,by simp,by unfold maxLen;simp,fun _=>⟨_,0,rfl,fun i hi=>by
   obtain rfl:i=0:=by simpa using hi
   exact hq.c 0 rfl⟩⟩
  have hlen:(Dg.dg 4294967296 m').length≤900000:=Nat.le_trans (tD hm) (by omega);have:=A9 v _ (Dg.dg 4294967296 m') [5] w1 hv h5 (Dg.small_dg _ _ (by omega)) (Dg.small_cons.2 ⟨by omega,Dg.small_nil _ (by omega)⟩) (Dg.norm_dg _ _ (by omega)) (by have:=Dg.norm_dg 4294967296 5 (by omega);rwa [show Dg.dg 4294967296 5=[5] by decide] at this) (by simp) hlen
  rw[Dg.vl_dg _ _ (by omega)] at this;exact this
 obtain⟨R,hR⟩: ∃r,redF m n=r:=⟨_,rfl⟩;rw[hR];have b0:=Below.refl w.heap.size w;have hst:Hid (redF m n=R∧m≤m∧n≤300000):=⟨hR,Nat.le_refl _,hn⟩;clear hl hR
 go_enter func107,ntmps107
 go_wp2
 go_loopw [0,1] (fun nv kv wr=> ∃m' k:Nat,kv=yi k∧Rd wr .u32 nv (Dg.dg 4294967296 m')∧yB w wr∧Hid (redF m' k=R∧m'≤m∧k≤300000)) (fun _ kv _=>(intOf kv).toNat)
 case atStart=>exact⟨m,n,rfl,hr,b0,hst⟩
 case round=>
  clear hr b0 hst hn;obtain⟨m',k,rfl,hr,b0,hst⟩:=hrel;obtain⟨vo,vc,hv⟩:=hr.shape;subst hv
  cases k with
  |zero=>
   obtain⟨h1,-,-⟩:=hst.out;have HF0:Hid _:=HF.out 0 wr (by omega)
   go_wp2_with fail
   refine Calls.mono HF0.out ?_;rintro z w1 ⟨v,rfl,rv,b⟩;have r2:=hr.l b;have bb:=aa b0 b;clear hr b0 b HF0
   go_wp2
   go_ret2
   rw[←h1];exact⟨_,_,rfl,r2,rv,bb⟩
  |succ k=>
   have hk:Hid (k+1≤300000):=hst.out.2.2;have hk1:k≤300000:=by have:=hk.out;omega
   have al:=af wr (.cells #[.int .u32 5] 54);have q:=ah wr [.int .u32 5] 54;have HO1:Hid _:=HO.out _ m' _ _ hst.out.2.1 (hr.l al) q;have hkp:(0:Int)< ((k+1:Nat):Int):=by omega
   go_wp2_with fail
   refine Calls.mono HO1.out ?_;rintro z w1 ⟨v1,v2,rfl,o1,o2,b⟩;have b1:=aa al b;have r0:=hr.l b1;have r1:=o1.rd;have r2:=o2.rd;have bb:=aa b0 b1;obtain⟨po,pc,hv⟩:=r1.shape;subst hv;obtain⟨so,sc,hv⟩:=r2.shape;subst hv;clear al q HO1 b hr b0 o1 o2 b1 r2
   by_cases h5:m' % 5=0
   ·have hl0:(Dg.dg 4294967296 (m' % 5)).length=0:=by rw[h5];rfl
    clear r0
    go_wp2
    go_roundw
    case rel=>exact⟨m'/5,k,by go_num,r1,bb,by
     obtain⟨h1,h2,h3⟩:=hst.out;unfold redF at h1;rw[if_pos h5] at h1;exact⟨h1,Nat.le_trans (Nat.div_le_self _ _) h2,by omega⟩⟩
    case measure=>simp[intOf]
   ·have hl0:0< (Dg.dg 4294967296 (m' % 5)).length:=by
     rcases Nat.eq_zero_or_pos (Dg.dg 4294967296 (m' % 5)).length with c|c
     ·exact absurd ((Dg.dg_nil_iff 4294967296 _ (by omega)).1 (List.length_eq_zero_iff.1 c)) h5
     ·exact c
    have HF0:Hid _:=HF.out (k+1) w1 hk.out
    go_wp2_with fail
    refine Calls.mono HF0.out ?_;rintro z w2 ⟨v,rfl,rv,b⟩;have r3:=r0.l b;have b4:=aa bb b;clear r0 r1 bb b HF0
    go_wp2
    go_ret2
    have h1:=hst.out.1;unfold redF at h1;rw[if_neg h5] at h1;rw[←h1];exact⟨_,_,rfl,r3,rv,b4⟩
theorem GA (n:Int)(s:ByteArray)(w:World)
  (HL:yJ 79 #[yi n] (.tuple #[yzV 0 0 0 0 false 0 0 0,yi 6])):
  yC 53 #[yi n,.string s] w (yR w (.tuple #[yzV 0 0 0 0 false 0 0 0,yfV false 0 0,yi 6])):=by
 have hsf:=cD;have hsn:=gn;have bl:=af w (.cells (yzA 0 0 0 0 false 0 0 0) 110);have bf:=af (w.alloc (.cells (yzA 0 0 0 0 false 0 0 0) 110)) (.cells (yfA false 0 0) 112);have l0:=(ah w (yzL 0 0 0 0 false 0 0 0) 110).l bf;have m0:=ah (w.alloc (.cells (yzA 0 0 0 0 false 0 0 0) 110)) (yfL false 0 0) 112;have b0:=aa bl bf;rw[World.size_alloc] at m0;clear bl bf;have HL':Hid _:=HL;clear HL
 go_enter func53,ntmps53
 go_wp2_with fail
 refine(HL'.out _).mono ?_;rintro z w1 ⟨rfl,b1⟩;have bq:=af w1 (.cells (yzA 0 0 0 0 false 0 0 0) 110);have l1:=(l0.l b1).l bq;have m1:=(m0.l b1).l bq;have q1:=ah w1 (yzL 0 0 0 0 false 0 0 0) 110;have b01:=aa (aa b0 b1) bq;have hne0:w.heap.size≠w1.heap.size:=Nat.ne_of_lt (l0.l b1).lt;have hne1:w.heap.size+1≠w1.heap.size:=Nat.ne_of_lt (m0.l b1).lt;obtain⟨p0,p1,p2,p3,p4,p5,p6,p7,p8⟩:=q1.cs9;obtain⟨x0,x1,x2,x3,x4,x5,x6,x7,x8⟩:=l1.cs9;have jx0:=l1.f 0;have jx1:=l1.f 1;have jx2:=l1.f 2;have jx3:=l1.f 3;have jx4:=l1.f 4;have jx5:=l1.f 5;have jx6:=l1.f 6;have jx7:=l1.f 7;have jx8:=l1.f 8;obtain⟨y0,y1,y2⟩:=m1.cs3;have jy0:=m1.f 0;have jy1:=m1.f 1;have jy2:=m1.f 2;have hn1:w.heap.size+1≠w.heap.size:=Nat.succ_ne_self _;have cL:au (((((((((((((w1.alloc (.cells (yzA 0 0 0 0 false 0 0 0) 110)).setCell ⟨w.heap.size,0,none⟩ (yi 0)).setCell ⟨w.heap.size,1,none⟩ (yi 0)).setCell ⟨w.heap.size,2,none⟩ (yi 0)).setCell ⟨w.heap.size,3,none⟩ (yi 0)).setCell ⟨w.heap.size,4,none⟩ (.bool false)).setCell ⟨w.heap.size,5,none⟩ (yi 0)).setCell ⟨w.heap.size,6,none⟩ (yi 0)).setCell ⟨w.heap.size,7,none⟩ (yi 0)).setCell ⟨w.heap.size,8,none⟩ (.nilFunc)).setCell ⟨w.heap.size+1,0,none⟩ (.bool false)).setCell ⟨w.heap.size+1,1,none⟩ (yi 0)).setCell ⟨w.heap.size+1,2,none⟩ (.int .u64 0)) w.heap.size 110 (yzL 0 0 0 0 false 0 0 0):=((((((((((((l1.set 0 (yi 0)).set 1 (yi 0)).set 2 (yi 0)).set 3 (yi 0)).set 4 (.bool false)).set 5 (yi 0)).set 6 (yi 0)).set 7 (yi 0)).set 8 (.nilFunc)).off hn1 0 (.bool false)).off hn1 1 (yi 0)).off hn1 2 (.int .u64 0));have cM:au (((((((((((((w1.alloc (.cells (yzA 0 0 0 0 false 0 0 0) 110)).setCell ⟨w.heap.size,0,none⟩ (yi 0)).setCell ⟨w.heap.size,1,none⟩ (yi 0)).setCell ⟨w.heap.size,2,none⟩ (yi 0)).setCell ⟨w.heap.size,3,none⟩ (yi 0)).setCell ⟨w.heap.size,4,none⟩ (.bool false)).setCell ⟨w.heap.size,5,none⟩ (yi 0)).setCell ⟨w.heap.size,6,none⟩ (yi 0)).setCell ⟨w.heap.size,7,none⟩ (yi 0)).setCell ⟨w.heap.size,8,none⟩ (.nilFunc)).setCell ⟨w.heap.size+1,0,none⟩ (.bool false)).setCell ⟨w.heap.size+1,1,none⟩ (yi 0)).setCell ⟨w.heap.size+1,2,none⟩ (.int .u64 0)) (w.heap.size+1) 112 (yfL false 0 0):=((((((((((((m1.off (Ne.symm hn1) 0 (yi 0)).off (Ne.symm hn1) 1 (yi 0)).off (Ne.symm hn1) 2 (yi 0)).off (Ne.symm hn1) 3 (yi 0)).off (Ne.symm hn1) 4 (.bool false)).off (Ne.symm hn1) 5 (yi 0)).off (Ne.symm hn1) 6 (yi 0)).off (Ne.symm hn1) 7 (yi 0)).off (Ne.symm hn1) 8 (.nilFunc)).set 0 (.bool false)).set 1 (yi 0)).set 2 (.int .u64 0));have bR:=(((ag _ (w.heap.size+1) 0 (.bool false)).trans (ag _ (w.heap.size+1) 1 (yi 0))).trans (ag _ (w.heap.size+1) 2 (.int .u64 0))).below ((((((((((ag (w1.alloc (.cells (yzA 0 0 0 0 false 0 0 0) 110)) w.heap.size 0 (yi 0)).trans (ag _ w.heap.size 1 (yi 0))).trans (ag _ w.heap.size 2 (yi 0))).trans (ag _ w.heap.size 3 (yi 0))).trans (ag _ w.heap.size 4 (.bool false))).trans (ag _ w.heap.size 5 (yi 0))).trans (ag _ w.heap.size 6 (yi 0))).trans (ag _ w.heap.size 7 (yi 0))).trans (ag _ w.heap.size 8 (.nilFunc))).below b01 (Nat.le_refl _)) (Nat.le_succ _);have hl:=run_loadVar_mid (P:=Tryz.prog) _ w.heap.size 0 110 (yzL 0 0 0 0 false 0 0 0) _ cL.range underlying110 rfl (by kernel_rfl);have hm:=run_loadVar_mid (P:=Tryz.prog) _ (w.heap.size+1) 0 112 (yfL false 0 0) _ cM.range underlying112 rfl (by kernel_rfl);have HH:Hid (_∧_∧_):=⟨hl,hm,bR⟩;clear hl hm bR cL cM l1 m1 q1 b01 l0 m0 b0 bq b1
 go_wp2
 obtain⟨hl,hm,bR⟩:=HH.out;exact bodyPost_ret (kg results53 rfl rfl rfl hl hm) rfl ⟨rfl,bR⟩
theorem H6 (n:Int)(R sz ex:Nat)(D L G fam:Int)(gr:Bool)(F:Nat)(s:ByteArray)(w:World)(hs:s.size≠sz)
  (HL:yJ 79 #[yi n] (.tuple #[ylV R D L G gr sz ex fam F,yi 0])):
  yC 53 #[yi n,.string s] w (yR w (.tuple #[yzV 0 0 0 0 false 0 0 0,yfV false 0 0,yi 1])):=by
 have hsf:=cD;have hsn:=gn;have bl:=af w (.cells (yzA 0 0 0 0 false 0 0 0) 110);have bf:=af (w.alloc (.cells (yzA 0 0 0 0 false 0 0 0) 110)) (.cells (yfA false 0 0) 112);have l0:=(ah w (yzL 0 0 0 0 false 0 0 0) 110).l bf;have m0:=ah (w.alloc (.cells (yzA 0 0 0 0 false 0 0 0) 110)) (yfL false 0 0) 112;have b0:=aa bl bf;rw[World.size_alloc] at m0;clear bl bf;have HL':Hid _:=HL;clear HL
 go_enter func53,ntmps53
 go_wp2_with fail
 refine(HL'.out _).mono ?_;rintro z w1 ⟨rfl,b1⟩;have bq:=af w1 (.cells (ylA R D L G gr sz ex fam F) 110);have l1:=(l0.l b1).l bq;have m1:=(m0.l b1).l bq;have q1:=ah w1 (ylL R D L G gr sz ex fam F) 110;have b01:=aa (aa b0 b1) bq;have hne0:w.heap.size≠w1.heap.size:=Nat.ne_of_lt (l0.l b1).lt;have hne1:w.heap.size+1≠w1.heap.size:=Nat.ne_of_lt (m0.l b1).lt;obtain⟨p0,p1,p2,p3,p4,p5,p6,p7,p8⟩:=q1.cs9;obtain⟨x0,x1,x2,x3,x4,x5,x6,x7,x8⟩:=l1.cs9;have jx0:=l1.f 0;have jx1:=l1.f 1;have jx2:=l1.f 2;have jx3:=l1.f 3;have jx4:=l1.f 4;have jx5:=l1.f 5;have jx6:=l1.f 6;have jx7:=l1.f 7;have jx8:=l1.f 8;obtain⟨y0,y1,y2⟩:=m1.cs3;have jy0:=m1.f 0;have jy1:=m1.f 1;have jy2:=m1.f 2;have hsz:((s.size:Int)==(sz:Int))=false:=by simp;omega
 clear hs;have hn1:w.heap.size+1≠w.heap.size:=Nat.succ_ne_self _;have cL:au (((((((((((((w1.alloc (.cells (ylA R D L G gr sz ex fam F) 110)).setCell ⟨w.heap.size,0,none⟩ (yi 0)).setCell ⟨w.heap.size,1,none⟩ (yi 0)).setCell ⟨w.heap.size,2,none⟩ (yi 0)).setCell ⟨w.heap.size,3,none⟩ (yi 0)).setCell ⟨w.heap.size,4,none⟩ (.bool false)).setCell ⟨w.heap.size,5,none⟩ (yi 0)).setCell ⟨w.heap.size,6,none⟩ (yi 0)).setCell ⟨w.heap.size,7,none⟩ (yi 0)).setCell ⟨w.heap.size,8,none⟩ (.nilFunc)).setCell ⟨w.heap.size+1,0,none⟩ (.bool false)).setCell ⟨w.heap.size+1,1,none⟩ (yi 0)).setCell ⟨w.heap.size+1,2,none⟩ (.int .u64 0)) w.heap.size 110 (yzL 0 0 0 0 false 0 0 0):=((((((((((((l1.set 0 (yi 0)).set 1 (yi 0)).set 2 (yi 0)).set 3 (yi 0)).set 4 (.bool false)).set 5 (yi 0)).set 6 (yi 0)).set 7 (yi 0)).set 8 (.nilFunc)).off hn1 0 (.bool false)).off hn1 1 (yi 0)).off hn1 2 (.int .u64 0));have cM:au (((((((((((((w1.alloc (.cells (ylA R D L G gr sz ex fam F) 110)).setCell ⟨w.heap.size,0,none⟩ (yi 0)).setCell ⟨w.heap.size,1,none⟩ (yi 0)).setCell ⟨w.heap.size,2,none⟩ (yi 0)).setCell ⟨w.heap.size,3,none⟩ (yi 0)).setCell ⟨w.heap.size,4,none⟩ (.bool false)).setCell ⟨w.heap.size,5,none⟩ (yi 0)).setCell ⟨w.heap.size,6,none⟩ (yi 0)).setCell ⟨w.heap.size,7,none⟩ (yi 0)).setCell ⟨w.heap.size,8,none⟩ (.nilFunc)).setCell ⟨w.heap.size+1,0,none⟩ (.bool false)).setCell ⟨w.heap.size+1,1,none⟩ (yi 0)).setCell ⟨w.heap.size+1,2,none⟩ (.int .u64 0)) (w.heap.size+1) 112 (yfL false 0 0):=((((((((((((m1.off (Ne.symm hn1) 0 (yi 0)).off (Ne.symm hn1) 1 (yi 0)).off (Ne.symm hn1) 2 (yi 0)).off (Ne.symm hn1) 3 (yi 0)).off (Ne.symm hn1) 4 (.bool false)).off (Ne.symm hn1) 5 (yi 0)).off (Ne.symm hn1) 6 (yi 0)).off (Ne.symm hn1) 7 (yi 0)).off (Ne.symm hn1) 8 (.nilFunc)).set 0 (.bool false)).set 1 (yi 0)).set 2 (.int .u64 0));have bR:=(((ag _ (w.heap.size+1) 0 (.bool false)).trans (ag _ (w.heap.size+1) 1 (yi 0))).trans (ag _ (w.heap.size+1) 2 (.int .u64 0))).below ((((((((((ag (w1.alloc (.cells (ylA R D L G gr sz ex fam F) 110)) w.heap.size 0 (yi 0)).trans (ag _ w.heap.size 1 (yi 0))).trans (ag _ w.heap.size 2 (yi 0))).trans (ag _ w.heap.size 3 (yi 0))).trans (ag _ w.heap.size 4 (.bool false))).trans (ag _ w.heap.size 5 (yi 0))).trans (ag _ w.heap.size 6 (yi 0))).trans (ag _ w.heap.size 7 (yi 0))).trans (ag _ w.heap.size 8 (.nilFunc))).below b01 (Nat.le_refl _)) (Nat.le_succ _);have hl:=run_loadVar_mid (P:=Tryz.prog) _ w.heap.size 0 110 (yzL 0 0 0 0 false 0 0 0) _ cL.range underlying110 rfl (by kernel_rfl);have hm:=run_loadVar_mid (P:=Tryz.prog) _ (w.heap.size+1) 0 112 (yfL false 0 0) _ cM.range underlying112 rfl (by kernel_rfl);have HH:Hid (_∧_∧_):=⟨hl,hm,bR⟩;clear hl hm bR cL cM l1 m1 q1 b01 l0 m0 b0 bq b1
 go_wp2
 obtain⟨hl,hm,bR⟩:=HH.out;exact bodyPost_ret (kg results53 rfl rfl rfl hl hm) rfl ⟨rfl,bR⟩
theorem Bq {xs ys:List Nat}{E R D L G way:Int}(h:eA xs ys E=0)(h2:bk R D L G=0):eE xs ys E R D L G way=if iC way=true then 0 else 6:=by
 have e:jg (eA xs ys E) (bk R D L G)=bk R D L G:=if_pos h;unfold eE;rw[e,if_pos h2]
theorem IY (R D L G c p er:Int)(gr ng:Bool)(ao:Option Addr)(la ca:Nat)(t:ak)(w:World)
  (HN: ∀w1,yB w w1→yC 127 #[ypV ng (.slice ao la ca) p false false false,ygV R D L G gr] w1 (gR w1 (t,er))):
  yC 84 #[yvV c ng (.slice ao la ca) p,ygV R D L G gr] w (acy w t):=by
 replace HN:Hid _:=HN;have bv:=af w (.cells (yvA c ng (.slice ao la ca) p) 48);have bg:=af (w.alloc (.cells (yvA c ng (.slice ao la ca) p) 48)) (.cells (ygA R D L G gr) 82);have bx:=af ((w.alloc (.cells (yvA c ng (.slice ao la ca) p) 48)).alloc (.cells (ygA R D L G gr) 82)) (.cells (ydA false yN 0) 78);have v0:=((ah w (yvL c ng (.slice ao la ca) p) 48).l bg).l bx;have g0:=(ah (w.alloc (.cells (yvA c ng (.slice ao la ca) p) 48)) (ygL R D L G gr) 82).l bx;have x0:=ah ((w.alloc (.cells (yvA c ng (.slice ao la ca) p) 48)).alloc (.cells (ygA R D L G gr) 82)) (ydL false yN 0) 78;have b0:=aa (aa bv bg) bx;rw[World.size_alloc] at g0;rw[World.size_alloc,World.size_alloc] at x0;clear bv bg bx
 go_enter func84,ntmps84
 go_upto_region 1 with fail
 generalize((w.alloc (.cells (yvA c ng (.slice ao la ca) p) 48)).alloc (.cells (ygA R D L G gr) 82)).alloc (.cells (ydA false yN 0) 78)=W0 at v0 g0 x0 b0⊢;obtain⟨a0,a1,a2,a3⟩:=v0.cs4;obtain⟨y0,y1,y2,y3,y4⟩:=g0.cs5
 go_wp2_with fail
 refine(HN.out _ b0).mono ?_;rintro z w1 ⟨sv,rfl,o1,b1⟩;obtain⟨so,sc,hv⟩:=o1.rd.shape;subst hv;have r1:=o1.rd;have fa:Far w.heap.size (yT so t.n sc):=fun a n c hv=>Nat.le_trans b0.size (JH o1 a n c hv)
 simp only at r1⊢;clear o1 HN a0 a1 a2 a3 y0 y1 y2 y3 y4 v0 g0;have bl:=af w1 (.cells (yDA t so sc) 78);have q1:=ah w1 (yDL t so sc) 78;have r2:=r1.l bl;have x2:=(x0.l b1).l bl;have b02:=aa (aa b0 b1) bl;have hlt:w.heap.size+1+1<w1.heap.size:=(x0.l b1).lt
 go_upto_region 2 with fail
 generalize w1.alloc (.cells (yDA t so sc) 78)=W1 at q1 r2 x2 b02⊢;generalize w1.heap.size=PQ at q1 hlt⊢;have cR:au (((W1.setCell ⟨w.heap.size+1+1,0,none⟩ (.bool t.s)).setCell ⟨w.heap.size+1+1,1,none⟩ (yT so t.n sc)).setCell ⟨w.heap.size+1+1,2,none⟩ (yi t.e)) (w.heap.size+1+1) 78 (yDL t so sc):=(((x2.set 0 (.bool t.s)).set 1 (yT so t.n sc)).set 2 (yi t.e));have bu:=((ag W1 (w.heap.size+1+1) 0 (.bool t.s)).trans (ag _ (w.heap.size+1+1) 1 (yT so t.n sc))).trans (ag _ (w.heap.size+1+1) 2 (yi t.e));have bR:=bu.below b02 (by omega);have rR:=bu.rd r2 (aX r2 x2 (by simp));have hl:=run_loadVar_mid (P:=Tryz.prog) _ (w.heap.size+1+1) 0 78 (yDL t so sc) _ cR.range underlying78 rfl (by kernel_rfl);have HH:Hid (_∧_∧_):=⟨hl,rR,bR⟩;obtain⟨u0,u1,u2⟩:=x2.cs3;have f0:=x2.f 0;have f1:=x2.f 1;have f2:=x2.f 2;obtain⟨y0,y1,y2⟩:=q1.cs3;clear hl bR rR bu cR b02 r2 r1 b1 bl b0 x0 x2 q1
 go_wp2
 obtain⟨hl,rR,bR⟩:=HH.out;exact bodyPost_ret (br results84 rfl hl) rfl ⟨_,rfl,rR,fa,bR⟩
theorem tread_okt_e (pp:Int)(tx rz ro af wh be:ByteArray)(ng:Bool)(pw:Int)(w:World)(h4:tx.size≤400)(hsz:wh.size+be.size≤400)(hbe:be.toList.isEmpty=false)(hpp:IntKind.i64.wrap (pw-(be.size:Int))=pp)(hl: ¬pp< -6000)(hh: ¬6000<pp)
  (HP:yJ 102 #[.string tx,.string ⟨#[45]⟩] (.tuple #[.string rz,.bool ng]))
  (HE:yH w 103 #[.string rz,.string ⟨#[101]⟩] (.tuple #[.string ro,.string af,.bool true]))
  (HR:yJ 104 #[.string af] (.tuple #[yi pw,.bool true]))
  (HQ:yH w 103 #[.string ro,.string ⟨#[46]⟩] (.tuple #[.string wh,.string be,.bool true]))
  (HD:yJ 105 #[.string (wh++be)] (.bool true)):
  yC 73 #[.string tx] w (yR w (.tuple #[.agg #[.bool ng,.string (wh++be),yi pp],yi 0])):=by
 replace HP:Hid _:=HP;replace HE:Hid _:=HE;replace HR:Hid _:=HR;replace HQ:Hid _:=HQ;replace HD:Hid _:=HD;obtain⟨W3,hW4,q1,b2⟩:=cA w [.bool false,.string ⟨#[]⟩,yi 0] 136;replace hW4:Hid _:=hW4
 go_enter func73,ntmps73
 go_upto_region 1 with fail
 rw[hW4.out];clear hW4
 go_wp2_with fail
 refine(HP.out _).mono ?_;rintro zz w5 ⟨rfl,bb6⟩;have q7:=q1.l bb6;have b8:=aa b2 bb6;clear q1 b2 bb6 HP
 go_wp2_with fail
 refine(HE.out _ b8).mono ?_;rintro zz w9 ⟨rfl,bb10⟩;have q11:=q7.l bb10;have b12:=aa b8 bb10;clear q7 b8 bb10 HE
 go_wp2_with fail
 refine(HR.out _).mono ?_;rintro zz w13 ⟨rfl,bb14⟩;have q15:=q11.l bb14;have b16:=aa b12 bb14;clear q11 b12 bb14 HR
 go_wp2_with fail
 refine(HQ.out _ b16).mono ?_;rintro zz w17 ⟨rfl,bb18⟩;have q19:=q15.l bb18;have b20:=aa b16 bb18;clear q15 b16 bb18 HQ
 go_wp2_with fail
 refine(HD.out _).mono ?_;rintro zz w21 ⟨rfl,bb22⟩;have q23:=q19.l bb22;have b24:=aa b20 bb22;clear q19 b20 bb22 HD;have hf:=afy (P:=Tryz.prog) q23 b24 (by omega) underlying136 rfl (by kernel_rfl) (.bool ng) (.string (wh++be)) (yi pp);have HH:Hid (_∧_):=⟨hf.1,hf.2.1⟩;obtain⟨⟨z0,z1,z2⟩,y0,y1,y2⟩:=afA q23;clear hf q23 b24
 go_wp2
 obtain⟨hl,bR⟩:=HH.out;exact bodyPost_ret (aj results73 rfl rfl hl) rfl ⟨rfl,bR⟩
theorem VU (R D L G:Int)(gr s:Bool)(ao:Option Addr)(ca n:Nat)(e:Int)(w:World)(hg:bk R D L G=0)(hr:Rd w .u32 (.slice ao (Dg.dg 4294967296 n).length ca) (Dg.dg 4294967296 n))(hl:(Dg.dg 4294967296 n).length≤1200)(e1: -20000≤e)(e2:e≤20000)(hT:Tab w):
  Calls Tryz.prog 125 #[.agg #[.int .i64 R,.int .i64 D,.int .i64 L,.int .i64 G,.bool gr],.agg #[.bool s,.slice ao (Dg.dg 4294967296 n).length ca,.int .i64 e]] w (D7 w (dA R D L G gr n e) (fD R D L G gr n e) (fK R D L G gr n e)):=by
 have hdv:Dv w (.agg #[.bool s,.slice ao (Dg.dg 4294967296 n).length ca,.int .i64 e]) ⟨s,n,e⟩:=⟨_,rfl,hr⟩;obtain⟨hR,d1,d2,l1,l2,g1,g2,lg,l16⟩:=cB hg
 by_cases h0:n=0
 ·have hh:dA R D L G gr n e=true:=decide_eq_true (.inl h0)
  rw[hh,show fD R D L G gr n e=0 from if_pos h0,show fK R D L G gr n e=L from if_pos h0]
  refine RT R D L G gr s ao _ ca e w (fun w1 b=> ?_)
  have:=qB _ _ w1 (hdv.l b)
  rwa [show dJ ⟨s,n,e⟩=0 from if_pos h0] at this
 ·have hbn:bitLen n≤32*1200:=oP hl
  have htz:=gZ n 1200 hl;obtain⟨k1,k2,k3,k4⟩:=Og (gr:=gr) (n:=n) (e:=e) hg (by omega) (by omega) (by omega);have hbe:(bare ⟨s,n,e⟩).e=e+(tz n:Int):=(gN (t:=⟨s,n,e⟩) h0).2.1;obtain⟨⟨bs,bn,be⟩,hbt⟩: ∃b,bare ⟨s,n,e⟩=b:=⟨_,rfl⟩;rw[hbt] at hbe;simp only at hbe;have hi:=GK (R:=R) (D:=D) (L:=L) (G:=G) (gr:=gr) (e:=e) h0;refine adT R D L G gr s ao _ ca e (dJ ⟨s,n,e⟩) (bitLen n) (aT R D ((bitLen n:Int)-1+e)) (cP R D L gr n e) (ai R) bs bn be (decide (aT R D ((bitLen n:Int)-1+e)<L)) (decide (aT R D ((bitLen n:Int)-1+e)<L)&&gr) (dA R D L G gr n e) (fD R D L G gr n e) (fK R D L G gr n e) w ?_ ?_ ?_ ?_ ?_ rfl rfl ?_ ?_ ?_ ?_ ?_ ?_ ?_ ?_ ?_ ?_ ?_ ?_ ?_
  ·have:dJ ⟨s,n,e⟩≠0:=by
    unfold dJ;rw[if_neg h0]
    split<;>decide
   simpa using this
  ·exact IntWalk.i64_in _ ⟨by omega,by omega⟩
  ·exact IntWalk.i64_in _ ⟨by omega,by omega⟩
  ·exact IntWalk.i64_in _ ⟨by omega,by omega⟩
  ·exact IntWalk.i64_in _ ⟨by omega,by omega⟩
  ·intro h
   exact if_pos h
  ·intro h
   exact if_neg (by rw[h];decide)
  ·intro h
   have:=hi.1 h;omega
  ·intro h
   have: ¬(L≤cP R D L gr n e∧cP R D L gr n e≤G∧(ai R:Int)*cP R D L gr n e≤e+(tz n:Int)):=fun c=>by
    rw[hi.2 c] at h
    cases h
   omega
  ·intro h
   exact(if_neg h0).trans (if_pos h)
  ·intro h
   have h2: ¬dA R D L G gr n e=true:=by rw[h];decide
   exact⟨(if_neg h0).trans (if_neg h2),(if_neg h0).trans (if_neg h2)⟩
  ·intro w1 b
   exact qB _ _ w1 (hdv.l b)
  ·intro w1
   exact cN s ao _ ca e w1
  ·intro w1 b
   have:=kE _ _ w1 (hr.l b) (Dg.small_dg _ _ (by omega)) (Dg.norm_dg _ _ (by omega)) (by omega);rw[Dg.vl_dg _ _ (by omega)] at this;refine this.mono ?_;rintro z w' ⟨rfl,rfl⟩;exact⟨rfl,Below.refl _ _⟩
  ·intro w1
   exact FE R D L G gr _ w1 d1 d2 (by omega) (by omega)
  ·intro w1
   have:=tY R D L G gr w1
   rwa [jf] at this
  ·intro w1 b
   have:=II _ ⟨s,n,e⟩ w1 (hdv.l b) (by simp only;omega) ⟨by simp only;omega,by simp only;omega⟩ (hT.l b) (by simp only;omega)
   rwa [hbt] at this
  ·intro h w1 b
   have:=eO _ _ (e-(ai R:Int)*cP R D L gr n e) w1 (hr.l b) (Dg.small_dg _ _ (by omega)) (by omega) (by omega) (by omega);rw[Dg.vl_dg _ _ (by omega)] at this;rw[show fD R D L G gr n e=shN n (e-(ai R:Int)*cP R D L gr n e) from(if_neg h0).trans (if_pos h)]
   exact this
theorem Ry {k m:Nat}(hk:1≤k∧k≤8)(hm:m=1∨m=3∨m=4∨m=5)(g:Bool)(hs:iR k m=true)(hg:g=true→Bk k m=true):
  pg k m<2^exN k∧lS k m<2^frN k∧dh k (pI k m||g) (pg k m) (lS k m)=m∧kt k (pI k m||g) (pg k m) (lS k m)=g:=by
 revert hs hg
 rcases bO hk with rfl|rfl|rfl|rfl|rfl|rfl|rfl|rfl<;>rcases hm with rfl|rfl|rfl|rfl<;>cases g<;>decide
theorem aa0 {w:World}{q r:Nat}(h:w.cell? ⟨q,0,none⟩=some (.int .u32 r)):Rd w .u32 (.slice (some ⟨q,0,none⟩) 1 1) [r]:=
 ⟨_,1,rfl,Nat.le_refl _,by unfold maxLen;omega,fun _=>⟨q,0,rfl,fun i hi=>by
  obtain rfl:i=0:=by simpa using hi
  exact h⟩⟩
theorem afx (n wy fam R D L G rc:Int)(gr qs:Bool)(ao:Option Addr)(la ca:Nat)(bo:Option Addr)(lb cb:Nat)(E:Int)(ps:Bool)(pd:Nat)(pp:Int)(ex ov un:Bool)(c:Int)(g:Bool)(m:Nat)(q fl:Int)(st:ByteArray)(f1 e1:Int)(X:Value)(w:World)
  (hX0:rc≠0→X= .tuple #[.string ⟨#[]⟩,yi 0,yi rc]) (hX1:rc=0→X= .tuple #[.string st,yi f1,yi e1])
  (HD:yJ 58 #[yi n] (.tuple #[ykV n 0 fam R D L G gr,yi 0]))
  (HR: ∀w1,yB w w1→yC 39 #[yrV qs (.slice ao la ca) (.slice bo lb cb) E,ygV R D L G gr,yi wy] w1 fun z w'=> ∃po pc,z= .returned (.tuple #[ypV ps (yT po pd pc) pp ex ov un,yi rc])∧Rd w' .u32 (yT po pd pc) (Dg.dg 4294967296 pd)∧yB w1 w')
  (HSt:rc=0→ ∀po pc w1,yB w w1→Rd w1 .u32 (yT po pd pc) (Dg.dg 4294967296 pd)→yC 60 #[ykV n wy fam R D L G gr,ypV ps (yT po pd pc) pp ex ov un] w1 (B6 w1 c g m q fl))
  (HEn:rc=0→ ∀vo vc w1,yB w w1→Rd w1 .u32 (yT vo m vc) (Dg.dg 4294967296 m)→yC 59 #[ykV n wy fam R D L G gr,yvV c g (yT vo m vc) q,yi fl] w1 (yR w1 (.tuple #[.string st,yi f1,yi e1]))):
  yC 23 #[yi n,yrV qs (.slice ao la ca) (.slice bo lb cb) E,yi wy] w fun z w'=>z= .returned X∧yB w w':=by
 replace HD:Hid _:=HD;replace HR:Hid _:=HR;replace HSt:Hid _:=HSt;replace HEn:Hid _:=HEn;replace hX0:Hid _:=hX0;replace hX1:Hid _:=hX1;have a0:=af w (.cells (yrA qs (.slice ao la ca) (.slice bo lb cb) E) 60);have q0:=ah w (yrL qs (.slice ao la ca) (.slice bo lb cb) E) 60
 go_enter func23,ntmps23
 go_wp2_with fail
 refine(HD.out _).mono ?_;rintro z w1 ⟨rfl,b1⟩;have al:=af w1 (.cells (ykA n 0 fam R D L G gr) 121);have d1:=ah w1 (ykL n 0 fam R D L G gr) 121;have q1:=(q0.l b1).l al;have b2:=aa (aa a0 b1) al;have hqd:w.heap.size<w1.heap.size:=(q0.l b1).lt;clear a0 b1 al q0 HD
 go_upto_region 2 with fail
 generalize w1.alloc (.cells (ykA n 0 fam R D L G gr) 121)=W1 at b2 d1 q1⊢;generalize w1.heap.size=PD at d1 hqd⊢;have bu:=ag W1 PD 1 (yi wy);have d2:au (W1.setCell ⟨PD,1,none⟩ (yi wy)) PD 121 (ykL n wy fam R D L G gr):=d1.set 1 (yi wy);have q2:=bu.loc q1 (by omega);have b3:=bu.below b2 (by omega);have x1:=d1.c 1 rfl;have f1':=d1.f 1;clear bu d1 q1 b2
 go_upto_region 5 with fail
 generalize W1.setCell ⟨PD,1,none⟩ (yi wy)=W2 at d2 q2 b3⊢;obtain⟨y0,y1,y2,y3,y4,y5,y6,y7⟩:=d2.cs8;obtain⟨z0,z1,z2,z3⟩:=q2.cs4
 go_wp2_with fail
 refine(HR.out _ b3).mono ?_;rintro z w3 ⟨po,pc,rfl,rp,bp⟩;have al:=af w3 (.cells (ypA ps (yT po pd pc) pp ex ov un) 84);have p4:=ah w3 (ypL ps (yT po pd pc) pp ex ov un) 84;have d4:=(d2.l bp).l al;have r4:=rp.l al;have b4:=aa (aa b3 bp) al;clear y0 y1 y2 y3 y4 y5 y6 y7 z0 z1 z2 z3 d2 q2 b3 rp bp al HR x1 f1'
 go_upto_region 6 with fail
 generalize w3.alloc (.cells (ypA ps (yT po pd pc) pp ex ov un) 84)=W4 at d4 p4 r4 b4⊢;generalize w3.heap.size=PP at p4⊢
 by_cases hrc:rc=0
 ·replace HSt:Hid _:=HSt.out hrc
  replace HEn:Hid _:=HEn.out hrc;have hx:=hX1.out hrc;subst hx hrc;clear hX0 hX1
  go_upto_region 8 with fail
  have bW:yB W4 W4.drew:=(Below.refl _ _).drew;have d5:=d4.l bW;have p5:=p4.l bW;have r5:=r4.l bW;have b5:=aa b4 bW;clear bW d4 p4 r4 b4;refine wp_region_held_drew (S:=fun wq=>wq.rangeAt PD 0 (ykL n wy fam R D L G gr)∧wq.rangeAt PP 0 (ypL ps (yT po pd pc) pp ex ov un)) (by kernel_rfl) ⟨d5.range,p5.range⟩ (fun hS0=> ?_)
  refine tq 0 ((ykV n wy fam R D L G gr)) rfl (fun w0 hw0=>fy 121 (.tmp 9) rfl PD 0 (by kernel_rfl) _ _ hw0.1 underlying121 rfl (by kernel_rfl)) hS0 ?_
  refine tq 1 ((ykV n wy fam R D L G gr)) rfl (fun w0 hw0=>fy 121 (.tmp 9) rfl PD 0 (by kernel_rfl) _ _ hw0.1 underlying121 rfl (by kernel_rfl)) hS0 ?_
  refine tq 2 ((ypV ps (yT po pd pc) pp ex ov un)) rfl (fun w0 hw0=>fy 84 (.tmp 11) rfl PP 0 (by kernel_rfl) _ _ hw0.2 underlying84 rfl (by kernel_rfl)) hS0 ?_
  refine wpAnyH_ready (rs:=[3]) (by kernel_rfl) (by simp) ?_;refine AllReadyH.cons rfl (fun K hK=> ?_) AllReadyH.nil
  go_simp
  refine(HSt.out _ _ _ b5 r5).mono ?_;rintro z w6 ⟨u,rfl,r6,b6⟩;obtain⟨vo,vc,hu⟩:=r6.shape;subst hu;refine hK.out _ _ ⟨(d5.l b6).range,(p5.l b6).range⟩ (fun hS6=> ?_)
  have d6:=d5.l b6;have p6:=p5.l b6;have b06:=aa b5 b6;clear hK K b6 d5 p5 r5 b5;refine tq 4 ((yvV c g (yT vo m vc) q)) rfl (fun w0 _=>by go_simp) hS6 ?_
  refine tq 5 (yi fl) rfl (fun w0 _=>by go_simp) hS6 ?_
  refine wpAnyH_ready (rs:=[6]) (by kernel_rfl) (by simp) ?_;refine AllReadyH.cons rfl (fun K hK=> ?_) AllReadyH.nil
  go_simp
  refine(HEn.out _ _ _ b06 r6).mono ?_;rintro z w7 ⟨rfl,b7⟩;refine hK.out _ _ ⟨(d6.l b7).range,(p6.l b7).range⟩ (fun hS7=> ?_)
  have b07:=aa b06 b7;clear hK K b7 d6 p6 b06 r6;refine tq 7 (.string st) rfl (fun w0 _=>by go_simp) hS7 ?_
  refine tq 8 (yi f1) rfl (fun w0 _=>by go_simp) hS7 ?_
  refine tq 9 (yi e1) rfl (fun w0 _=>by go_simp) hS7 ?_
  refine tq 10 (.string st) rfl (fun w0 _=>by go_simp) hS7 ?_
  refine tq 11 (yi f1) rfl (fun w0 _=>by go_simp) hS7 ?_
  refine tq 12 (yi e1) rfl (fun w0 _=>by go_simp) hS7 ?_
  simp only[Act.put,List.getElem_toArray,List.getElem_cons_succ,List.getElem_cons_zero,List.setIfInBounds_toArray,List.set_cons_zero,List.set_cons_succ];refine wpAnyH_done (by kernel_rfl) ?_ _
  go_wp2
  go_ret3
  exact⟨rfl,b07⟩
 ·have hx:=hX0.out hrc
  have hrf:(rc==0)=false:=by simpa using hrc
  subst hx;clear hX0 hX1 HSt HEn hrc
  go_wp2
  go_ret3
  exact⟨rfl,b4⟩
theorem prR_nm {x:ak}(g:Bool){k:Nat}(hx:x.n<2^64)(e1: -16500≤x.e)(e2:x.e≤16500)(h0:x.n≠0)(hk1:1≤k)(hk2:k≤60):
  (dgS x k).size=k∧prR g (dcH x) (dcC x) (dcP x) k=nuS g (dgS x k) ⟨(Lib.itoa (prN (dcH x) (dcC x) (dcP x) k)).toArray⟩:=by
 obtain⟨d1,d2,d3,d4,d5⟩:=dc_all hx e1 e2 h0;have hQ:=prQ_ge (k:=k) (dcH_low hx e1 e2 h0) hk1 (by omega);have hs:k≤(oW (prQ (dcH x) (dcC x) k)).size:=by
  have:=Nat.lt_of_le_of_lt hQ decS_big;have:=(Nat.pow_lt_pow_iff_right (by omega:1<10)).1 this;omega
 refine⟨tpT_size hs, ?_⟩;unfold prR tpS nuS tpG nuG;rw[tpP_nuP hs hk1];rfl
end Go.Proofs.YtlgkfdcmokchgaaGreatDoor
