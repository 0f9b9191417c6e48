/-
  Texts laid together: Dk3.
-/
import Derived.Test.YtiakgfmlpdfhdaaGreatDoorTa19
import Derived.Test.YtiakgfmlpdfhdaaGreatDoorTa22
set_option maxRecDepth 100000
set_option maxHeartbeats 3200000
namespace Go.Proofs.YtiakgfmlpdfhdaaGreatDoor
open _root_.Go.Proofs.Tryz
open Go.RowKit
theorem fg (v:Value)(t:ak)(b:Int)(up:Bool)(w:World)(hv:Rv w v t)(hL:(Dg.dg 65536 t.n).length≤30000)(he1: -200000≤t.e)(he2:t.e≤200000)(hb1:1≤b)(hb2:b≤4096):
  Calls Tryz.prog 12 #[v,.int .i64 b,.bool up] w (dr w (dE t b up)):=by
 obtain⟨s0,rfl,hr⟩:=hv;obtain⟨ts,n,e⟩:=t;simp only at hr hL he1 he2⊢;have hbl:=l8 hL;have HLN:Hid (∀w1,Below w.heap.size w w1→Calls Tryz.prog 30 #[s0] w1 fun z w'=>z= .returned (.int .i64 (bitLen n:Nat))∧Below w1.heap.size w1 w'):=fun w1 b1=>by
  have:=kF s0 _ w1 (hr.l b1) (Dg.small_dg _ _ (by omega)) (Dg.norm_dg _ _ (by omega)) (by omega);rw[Dg.vl_dg _ _ (by omega)] at this;exact this.mono fun z w' ⟨h1,h2⟩=>⟨h1,by rw[h2];exact Below.refl _ _⟩
 have hdl: ∀x,x≤n+1→(Dg.dg 65536 x).length≤100000:=fun x hx=>by
  refine Nat.le_trans (aH 65536 _ (n+1) (by omega) hx) ?_;have h1:=Dg.vl_lt 65536 _ (Dg.small_dg 65536 n (by omega));rw[Dg.vl_dg _ _ (by omega)] at h1;refine Nat.le_trans (Dg.dg_len_le 65536 _ ((Dg.dg 65536 n).length+1) (by omega) ?_) (by omega);rw[Nat.pow_succ];omega
 have HCUT:Hid (∀(j:Nat),(bitLen n:Int)-b=(j:Int)→ ¬(j:Int)≤0→dE ⟨ts,n,e⟩ b up=bare ⟨ts,n/2^j+(if 0<n % 2^j∧(up != ts)=true then 1 else 0),e+(j:Int)⟩):=fun j hj hc=>by
  unfold dE;simp only;rw[hj,if_neg hc,Int.toNat_natCast]
 have HSAME:Hid ((bitLen n:Int)-b≤0→dE ⟨ts,n,e⟩ b up=⟨ts,n,e⟩):=fun hc=>if_pos hc
 have HINA:Hid (∀(j:Nat),j≤500000→ ∀u w1,Below w.heap.size w w1→Rd w1 .i64 u (Dg.dg 65536 (2^j))→Calls Tryz.prog 31 #[s0,u] w1 (JI w1 (n/2^j) (n % 2^j))):=fun j hj u w1 b1 r=>
  qM s0 u n (2^j) w1 (hr.l b1) r (by omega) (Nat.le_trans (Fr j) (by omega)) (Nat.pow_pos (by omega))
 have HNN:=Dg.norm_dg 65536 n (by omega);obtain⟨ao,ca,rfl⟩:=hr.shape;obtain⟨L,hLe⟩: ∃L,bitLen n=L:=⟨_,rfl⟩;rw[hLe] at HLN hbl HCUT HSAME;obtain⟨m,hm⟩: ∃m,(Dg.dg 65536 n).length=m:=⟨_,rfl⟩;have HRR:Hid (Rd w .i64 (.slice ao (Dg.dg 65536 n).length ca) (Dg.dg 65536 n)):=hr;have HNN2:Hid _:=HNN;rw[hm] at HLN HINA hL HRR⊢;have bA:=aa (af w (.cells #[.bool ts,.slice ao m ca,.int .i64 e] 35)) (af _ (.cells #[.bool false,.slice none 0 0,.int .i64 0] 35));have l1:=(aA w (.bool ts) (.slice ao m ca) (.int .i64 e) 35).l (af _ (.cells #[.bool false,.slice none 0 0,.int .i64 0] 35));have l2:=aA (w.alloc (.cells #[.bool ts,.slice ao m ca,.int .i64 e] 35)) (.bool false) (.slice none 0 0) (.int .i64 0) 35;have z2:=dI (w.alloc (.cells #[.bool ts,.slice ao m ca,.int .i64 e] 35)) 35;rw[World.size_alloc] at l2 z2;clear hr hLe hm HNN
 by_cases hc:(L:Int)-b≤0
 ·have hcut:=HSAME.out hc
  rw[hcut];clear HCUT HSAME HINA hdl hcut
  go_enter func12,ntmps12
  go_wp2_with fail
  refine(HLN.out _ bA).mono ?_;rintro z w1 ⟨rfl,b1⟩;replace l1:=l1.l b1;replace l2:=l2.l b1;replace z2:=z2.l b1;replace bA:=aa bA b1;clear b1;obtain⟨-,⟨c0,c1,c2⟩,-⟩:=id l1;obtain⟨hl2,⟨d0,d1,d2⟩,f0,f1,f2⟩:=id l2;obtain⟨-,⟨g0,g1,g2⟩,-⟩:=aD l2 (.bool ts) (.slice ao m ca) (.int .i64 (e));have rr:=z2.rd (HRR.out.l bA) HNN2.out (.bool ts) (.slice ao m ca) (.int .i64 (e));have b8:=am bA (show w.heap.size≤w.heap.size+1 by omega) (.bool ts) (.slice ao m ca) (.int .i64 (e))
  go_wp2
  refine bodyPost_ret (v:= .agg #[.bool ts,.slice ao m ca,.int .i64 (e)]) (by simp[results,results12,go_sem,g0,g1,g2]) rfl ?_;exact⟨_,rfl,rr,b8⟩
 ·obtain⟨j,hj⟩: ∃j:Nat,(L:Int)-b=(j:Int):=⟨((L:Int)-b).toNat,by omega⟩
  rw[hj] at hc;have hcut:=HCUT.out j hj hc;have hjl:j≤480000:=by omega
  have HPW:Hid (∀w1,Calls Tryz.prog 32 #[.int .i64 j] w1 (cG w1 (2^j))):=fun w1=>pf j (j/16) (j % 16) w1 (by omega) (by omega) (by omega)
  have HIN:Hid _:=HINA.out j (by omega);have HKL:Hid (∀x,x≤n/2^j+1→(Dg.dg 65536 x).length≤100000):=fun x hx=>hdl x (by have:=Nat.div_le_self n (2^j);omega)
  have HPL:Hid (∀v u w1,Rd w1 .i64 v (Dg.dg 65536 (n/2^j))→Rd w1 .i64 u [1]→Calls Tryz.prog 33 #[v,u] w1 (cG w1 (n/2^j+1))):=fun v u w1 r q=>by
   have hq:=hdl (n/2^j) (by have:=Nat.div_le_self n (2^j);omega);have:=ew v u _ _ w1 r q (Dg.small_dg _ _ (by omega)) (Dg.small_cons.2 ⟨by omega,Dg.small_nil _ (by omega)⟩) (Dg.norm_dg _ _ (by omega)) (Dg.norm_dg 65536 1 (by omega)) (by omega) (by simp)
   rwa [Dg.vl_dg _ _ (by omega),show Dg.vl 65536 [1]=1 from rfl] at this
  have hew:IntKind.i64.wrap (e+(j:Int))=e+(j:Int):=IntWalk.i64_in _ ⟨by omega,by omega⟩;clear HCUT HSAME HINA hdl HRR HNN2
  by_cases hr0:0<n % 2^j
  ·have HR0:Hid (0<n % 2^j):=hr0
   cases up
   ·cases ts
    ·rw[if_neg (by simp),Nat.add_zero] at hcut
     clear hr0;rw[hcut];obtain⟨⟨bs,bn,be⟩,hbt⟩: ∃r,bare ⟨false,n/2^j,e+(j:Int)⟩=r:=⟨_,rfl⟩;rw[hbt];have HBB:Hid (bare ⟨false,n/2^j,e+(j:Int)⟩=⟨bs,bn,be⟩):=hbt;clear hbt hcut
     go_enter func12,ntmps12
     go_wp2_with fail
     refine(HLN.out _ bA).mono ?_;rintro z w1 ⟨rfl,b1⟩;replace l1:=l1.l b1;replace l2:=l2.l b1;replace z2:=z2.l b1;replace bA:=aa bA b1;clear b1;have bd:Below w1.heap.size w1 w1.drew:=(Below.refl _ _).drew;replace l1:=l1.l bd;replace l2:=l2.l bd;replace z2:=z2.l bd;replace bA:=aa bA bd;clear bd;obtain⟨-,⟨c0,c1,c2⟩,-⟩:=id l1
     go_wp2_with fail
     go_region_held3 (fun wq=>wq.cell? ⟨w.heap.size,0,none⟩=some (.bool false)∧wq.cell? ⟨w.heap.size,1,none⟩=some (.slice ao m ca)∧wq.cell? ⟨w.heap.size,2,none⟩=some (.int .i64 e)) (go_keep) (first
      | (go_at_call 32;refine(HPW.out _).mono ?_;rintro z w3 ⟨v3,rfl,r3,b3⟩;replace l1:=l1.l b3;replace l2:=l2.l b3;replace z2:=z2.l b3;replace bA:=aa bA b3;obtain⟨-,⟨p0,p1,p2⟩,-⟩:=id l1)
      | (go_at_call 31;refine(HIN.out _ w3 bA r3).mono ?_;rintro z w4 ⟨vq,vr,rfl,rq,rr4,b4⟩;replace l1:=l1.l b4;replace l2:=l2.l b4;replace z2:=z2.l b4;replace bA:=aa bA b4;obtain⟨-,⟨q0,q1,q2⟩,-⟩:=id l1))
     obtain⟨qo,qc,hvq⟩:=rq.shape;subst hvq;obtain⟨xo,xc,hvx⟩:=rr4.shape;subst hvx;clear c0 c1 c2 p0 p1 p2 b3 b4 r3;have hr0:0< (Dg.dg 65536 (n % 2^j)).length:=List.length_pos_iff.2 (by rw[Ne,Dg.dg_nil_iff _ _ (by omega)];exact Nat.pos_iff_ne_zero.1 HR0.out);have hbr:=iJ _ ⟨false,n/2^j,e+(j:Int)⟩ _ ⟨_,rfl,rq⟩ (HKL.out _ (by first|exact Nat.le_refl _|exact Nat.le_succ _)) (by simp only;omega) (by simp only;omega)
     rw[HBB.out] at hbr
     go_wp2_with fail
     refine hbr.mono ?_;rintro z w9 ⟨v9,rfl,r9,b9⟩;replace l2:=l2.l b9;replace z2:=z2.l b9;replace bA:=aa bA b9;obtain⟨zo,zc,hvz⟩:=r9.shape;subst hvz;obtain⟨hl2,⟨d0,d1,d2⟩,f0,f1,f2⟩:=id l2;clear hbr b9 q0 q1 q2 l1;obtain⟨-,⟨g0,g1,g2⟩,-⟩:=aD l2 (.bool bs) (.slice zo (Dg.dg 65536 bn).length zc) (.int .i64 (be));have rr:=z2.rd r9 (Dg.norm_dg _ _ (by omega)) (.bool bs) (.slice zo (Dg.dg 65536 bn).length zc) (.int .i64 (be));have b8:=am bA (show w.heap.size≤w.heap.size+1 by omega) (.bool bs) (.slice zo (Dg.dg 65536 bn).length zc) (.int .i64 (be))
     go_wp2
     refine bodyPost_ret (v:= .agg #[.bool bs,.slice zo (Dg.dg 65536 bn).length zc,.int .i64 (be)]) (by simp[results,results12,go_sem,g0,g1,g2]) rfl ?_;exact⟨_,rfl,rr,b8⟩
    ·rw[if_pos ⟨hr0,by decide⟩] at hcut
     clear hr0;rw[hcut];obtain⟨⟨bs,bn,be⟩,hbt⟩: ∃r,bare ⟨true,n/2^j+1,e+(j:Int)⟩=r:=⟨_,rfl⟩;rw[hbt];have HBB:Hid (bare ⟨true,n/2^j+1,e+(j:Int)⟩=⟨bs,bn,be⟩):=hbt;clear hbt hcut
     go_enter func12,ntmps12
     go_wp2_with fail
     refine(HLN.out _ bA).mono ?_;rintro z w1 ⟨rfl,b1⟩;replace l1:=l1.l b1;replace l2:=l2.l b1;replace z2:=z2.l b1;replace bA:=aa bA b1;clear b1;have bd:Below w1.heap.size w1 w1.drew:=(Below.refl _ _).drew;replace l1:=l1.l bd;replace l2:=l2.l bd;replace z2:=z2.l bd;replace bA:=aa bA bd;clear bd;obtain⟨-,⟨c0,c1,c2⟩,-⟩:=id l1
     go_wp2_with fail
     go_region_held3 (fun wq=>wq.cell? ⟨w.heap.size,0,none⟩=some (.bool true)∧wq.cell? ⟨w.heap.size,1,none⟩=some (.slice ao m ca)∧wq.cell? ⟨w.heap.size,2,none⟩=some (.int .i64 e)) (go_keep) (first
      | (go_at_call 32;refine(HPW.out _).mono ?_;rintro z w3 ⟨v3,rfl,r3,b3⟩;replace l1:=l1.l b3;replace l2:=l2.l b3;replace z2:=z2.l b3;replace bA:=aa bA b3;obtain⟨-,⟨p0,p1,p2⟩,-⟩:=id l1)
      | (go_at_call 31;refine(HIN.out _ w3 bA r3).mono ?_;rintro z w4 ⟨vq,vr,rfl,rq,rr4,b4⟩;replace l1:=l1.l b4;replace l2:=l2.l b4;replace z2:=z2.l b4;replace bA:=aa bA b4;obtain⟨-,⟨q0,q1,q2⟩,-⟩:=id l1))
     obtain⟨qo,qc,hvq⟩:=rq.shape;subst hvq;obtain⟨xo,xc,hvx⟩:=rr4.shape;subst hvx;clear c0 c1 c2 p0 p1 p2 b3 b4 r3;have hr0:0< (Dg.dg 65536 (n % 2^j)).length:=List.length_pos_iff.2 (by rw[Ne,Dg.dg_nil_iff _ _ (by omega)];exact Nat.pos_iff_ne_zero.1 HR0.out);have b7:=af w4 (.cells #[.int .i64 ((1:Nat):Int)] 3);have rn:=cE (w:=w4) (k:= .i64) (e:=3) [1] #[.int .i64 ((1:Nat):Int)] rfl (by unfold maxLen;simp);have hpl:=HPL.out _ _ _ (rq.l b7) rn;replace l1:=l1.l b7;replace l2:=l2.l b7;replace z2:=z2.l b7;replace bA:=aa bA b7;clear b7 rn rq rr4
     go_wp2_with fail
     refine hpl.mono ?_;rintro z w7 ⟨v7,rfl,rq,b7⟩;replace l1:=l1.l b7;replace l2:=l2.l b7;replace z2:=z2.l b7;replace bA:=aa bA b7;clear b7 hpl q0 q1 q2;obtain⟨qo,qc,hvq⟩:=rq.shape;subst hvq;obtain⟨-,⟨q0,q1,q2⟩,-⟩:=id l1;have hbr:=iJ _ ⟨true,n/2^j+1,e+(j:Int)⟩ _ ⟨_,rfl,rq⟩ (HKL.out _ (by first|exact Nat.le_refl _|exact Nat.le_succ _)) (by simp only;omega) (by simp only;omega)
     rw[HBB.out] at hbr
     go_wp2_with fail
     refine hbr.mono ?_;rintro z w9 ⟨v9,rfl,r9,b9⟩;replace l2:=l2.l b9;replace z2:=z2.l b9;replace bA:=aa bA b9;obtain⟨zo,zc,hvz⟩:=r9.shape;subst hvz;obtain⟨hl2,⟨d0,d1,d2⟩,f0,f1,f2⟩:=id l2;clear hbr b9 q0 q1 q2 l1;obtain⟨-,⟨g0,g1,g2⟩,-⟩:=aD l2 (.bool bs) (.slice zo (Dg.dg 65536 bn).length zc) (.int .i64 (be));have rr:=z2.rd r9 (Dg.norm_dg _ _ (by omega)) (.bool bs) (.slice zo (Dg.dg 65536 bn).length zc) (.int .i64 (be));have b8:=am bA (show w.heap.size≤w.heap.size+1 by omega) (.bool bs) (.slice zo (Dg.dg 65536 bn).length zc) (.int .i64 (be))
     go_wp2
     refine bodyPost_ret (v:= .agg #[.bool bs,.slice zo (Dg.dg 65536 bn).length zc,.int .i64 (be)]) (by simp[results,results12,go_sem,g0,g1,g2]) rfl ?_;exact⟨_,rfl,rr,b8⟩
   ·cases ts
    ·rw[if_pos ⟨hr0,by decide⟩] at hcut
     clear hr0;rw[hcut];obtain⟨⟨bs,bn,be⟩,hbt⟩: ∃r,bare ⟨false,n/2^j+1,e+(j:Int)⟩=r:=⟨_,rfl⟩;rw[hbt];have HBB:Hid (bare ⟨false,n/2^j+1,e+(j:Int)⟩=⟨bs,bn,be⟩):=hbt;clear hbt hcut
     go_enter func12,ntmps12
     go_wp2_with fail
     refine(HLN.out _ bA).mono ?_;rintro z w1 ⟨rfl,b1⟩;replace l1:=l1.l b1;replace l2:=l2.l b1;replace z2:=z2.l b1;replace bA:=aa bA b1;clear b1;have bd:Below w1.heap.size w1 w1.drew:=(Below.refl _ _).drew;replace l1:=l1.l bd;replace l2:=l2.l bd;replace z2:=z2.l bd;replace bA:=aa bA bd;clear bd;obtain⟨-,⟨c0,c1,c2⟩,-⟩:=id l1
     go_wp2_with fail
     go_region_held3 (fun wq=>wq.cell? ⟨w.heap.size,0,none⟩=some (.bool false)∧wq.cell? ⟨w.heap.size,1,none⟩=some (.slice ao m ca)∧wq.cell? ⟨w.heap.size,2,none⟩=some (.int .i64 e)) (go_keep) (first
      | (go_at_call 32;refine(HPW.out _).mono ?_;rintro z w3 ⟨v3,rfl,r3,b3⟩;replace l1:=l1.l b3;replace l2:=l2.l b3;replace z2:=z2.l b3;replace bA:=aa bA b3;obtain⟨-,⟨p0,p1,p2⟩,-⟩:=id l1)
      | (go_at_call 31;refine(HIN.out _ w3 bA r3).mono ?_;rintro z w4 ⟨vq,vr,rfl,rq,rr4,b4⟩;replace l1:=l1.l b4;replace l2:=l2.l b4;replace z2:=z2.l b4;replace bA:=aa bA b4;obtain⟨-,⟨q0,q1,q2⟩,-⟩:=id l1))
     obtain⟨qo,qc,hvq⟩:=rq.shape;subst hvq;obtain⟨xo,xc,hvx⟩:=rr4.shape;subst hvx;clear c0 c1 c2 p0 p1 p2 b3 b4 r3;have hr0:0< (Dg.dg 65536 (n % 2^j)).length:=List.length_pos_iff.2 (by rw[Ne,Dg.dg_nil_iff _ _ (by omega)];exact Nat.pos_iff_ne_zero.1 HR0.out);have b7:=af w4 (.cells #[.int .i64 ((1:Nat):Int)] 3);have rn:=cE (w:=w4) (k:= .i64) (e:=3) [1] #[.int .i64 ((1:Nat):Int)] rfl (by unfold maxLen;simp);have hpl:=HPL.out _ _ _ (rq.l b7) rn;replace l1:=l1.l b7;replace l2:=l2.l b7;replace z2:=z2.l b7;replace bA:=aa bA b7;clear b7 rn rq rr4
     go_wp2_with fail
     refine hpl.mono ?_;rintro z w7 ⟨v7,rfl,rq,b7⟩;replace l1:=l1.l b7;replace l2:=l2.l b7;replace z2:=z2.l b7;replace bA:=aa bA b7;clear b7 hpl q0 q1 q2;obtain⟨qo,qc,hvq⟩:=rq.shape;subst hvq;obtain⟨-,⟨q0,q1,q2⟩,-⟩:=id l1;have hbr:=iJ _ ⟨false,n/2^j+1,e+(j:Int)⟩ _ ⟨_,rfl,rq⟩ (HKL.out _ (by first|exact Nat.le_refl _|exact Nat.le_succ _)) (by simp only;omega) (by simp only;omega)
     rw[HBB.out] at hbr
     go_wp2_with fail
     refine hbr.mono ?_;rintro z w9 ⟨v9,rfl,r9,b9⟩;replace l2:=l2.l b9;replace z2:=z2.l b9;replace bA:=aa bA b9;obtain⟨zo,zc,hvz⟩:=r9.shape;subst hvz;obtain⟨hl2,⟨d0,d1,d2⟩,f0,f1,f2⟩:=id l2;clear hbr b9 q0 q1 q2 l1;obtain⟨-,⟨g0,g1,g2⟩,-⟩:=aD l2 (.bool bs) (.slice zo (Dg.dg 65536 bn).length zc) (.int .i64 (be));have rr:=z2.rd r9 (Dg.norm_dg _ _ (by omega)) (.bool bs) (.slice zo (Dg.dg 65536 bn).length zc) (.int .i64 (be));have b8:=am bA (show w.heap.size≤w.heap.size+1 by omega) (.bool bs) (.slice zo (Dg.dg 65536 bn).length zc) (.int .i64 (be))
     go_wp2
     refine bodyPost_ret (v:= .agg #[.bool bs,.slice zo (Dg.dg 65536 bn).length zc,.int .i64 (be)]) (by simp[results,results12,go_sem,g0,g1,g2]) rfl ?_;exact⟨_,rfl,rr,b8⟩
    ·rw[if_neg (by simp),Nat.add_zero] at hcut
     clear hr0;rw[hcut];obtain⟨⟨bs,bn,be⟩,hbt⟩: ∃r,bare ⟨true,n/2^j,e+(j:Int)⟩=r:=⟨_,rfl⟩;rw[hbt];have HBB:Hid (bare ⟨true,n/2^j,e+(j:Int)⟩=⟨bs,bn,be⟩):=hbt;clear hbt hcut
     go_enter func12,ntmps12
     go_wp2_with fail
     refine(HLN.out _ bA).mono ?_;rintro z w1 ⟨rfl,b1⟩;replace l1:=l1.l b1;replace l2:=l2.l b1;replace z2:=z2.l b1;replace bA:=aa bA b1;clear b1;have bd:Below w1.heap.size w1 w1.drew:=(Below.refl _ _).drew;replace l1:=l1.l bd;replace l2:=l2.l bd;replace z2:=z2.l bd;replace bA:=aa bA bd;clear bd;obtain⟨-,⟨c0,c1,c2⟩,-⟩:=id l1
     go_wp2_with fail
     go_region_held3 (fun wq=>wq.cell? ⟨w.heap.size,0,none⟩=some (.bool true)∧wq.cell? ⟨w.heap.size,1,none⟩=some (.slice ao m ca)∧wq.cell? ⟨w.heap.size,2,none⟩=some (.int .i64 e)) (go_keep) (first
      | (go_at_call 32;refine(HPW.out _).mono ?_;rintro z w3 ⟨v3,rfl,r3,b3⟩;replace l1:=l1.l b3;replace l2:=l2.l b3;replace z2:=z2.l b3;replace bA:=aa bA b3;obtain⟨-,⟨p0,p1,p2⟩,-⟩:=id l1)
      | (go_at_call 31;refine(HIN.out _ w3 bA r3).mono ?_;rintro z w4 ⟨vq,vr,rfl,rq,rr4,b4⟩;replace l1:=l1.l b4;replace l2:=l2.l b4;replace z2:=z2.l b4;replace bA:=aa bA b4;obtain⟨-,⟨q0,q1,q2⟩,-⟩:=id l1))
     obtain⟨qo,qc,hvq⟩:=rq.shape;subst hvq;obtain⟨xo,xc,hvx⟩:=rr4.shape;subst hvx;clear c0 c1 c2 p0 p1 p2 b3 b4 r3;have hr0:0< (Dg.dg 65536 (n % 2^j)).length:=List.length_pos_iff.2 (by rw[Ne,Dg.dg_nil_iff _ _ (by omega)];exact Nat.pos_iff_ne_zero.1 HR0.out);have hbr:=iJ _ ⟨true,n/2^j,e+(j:Int)⟩ _ ⟨_,rfl,rq⟩ (HKL.out _ (by first|exact Nat.le_refl _|exact Nat.le_succ _)) (by simp only;omega) (by simp only;omega)
     rw[HBB.out] at hbr
     go_wp2_with fail
     refine hbr.mono ?_;rintro z w9 ⟨v9,rfl,r9,b9⟩;replace l2:=l2.l b9;replace z2:=z2.l b9;replace bA:=aa bA b9;obtain⟨zo,zc,hvz⟩:=r9.shape;subst hvz;obtain⟨hl2,⟨d0,d1,d2⟩,f0,f1,f2⟩:=id l2;clear hbr b9 q0 q1 q2 l1;obtain⟨-,⟨g0,g1,g2⟩,-⟩:=aD l2 (.bool bs) (.slice zo (Dg.dg 65536 bn).length zc) (.int .i64 (be));have rr:=z2.rd r9 (Dg.norm_dg _ _ (by omega)) (.bool bs) (.slice zo (Dg.dg 65536 bn).length zc) (.int .i64 (be));have b8:=am bA (show w.heap.size≤w.heap.size+1 by omega) (.bool bs) (.slice zo (Dg.dg 65536 bn).length zc) (.int .i64 (be))
     go_wp2
     refine bodyPost_ret (v:= .agg #[.bool bs,.slice zo (Dg.dg 65536 bn).length zc,.int .i64 (be)]) (by simp[results,results12,go_sem,g0,g1,g2]) rfl ?_;exact⟨_,rfl,rr,b8⟩
  ·have HR0:Hid (n % 2^j=0):=by unfold Hid;omega
   rw[if_neg (fun h=>hr0 h.1),Nat.add_zero] at hcut
   clear hr0;rw[hcut];obtain⟨⟨bs,bn,be⟩,hbt⟩: ∃r,bare ⟨ts,n/2^j,e+(j:Int)⟩=r:=⟨_,rfl⟩;rw[hbt];have HBB:Hid (bare ⟨ts,n/2^j,e+(j:Int)⟩=⟨bs,bn,be⟩):=hbt;clear hbt hcut
   go_enter func12,ntmps12
   go_wp2_with fail
   refine(HLN.out _ bA).mono ?_;rintro z w1 ⟨rfl,b1⟩;replace l1:=l1.l b1;replace l2:=l2.l b1;replace z2:=z2.l b1;replace bA:=aa bA b1;clear b1;have bd:Below w1.heap.size w1 w1.drew:=(Below.refl _ _).drew;replace l1:=l1.l bd;replace l2:=l2.l bd;replace z2:=z2.l bd;replace bA:=aa bA bd;clear bd;obtain⟨-,⟨c0,c1,c2⟩,-⟩:=id l1
   go_wp2_with fail
   go_region_held3 (fun wq=>wq.cell? ⟨w.heap.size,0,none⟩=some (.bool ts)∧wq.cell? ⟨w.heap.size,1,none⟩=some (.slice ao m ca)∧wq.cell? ⟨w.heap.size,2,none⟩=some (.int .i64 e)) (go_keep) (first
    | (go_at_call 32;refine(HPW.out _).mono ?_;rintro z w3 ⟨v3,rfl,r3,b3⟩;replace l1:=l1.l b3;replace l2:=l2.l b3;replace z2:=z2.l b3;replace bA:=aa bA b3;obtain⟨-,⟨p0,p1,p2⟩,-⟩:=id l1)
    | (go_at_call 31;refine(HIN.out _ w3 bA r3).mono ?_;rintro z w4 ⟨vq,vr,rfl,rq,rr4,b4⟩;replace l1:=l1.l b4;replace l2:=l2.l b4;replace z2:=z2.l b4;replace bA:=aa bA b4;obtain⟨-,⟨q0,q1,q2⟩,-⟩:=id l1))
   obtain⟨qo,qc,hvq⟩:=rq.shape;subst hvq;obtain⟨xo,xc,hvx⟩:=rr4.shape;subst hvx;clear c0 c1 c2 p0 p1 p2 b3 b4 r3;have hr0: ¬0< (Dg.dg 65536 (n % 2^j)).length:=by rw[HR0.out];simp[Dg.dg_zero]
   have hbr:=iJ _ ⟨ts,n/2^j,e+(j:Int)⟩ _ ⟨_,rfl,rq⟩ (HKL.out _ (by first|exact Nat.le_refl _|exact Nat.le_succ _)) (by simp only;omega) (by simp only;omega)
   rw[HBB.out] at hbr
   go_wp2_with fail
   refine hbr.mono ?_;rintro z w9 ⟨v9,rfl,r9,b9⟩;replace l2:=l2.l b9;replace z2:=z2.l b9;replace bA:=aa bA b9;obtain⟨zo,zc,hvz⟩:=r9.shape;subst hvz;obtain⟨hl2,⟨d0,d1,d2⟩,f0,f1,f2⟩:=id l2;clear hbr b9 q0 q1 q2 l1;obtain⟨-,⟨g0,g1,g2⟩,-⟩:=aD l2 (.bool bs) (.slice zo (Dg.dg 65536 bn).length zc) (.int .i64 (be));have rr:=z2.rd r9 (Dg.norm_dg _ _ (by omega)) (.bool bs) (.slice zo (Dg.dg 65536 bn).length zc) (.int .i64 (be));have b8:=am bA (show w.heap.size≤w.heap.size+1 by omega) (.bool bs) (.slice zo (Dg.dg 65536 bn).length zc) (.int .i64 (be))
   go_wp2
   refine bodyPost_ret (v:= .agg #[.bool bs,.slice zo (Dg.dg 65536 bn).length zc,.int .i64 (be)]) (by simp[results,results12,go_sem,g0,g1,g2]) rfl ?_;exact⟨_,rfl,rr,b8⟩
end Go.Proofs.YtiakgfmlpdfhdaaGreatDoor
