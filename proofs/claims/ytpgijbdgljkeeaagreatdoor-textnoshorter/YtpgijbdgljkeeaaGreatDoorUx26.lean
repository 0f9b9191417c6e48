/-
  Texts laid together: DecW, Co11.
-/
import Derived.Test.YtpgijbdgljkeeaaGreatDoorUx13
import Derived.Test.YtpgijbdgljkeeaaGreatDoorUx14
import Derived.Test.YtpgijbdgljkeeaaGreatDoorUx15
import Derived.Test.YtpgijbdgljkeeaaGreatDoorUx16
set_option maxRecDepth 100000
set_option maxHeartbeats 3200000
namespace Go.Proofs.YtpgijbdgljkeeaaGreatDoor
open _root_.Go.Proofs.Tryz
open Go.RowKit
theorem MR (v:Value)(zs:List Nat)(w:World)(h:Rd w .u32 v zs)(hs:Dg.Small 4294967296 zs)(hno:Dg.Norm zs)(hl:zs.length≤1200):
  yC 98 #[v] w (yR w (.string (oW (Dg.vl 4294967296 zs)))):=by
 obtain⟨ao,ca,rfl⟩:=h.shape
 by_cases h0:zs.length=0
 ·obtain rfl:zs=[]:=List.eq_nil_of_length_eq_zero h0
  go_enter func98,ntmps98
  go_wp2
  go_ret
  exact⟨rfl,Below.refl _ _⟩
 ·obtain⟨n,hn⟩: ∃n,Dg.vl 4294967296 zs=n:=⟨_,rfl⟩
  have hlt:=Dg.vl_lt 4294967296 zs hs;have hne:=Dg.vl_ne_zero 4294967296 (by omega) zs (by intro e;subst e;simp at h0) hno;have hzn:Dg.dg 4294967296 n=zs:=by rw[←hn];exact Dg.dg_vl _ (by omega) zs hs hno
  rw[hn] at hlt hne⊢;have HZ:Hid _:=hzn;have HL:Hid _:=hlt;obtain⟨i0,hi,hz0,hz1,hz2⟩:=info_parts Tryz.infoU8;have hzl:((zs.length:Int)==0)=false:=by simp;intro e;subst e;simp at h0
  clear hn hzn hlt hs hno;have hcp:=Bz _ zs w h (by omega)
  go_enter func98,ntmps98
  go_wp2_with fail
  refine hcp.mono ?_;rintro e w1 ⟨rfl,own1,bel1⟩;clear hcp
  go_wp2
  go_loopg [3,4] n (fun m lv rv wr=>afn w zs.length n m lv rv wr)
  case atStart=>
   refine⟨[],zs.length,rfl, ?_,aQ _ _ _ _,⟨Dg.small_nil _ (by omega),by simp[Dg.vl]⟩,bel1,own1.block.2,Nat.le_refl _,by simp⟩;rw[HZ.out];exact own1
  case round=>
   clear own1 bel1;obtain⟨ds,len,rfl,ownR,ownL,hO,bel,hsz,hlen,hdL⟩:=hrel;have hlr:=ownR.len
   by_cases hm:gk=0
   ·subst hm
    have hnv:=hO.2;simp only[Nat.mul_zero,Nat.add_zero] at hnv;have hdsne:ds≠[]:=by intro e;subst e;exact hne hnv
    have hl0:len=0:=by rw[hlr];rfl
    subst hl0;obtain⟨g,cap,rfl,hgb,hgs⟩:=ownL.shapeOf (by simpa using hdsne);have hcl: ∀k,k<ds.length→wr.cell? ⟨g,k,none⟩=some (.int .u8 ((48+ds.getD k 0:Nat):Int)):=fun k hk=>by
     rw[ownL.c k (by simpa using hk)];simp[List.getD_eq_getElem?_getD,hk]
    have Hnv:Hid _:=hnv;have Hcl:Hid _:=hcl;clear hnv hcl hlr;simp only[List.length_map] at ownL⊢;have hcap:=ownL.cap
    go_wp2
    go_loop [6] (fun iv=> ∃k:Nat,0<k∧k≤ds.length∧iv=yi k∧Hid (∀i,k≤i→ds.getD i 0=0)) (fun iv=>(intOf iv).toNat)
    case atStart=>exact⟨ds.length,List.length_pos_iff.2 hdsne,Nat.le_refl _,rfl,fun i hi=>Dg.getD_of_le _ _ hi⟩
    case round=>
     obtain⟨k,hk0,hk,rfl,hz⟩:=hrel;have h1:=Hcl.out (k-1) (by omega);obtain⟨d,hd⟩: ∃d,ds.getD (k-1) 0=d:=⟨_,rfl⟩;rw[hd] at h1;have hd10:d<10:=by rw[←hd];exact hO.1 _
     have Hd:Hid _:=hd;clear hd
     by_cases hd0:d=0
     ·subst hd0
      have hk1:k≠1:=by
       intro e;subst e;refine hne (Hnv.out.trans (Dg.vl_zeros 10 ds (fun i=> ?_)))
       by_cases e:i=0
       ·rw[e];exact Hd.out
       ·exact hz i (by omega)
      go_wp2
      go_round
      case rel=>exact⟨k-1,by omega,by omega,by go_num,fun i hi=>by
       by_cases e:i=k-1
       ·rw[e];exact Hd.out
       ·exact hz i (by omega)⟩
      case measure=>simp[intOf];omega
     ·have ownT:=ownL.take k (by simpa using hk)
      have hrv:=MH g k cap (w.heap.size+1) _ wr ownT (by simp;omega);have hne48:((48+(d:Int))==48)=false:=by simp;omega
      go_wp2_with fail
      refine hrv.mono ?_;rintro e w3 ⟨rfl,ownV,gr⟩;have hcv:=lQ 205 9 underlying205 underlying5 underlying9 ownV;have htr:=Dg.trim_eq 10 (by omega) ds k hO.1 hk hz (fun _=>by rw[Hd.out];exact hd0)
      have bel3:=wX bel bel.size gr (by omega);have HF:Hid (cF (((ds.map (fun d=>48+d)).take k).reverse)=oW n):=XV hne Hnv.out htr
      clear htr hrv
      go_wp2
      go_ret
      exact⟨by rw[←HF.out];rfl,bel3⟩
   ·have hne2:Dg.dg 4294967296 gk≠[]:=fun e=>hm ((Dg.dg_nil_iff _ _ (by omega)).1 e)
    have hpos:0<len:=by
     rcases Nat.eq_zero_or_pos len with e|e
     ·exact absurd (List.eq_nil_of_length_eq_zero (by omega)) hne2
     ·exact e
    have hdl:=Xr hO hm HL.out;have hdb:=Kv w.heap.size len zs.length w.heap.size gk wr ownR (by omega);have hI:=Pd hO;have hgm:gk % 1000000000<1000000000:=Nat.mod_lt _ (by omega);have Hlr:Hid _:=hlr;clear hlr hne2
    go_wp2_with fail
    refine hdb.mono ?_;rintro e w2 ⟨qs,rfl,ownQ,hqs,hqv,gr⟩;have ownL2:=ownL.keep gr (by omega);have bel2:=wX bel bel.size gr (Nat.le_refl _);have hsz2:w.heap.size<w2.heap.size:=Nat.lt_of_lt_of_le hsz gr.size;have Hqv:Hid _:=hqv;clear hdb gr ownR ownL bel hsz hO hqv
    go_wp2
    go_loopw [3,5,20] (fun lv gv jv wr=>afo w zs.length n (gk/1000000000) len ds.length qs lv gv jv wr) (fun _ _ jv _=>(9-intOf jv).toNat)
    case atStart=>exact⟨ds,0,gk % 1000000000,rfl,rfl,by omega,by omega,hgm,ownQ,ownL2,hI,bel2,hsz2⟩
    case round=>
     clear ownQ ownL2 hI bel2 hsz2;obtain⟨es,j,g,rfl,rfl,hj9,hes,hg9,ownQ,ownL,hI,bel,hsz⟩:=hrel
     by_cases hj:j<9
     ·have hel:es.length<32*zs.length+9:=by omega
      have Hes:Hid _:=hes;clear hes;have hbs:=bel.size
      go_wp2_with (at_builtin;refine wpList_append_own _ rfl _ _ 205 rfl (w.heap.size+1) 5 i0 (.int .u8 0) 1 1 underlying205 hi hz0 hz1 hz2 rfl (by decide) _ _ _ rfl (World.ownsRow.alloc ownL _) ⟨wr.heap.size,0,none⟩ 1 1 [.int .u8 (48+(g:Int) % 10)] rfl rfl ?c1 ?c2 ?c3 ?c4 ?c5 ?_)
      case c1=>exact cell_one_new _ _ _
      case c2=>intro u hu;simp at hu;subst hu;rfl
      case c3=>simp only[List.length_map];unfold maxLen;omega
      case c4=>simp only[List.length_map];omega
      case c5=>simp;omega
      intro v' w3 hown' hgrow _;have R:=Qb bel hsz ownQ ownL hown' hgrow;clear hown' hgrow ownQ ownL
      go_wp2
      go_roundw
      case rel=>
       refine⟨es++[g % 10],j+1,g/10,by go_num,by go_num,by omega, ?_,by omega,R.1,R.2.1,TJ hI hj,R.2.2.1,R.2.2.2⟩;have:=Hes.out;simp;omega
      case measure=>simp[intOf];omega
     ·have hj':j=9:=by omega
      subst hj';have rdQ:=ownQ.rd
      go_wp2_with fail
      refine(jD _ _ _ qs _ rdQ).mono ?_;rintro e w' ⟨k,rfl,hk,rfl⟩;have ownT:=jW 4294967296 (by omega) ownQ hqs hk;rw[Hqv.out] at ownT;have hkl:=hk.1;have hql:=ownQ.len
      go_wp2
      go_roundg (gk/1000000000)
      case measure=>exact Nat.div_lt_self (by omega) (by omega)
      case rel=>exact⟨es,k,rfl,ownT,ownL,Xq hI,bel,hsz,by omega,by omega⟩
theorem Rb (R D L G fam sz ex on wr:Int)(gr ng:Bool)(F:Nat)(e f:Int)(w:World)(HO:yJ 191 #[ylV R D L G gr sz ex fam F] (yi on))(HW:yJ 192 #[ylV R D L G gr sz ex fam F] (.int .u64 wr))(h1:e≠0)(h2:e≠on)(h3:bits .and .u64 f wr=wr):yC 151 #[ylV R D L G gr sz ex fam F,yfV ng e f] w (yR w (yi 2)):=by
 have hsf:=cD;replace HO:Hid _:=HO;replace HW:Hid _:=HW;have l0:=(ah w (ylL R D L G gr sz ex fam F) 124).l (af _ (.cells (yfA ng e f) 127));have m0:=ah (w.alloc (.cells (ylA R D L G gr sz ex fam F) 124)) (yfL ng e f) 127;have b0:=aa (af w (.cells (ylA R D L G gr sz ex fam F) 124)) (af _ (.cells (yfA ng e f) 127));rw[World.size_alloc] at m0;have he0:(e==0)=false:=by simpa using h1
 have he1:(e==on)=false:=by simpa using h2
 clear h1 h2;obtain⟨x0,x1,x2,x3,x4,x5,x6,x7,x8⟩:=l0.cs9;obtain⟨u0,u1,u2⟩:=m0.cs3
 go_enter func151,ntmps151
 go_wp2_with fail
 refine wp_region_held_drew (S:=(fun wq=>(wq.cell? ⟨w.heap.size,0,none⟩=some (yi R)∧wq.cell? ⟨w.heap.size,1,none⟩=some (yi D)∧wq.cell? ⟨w.heap.size,2,none⟩=some (yi L)∧wq.cell? ⟨w.heap.size,3,none⟩=some (yi G)∧wq.cell? ⟨w.heap.size,4,none⟩=some (.bool gr)∧wq.cell? ⟨w.heap.size,5,none⟩=some (yi sz)∧wq.cell? ⟨w.heap.size,6,none⟩=some (yi ex)∧wq.cell? ⟨w.heap.size,7,none⟩=some (yi fam)∧wq.cell? ⟨w.heap.size,8,none⟩=some (.func (.func F) #[] #[]))∧(wq.cell? ⟨w.heap.size+1,0,none⟩=some (.bool ng)∧wq.cell? ⟨w.heap.size+1,1,none⟩=some (yi e)∧wq.cell? ⟨w.heap.size+1,2,none⟩=some (.int .u64 f)))) (by kernel_rfl) ⟨⟨l0.drew.c 0 rfl,l0.drew.c 1 rfl,l0.drew.c 2 rfl,l0.drew.c 3 rfl,l0.drew.c 4 rfl,l0.drew.c 5 rfl,l0.drew.c 6 rfl,l0.drew.c 7 rfl,l0.drew.c 8 rfl⟩,m0.drew.c 0 rfl,m0.drew.c 1 rfl,m0.drew.c 2 rfl⟩ (fun hS0=> ?_)
 refine tq 0 (.pointer (some ⟨w.heap.size+1,1,none⟩)) rfl (fun w0 _=>by go_simp) hS0 ?_
 refine tq 1 (yi e) rfl (fun w0 hw0=>by obtain⟨⟨p0,p1,p2,p3,p4,p5,p6,p7,p8⟩,q0,q1,q2⟩:=hw0;go_simp) hS0 ?_
 refine tq 2 ((ylV R D L G gr sz ex fam F)) rfl (fun w0 hw0=>by obtain⟨⟨p0,p1,p2,p3,p4,p5,p6,p7,p8⟩,q0,q1,q2⟩:=hw0;go_simp) hS0 ?_
 refine wpAnyH_ready (rs:=[3]) (by kernel_rfl) (by simp) ?_;refine AllReadyH.cons rfl (fun K hK=> ?_) AllReadyH.nil
 go_simp
 refine(HO.out _).mono ?_;rintro z w1 ⟨rfl,b1⟩;have l1:=l0.drew.l b1;have m1:=m0.drew.l b1;have b01:=aa b0.drew b1;refine hK.out _ _ ⟨⟨l1.c 0 rfl,l1.c 1 rfl,l1.c 2 rfl,l1.c 3 rfl,l1.c 4 rfl,l1.c 5 rfl,l1.c 6 rfl,l1.c 7 rfl,l1.c 8 rfl⟩,m1.c 0 rfl,m1.c 1 rfl,m1.c 2 rfl⟩ (fun hS3=> ?_)
 clear hK K;refine tq 4 (.bool false) rfl (fun w0 _=>by go_simp) hS3 ?_
 refine tq 5 (.bool false) rfl (fun w0 _=>by go_simp) hS3 ?_
 refine wpAnyH_take (i:=6) (v:=undef) rfl (by kernel_rfl) (by kernel_rfl) (by kernel_rfl) (fun _ _ _ h=>h) (Or.inr ⟨by kernel_rfl,rfl⟩) hS3 ?_
 refine wpAnyH_take (i:=7) (v:=undef) rfl (by kernel_rfl) (by kernel_rfl) (by kernel_rfl) (fun _ _ _ h=>h) (Or.inr ⟨by kernel_rfl,rfl⟩) hS3 ?_
 refine wpAnyH_take (i:=8) (v:=undef) rfl (by kernel_rfl) (by kernel_rfl) (by kernel_rfl) (fun _ _ _ h=>h) (Or.inr ⟨by kernel_rfl,rfl⟩) hS3 ?_
 refine wpAnyH_take (i:=9) (v:=undef) rfl (by kernel_rfl) (by kernel_rfl) (by kernel_rfl) (fun _ _ _ h=>h) (Or.inr ⟨by kernel_rfl,rfl⟩) hS3 ?_
 refine wpAnyH_take (i:=10) (v:=undef) rfl (by kernel_rfl) (by kernel_rfl) (by kernel_rfl) (fun _ _ _ h=>h) (Or.inr ⟨by kernel_rfl,rfl⟩) hS3 ?_
 refine tq 11 (.bool false) rfl (fun w0 _=>by go_simp) hS3 ?_
 refine tq 12 (.bool false) rfl (fun w0 _=>by go_simp) hS3 ?_
 simp only[Act.put,List.getElem_toArray,List.getElem_cons_succ,List.getElem_cons_zero,List.setIfInBounds_toArray,List.set_cons_zero,List.set_cons_succ];refine wpAnyH_done (by kernel_rfl) ?_ _
 go_wp2_with fail
 go_region_held3 (fun wq=>(wq.cell? ⟨w.heap.size,0,none⟩=some (yi R)∧wq.cell? ⟨w.heap.size,1,none⟩=some (yi D)∧wq.cell? ⟨w.heap.size,2,none⟩=some (yi L)∧wq.cell? ⟨w.heap.size,3,none⟩=some (yi G)∧wq.cell? ⟨w.heap.size,4,none⟩=some (.bool gr)∧wq.cell? ⟨w.heap.size,5,none⟩=some (yi sz)∧wq.cell? ⟨w.heap.size,6,none⟩=some (yi ex)∧wq.cell? ⟨w.heap.size,7,none⟩=some (yi fam)∧wq.cell? ⟨w.heap.size,8,none⟩=some (.func (.func F) #[] #[]))∧(wq.cell? ⟨w.heap.size+1,0,none⟩=some (.bool ng)∧wq.cell? ⟨w.heap.size+1,1,none⟩=some (yi e)∧wq.cell? ⟨w.heap.size+1,2,none⟩=some (.int .u64 f))) (go_keep) (first
  | (go_at_call 191;refine(HO.out _).mono ?_;rintro z w2 ⟨rfl,b2⟩;have l2:=l1.drew.l b2;have m2:=m1.drew.l b2;have b02:=aa b01.drew b2;obtain⟨y0,y1,y2,y3,y4,y5,y6,y7,y8⟩:=l2.cs9;obtain⟨v0,v1,v2⟩:=m2.cs3)
  | (go_at_call 192;have hgd:=b02;clear hgd;refine(HW.out _).mono ?_;rintro z w3 ⟨rfl,b3⟩;have l3:=l2.l b3;have m3:=m2.l b3;have b03:=aa b02 b3;obtain⟨z0,z1,z2,z3,z4,z5,z6,z7,z8⟩:=l3.cs9;obtain⟨t0,t1,t2⟩:=m3.cs3;clear b02)
  | (go_at_call 192;refine(HW.out _).mono ?_;rintro z w4 ⟨rfl,b4⟩;have l4:=l3.l b4;have m4:=m3.l b4;have b04:=aa b03 b4;obtain⟨a0,a1,a2,a3,a4,a5,a6,a7,a8⟩:=l4.cs9;obtain⟨c0,c1,c2⟩:=m4.cs3))
 all_goals go_wp2
 all_goals go_ret
 all_goals exact⟨rfl,b04⟩
theorem adw (R D L G fam sz ex on wr:Int)(gr ng:Bool)(F:Nat)(e f:Int)(w:World)(HO:yJ 191 #[ylV R D L G gr sz ex fam F] (yi on))(HW:yJ 192 #[ylV R D L G gr sz ex fam F] (.int .u64 wr))(h1:e≠0)(h2:e≠on)(h3:bits .and .u64 f wr=0)(_h4:((0:Int)==wr)=false):yC 151 #[ylV R D L G gr sz ex fam F,yfV ng e f] w (yR w (yi 4)):=by
 have hsf:=cD;replace HO:Hid _:=HO;replace HW:Hid _:=HW;have l0:=(ah w (ylL R D L G gr sz ex fam F) 124).l (af _ (.cells (yfA ng e f) 127));have m0:=ah (w.alloc (.cells (ylA R D L G gr sz ex fam F) 124)) (yfL ng e f) 127;have b0:=aa (af w (.cells (ylA R D L G gr sz ex fam F) 124)) (af _ (.cells (yfA ng e f) 127));rw[World.size_alloc] at m0;have he0:(e==0)=false:=by simpa using h1
 have he1:(e==on)=false:=by simpa using h2
 clear h1 h2;obtain⟨x0,x1,x2,x3,x4,x5,x6,x7,x8⟩:=l0.cs9;obtain⟨u0,u1,u2⟩:=m0.cs3
 go_enter func151,ntmps151
 go_wp2_with fail
 refine wp_region_held_drew (S:=(fun wq=>(wq.cell? ⟨w.heap.size,0,none⟩=some (yi R)∧wq.cell? ⟨w.heap.size,1,none⟩=some (yi D)∧wq.cell? ⟨w.heap.size,2,none⟩=some (yi L)∧wq.cell? ⟨w.heap.size,3,none⟩=some (yi G)∧wq.cell? ⟨w.heap.size,4,none⟩=some (.bool gr)∧wq.cell? ⟨w.heap.size,5,none⟩=some (yi sz)∧wq.cell? ⟨w.heap.size,6,none⟩=some (yi ex)∧wq.cell? ⟨w.heap.size,7,none⟩=some (yi fam)∧wq.cell? ⟨w.heap.size,8,none⟩=some (.func (.func F) #[] #[]))∧(wq.cell? ⟨w.heap.size+1,0,none⟩=some (.bool ng)∧wq.cell? ⟨w.heap.size+1,1,none⟩=some (yi e)∧wq.cell? ⟨w.heap.size+1,2,none⟩=some (.int .u64 f)))) (by kernel_rfl) ⟨⟨l0.drew.c 0 rfl,l0.drew.c 1 rfl,l0.drew.c 2 rfl,l0.drew.c 3 rfl,l0.drew.c 4 rfl,l0.drew.c 5 rfl,l0.drew.c 6 rfl,l0.drew.c 7 rfl,l0.drew.c 8 rfl⟩,m0.drew.c 0 rfl,m0.drew.c 1 rfl,m0.drew.c 2 rfl⟩ (fun hS0=> ?_)
 refine tq 0 (.pointer (some ⟨w.heap.size+1,1,none⟩)) rfl (fun w0 _=>by go_simp) hS0 ?_
 refine tq 1 (yi e) rfl (fun w0 hw0=>by obtain⟨⟨p0,p1,p2,p3,p4,p5,p6,p7,p8⟩,q0,q1,q2⟩:=hw0;go_simp) hS0 ?_
 refine tq 2 ((ylV R D L G gr sz ex fam F)) rfl (fun w0 hw0=>by obtain⟨⟨p0,p1,p2,p3,p4,p5,p6,p7,p8⟩,q0,q1,q2⟩:=hw0;go_simp) hS0 ?_
 refine wpAnyH_ready (rs:=[3]) (by kernel_rfl) (by simp) ?_;refine AllReadyH.cons rfl (fun K hK=> ?_) AllReadyH.nil
 go_simp
 refine(HO.out _).mono ?_;rintro z w1 ⟨rfl,b1⟩;have l1:=l0.drew.l b1;have m1:=m0.drew.l b1;have b01:=aa b0.drew b1;refine hK.out _ _ ⟨⟨l1.c 0 rfl,l1.c 1 rfl,l1.c 2 rfl,l1.c 3 rfl,l1.c 4 rfl,l1.c 5 rfl,l1.c 6 rfl,l1.c 7 rfl,l1.c 8 rfl⟩,m1.c 0 rfl,m1.c 1 rfl,m1.c 2 rfl⟩ (fun hS3=> ?_)
 clear hK K;refine tq 4 (.bool false) rfl (fun w0 _=>by go_simp) hS3 ?_
 refine tq 5 (.bool false) rfl (fun w0 _=>by go_simp) hS3 ?_
 refine wpAnyH_take (i:=6) (v:=undef) rfl (by kernel_rfl) (by kernel_rfl) (by kernel_rfl) (fun _ _ _ h=>h) (Or.inr ⟨by kernel_rfl,rfl⟩) hS3 ?_
 refine wpAnyH_take (i:=7) (v:=undef) rfl (by kernel_rfl) (by kernel_rfl) (by kernel_rfl) (fun _ _ _ h=>h) (Or.inr ⟨by kernel_rfl,rfl⟩) hS3 ?_
 refine wpAnyH_take (i:=8) (v:=undef) rfl (by kernel_rfl) (by kernel_rfl) (by kernel_rfl) (fun _ _ _ h=>h) (Or.inr ⟨by kernel_rfl,rfl⟩) hS3 ?_
 refine wpAnyH_take (i:=9) (v:=undef) rfl (by kernel_rfl) (by kernel_rfl) (by kernel_rfl) (fun _ _ _ h=>h) (Or.inr ⟨by kernel_rfl,rfl⟩) hS3 ?_
 refine wpAnyH_take (i:=10) (v:=undef) rfl (by kernel_rfl) (by kernel_rfl) (by kernel_rfl) (fun _ _ _ h=>h) (Or.inr ⟨by kernel_rfl,rfl⟩) hS3 ?_
 refine tq 11 (.bool false) rfl (fun w0 _=>by go_simp) hS3 ?_
 refine tq 12 (.bool false) rfl (fun w0 _=>by go_simp) hS3 ?_
 simp only[Act.put,List.getElem_toArray,List.getElem_cons_succ,List.getElem_cons_zero,List.setIfInBounds_toArray,List.set_cons_zero,List.set_cons_succ];refine wpAnyH_done (by kernel_rfl) ?_ _
 go_wp2_with fail
 go_region_held3 (fun wq=>(wq.cell? ⟨w.heap.size,0,none⟩=some (yi R)∧wq.cell? ⟨w.heap.size,1,none⟩=some (yi D)∧wq.cell? ⟨w.heap.size,2,none⟩=some (yi L)∧wq.cell? ⟨w.heap.size,3,none⟩=some (yi G)∧wq.cell? ⟨w.heap.size,4,none⟩=some (.bool gr)∧wq.cell? ⟨w.heap.size,5,none⟩=some (yi sz)∧wq.cell? ⟨w.heap.size,6,none⟩=some (yi ex)∧wq.cell? ⟨w.heap.size,7,none⟩=some (yi fam)∧wq.cell? ⟨w.heap.size,8,none⟩=some (.func (.func F) #[] #[]))∧(wq.cell? ⟨w.heap.size+1,0,none⟩=some (.bool ng)∧wq.cell? ⟨w.heap.size+1,1,none⟩=some (yi e)∧wq.cell? ⟨w.heap.size+1,2,none⟩=some (.int .u64 f))) (go_keep) (first
  | (go_at_call 191;refine(HO.out _).mono ?_;rintro z w2 ⟨rfl,b2⟩;have l2:=l1.drew.l b2;have m2:=m1.drew.l b2;have b02:=aa b01.drew b2;obtain⟨y0,y1,y2,y3,y4,y5,y6,y7,y8⟩:=l2.cs9;obtain⟨v0,v1,v2⟩:=m2.cs3)
  | (go_at_call 192;have hgd:=b02;clear hgd;refine(HW.out _).mono ?_;rintro z w3 ⟨rfl,b3⟩;have l3:=l2.l b3;have m3:=m2.l b3;have b03:=aa b02 b3;obtain⟨z0,z1,z2,z3,z4,z5,z6,z7,z8⟩:=l3.cs9;obtain⟨t0,t1,t2⟩:=m3.cs3;clear b02)
  | (go_at_call 192;refine(HW.out _).mono ?_;rintro z w4 ⟨rfl,b4⟩;have l4:=l3.l b4;have m4:=m3.l b4;have b04:=aa b03 b4;obtain⟨a0,a1,a2,a3,a4,a5,a6,a7,a8⟩:=l4.cs9;obtain⟨c0,c1,c2⟩:=m4.cs3))
 all_goals go_wp2
 all_goals go_ret
 all_goals exact⟨rfl,b04⟩
end Go.Proofs.YtpgijbdgljkeeaaGreatDoor
