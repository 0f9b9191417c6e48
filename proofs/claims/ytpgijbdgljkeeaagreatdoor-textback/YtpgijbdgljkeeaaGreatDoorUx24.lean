/-
  Texts laid together: Co10, Ce6, Tx7.
-/
import Derived.Test.YtpgijbdgljkeeaaGreatDoorUx12
import Derived.Test.YtpgijbdgljkeeaaGreatDoorUx14
import Derived.Test.YtpgijbdgljkeeaaGreatDoorUx15
set_option maxRecDepth 100000
set_option maxHeartbeats 6400000
namespace Go.Proofs.YtpgijbdgljkeeaaGreatDoor
open _root_.Go.Proofs.Tryz
open Go.RowKit
theorem AY (g cap:Nat)(zs:List Nat)(f c x:Nat)(w:World)(hr:ik w g zs)(hs:Dg.Small 256 zs)(hx:x<18446744073709551616)(hfc:f+c≤8*zs.length)(hl:zs.length≤1000):
  yC 193 #[.slice (some ⟨g,0,none⟩) zs.length cap,yi f,yi c,.int .u64 x] w fun e w'=>e= .returned (.tuple #[])∧ik w' g (iS f c x zs)∧w.grownBy w' (some g):=by
 go_enter func193,ntmps193
 go_wp2
 go_loopw [3,8] (fun xv iv wr=> ∃(j y:Nat) (cur:List Nat),j≤c∧iv=yi ((f:Int)+j-1)∧xv= .int .u64 y∧y<18446744073709551616∧ik wr g cur∧Dg.Small 256 cur∧Hid (cur.length=zs.length)∧Hid (iS f j y cur=iS f c x zs)∧w.grownBy wr (some g))
  (fun _ iv _=>(intOf iv+1).toNat)
 case atStart=>exact⟨c,x,zs,Nat.le_refl _,by go_num,rfl,hx,hr,hs,rfl,rfl,ib _ _⟩
 case round=>
  obtain⟨j,y,cur,hj,rfl,rfl,hy,own,hsm,Hl,Hx,gr⟩:=hrel;have hlen:=Hl.out
  by_cases hj0:0<j
  ·obtain⟨j',rfl⟩: ∃j',j=j'+1:=⟨j-1,by omega⟩
   obtain⟨i,hi⟩: ∃i,f+j'=i:=⟨_,rfl⟩;have hiI:(f:Int)+((j'+1:Nat):Int)-1=(i:Int):=by omega
   rw[hiI];obtain⟨q,hq⟩: ∃q,i/8=q:=⟨_,rfl⟩;obtain⟨r,hr'⟩: ∃r,i % 8=r:=⟨_,rfl⟩;have hqI:(i:Int)/8=(q:Int):=by omega
   have hrI:(i:Int) % 8=(r:Int):=by omega
   have hcell:=own.c q (by omega);have hfree:=own.f q (by omega);have hs1:=hsm q;obtain⟨b,hb⟩: ∃b,cur.getD q 0=b:=⟨_,rfl⟩;rw[hb] at hcell hs1;have hql:q<zs.length:=by omega
   have hr8:r<8:=by omega
   have HH:Hid (_∧_∧_∧_):=⟨hi,hq,hr',hb⟩;have hic:(f:Int)≤(i:Int):=by omega
   have hib:(i:Int)≤8000:=by omega
   clear hi hq hr' hb hlen hiI
   go_wp2
   go_region
   all_goals go_wp2
   all_goals go_roundw
   case rel=>
    obtain⟨hi,hq,hr',hb⟩:=HH.out;have hbl:b|||y % 2*2^ (7-r)<256:=Nat.or_lt_two_pow (n:=8) hs1 (Cf y r)
    refine⟨j',y/2,cur.set q (b|||y % 2*2^ (7-r)),by omega,by congr 1;omega,rfl,by omega, ?_,Io hsm _ _ hbl, ?_, ?_,eF gr (eF (bI _ _ _ _) (vm _ _))⟩
    ·rw[aaR b y r hs1 hy]
     exact(own.store q _).drew
    ·show _=_
     rw[List.length_set];exact Hl.out
    ·show _=_
     have:=Hx.out;rw[iS,hi,hq,hr',hb] at this;exact this
   case measure=>simp only[intOf];omega
  ·have hd: ¬((f:Int)≤(f:Int)+(j:Int)-1):=by omega
   have h0:Hid (j=0):=(by omega:j=0);clear hlen
   go_wp2
   go_end0
   have h1:=h0.out;subst h1;have:=Hx.out;rw[iS] at this;rw[←this];exact⟨rfl,own,gr⟩
theorem KE (D L G fam:Int)(gr:Bool)(sz ex:Nat)(F:Nat)(s x1 x2 x3:Bool)(ao:Option Addr)(dn dc:Nat)(pw:Int)(e f:Nat)(w:World)(hE:IntKind.i64.wrap (pw-L)=(e:Int))(_he:e<65536)
  (HWd: ∀w1,yB w w1→yC 217 #[.slice ao dn dc] w1 fun z w'=>z= .returned (.int .u64 f)∧w1=w'):
  yC 190 #[ylV 16 D L G gr sz ex fam F,ypV s (.slice ao dn dc) pw x1 x2 x3] w (yR w (yfV s e f)):=by
 have hsf:=cD;have HWd':Hid _:=HWd;clear HWd;have bp:=af (w.alloc (.cells (ylA 16 D L G gr sz ex fam F) 124)) (.cells (ypA s (.slice ao dn dc) pw x1 x2 x3) 151);have bz:=af ((w.alloc (.cells (ylA 16 D L G gr sz ex fam F) 124)).alloc (.cells (ypA s (.slice ao dn dc) pw x1 x2 x3) 151)) (.cells (yfA false 0 0) 127);have ql0:=((ah w (ylL 16 D L G gr sz ex fam F) 124).l bp).l bz;have qp0:=(ah (w.alloc (.cells (ylA 16 D L G gr sz ex fam F) 124)) (ypL s (.slice ao dn dc) pw x1 x2 x3) 151).l bz;have qz0:=ah ((w.alloc (.cells (ylA 16 D L G gr sz ex fam F) 124)).alloc (.cells (ypA s (.slice ao dn dc) pw x1 x2 x3) 151)) (yfL false 0 0) 127;have b0:=aa (aa (af w (.cells (ylA 16 D L G gr sz ex fam F) 124)) bp) bz;rw[World.size_alloc] at qp0;rw[World.size_alloc,World.size_alloc] at qz0;have ba:=af (((w.alloc (.cells (ylA 16 D L G gr sz ex fam F) 124)).alloc (.cells (ypA s (.slice ao dn dc) pw x1 x2 x3) 151)).alloc (.cells (yfA false 0 0) 127)) (.cells (yfA false 0 0) 127);have b0d:=b0.drew;have b0a:=(aa b0 ba).drew;have ql0a:=(ql0.l ba).drew;have qp0a:=(qp0.l ba).drew;have ql0d:=ql0.drew;have qp0d:=qp0.drew;obtain⟨cx0,cx1,cx2,cx3,cx4,cx5,cx6,cx7,cx8⟩:=ql0d.cs9;obtain⟨cu0,cu1,cu2,cu3,cu4,cu5⟩:=qp0d.cs6;obtain⟨cxa0,cxa1,cxa2,cxa3,cxa4,cxa5,cxa6,cxa7,cxa8⟩:=ql0a.cs9;obtain⟨cua0,cua1,cua2,cua3,cua4,cua5⟩:=qp0a.cs6;have hn0:w.heap.size+1+1+1≠w.heap.size:=by omega
 have hn1:w.heap.size+1+1+1≠w.heap.size+1:=by omega
 go_enter func190,ntmps190
 go_wp2_with fail
 go_region_held3 (fun wq=>(wq.cell? ⟨w.heap.size,0,none⟩=some (yi 16)∧wq.cell? ⟨w.heap.size,1,none⟩=some (yi D)∧wq.cell? ⟨w.heap.size,2,none⟩=some (yi L)∧wq.cell? ⟨w.heap.size,3,none⟩=some (yi G)∧wq.cell? ⟨w.heap.size,4,none⟩=some (.bool gr)∧wq.cell? ⟨w.heap.size,5,none⟩=some (yi sz)∧wq.cell? ⟨w.heap.size,6,none⟩=some (yi ex)∧wq.cell? ⟨w.heap.size,7,none⟩=some (yi fam)∧wq.cell? ⟨w.heap.size,8,none⟩=some (.func (.func F) #[] #[]))∧(wq.cell? ⟨w.heap.size+1,0,none⟩=some (.bool s)∧wq.cell? ⟨w.heap.size+1,1,none⟩=some (.slice ao dn dc)∧wq.cell? ⟨w.heap.size+1,2,none⟩=some (yi pw)∧wq.cell? ⟨w.heap.size+1,3,none⟩=some (.bool x1)∧wq.cell? ⟨w.heap.size+1,4,none⟩=some (.bool x2)∧wq.cell? ⟨w.heap.size+1,5,none⟩=some (.bool x3))) (go_keep) (first
  | (go_at_call 217;(first| (with_reducible (refine(HWd'.out _ b0d).mono ?_))| (with_reducible (refine(HWd'.out _ b0a).mono ?_)));rintro z wv ⟨rfl,rfl⟩))
 all_goals (
  have ba4:=af (((w.alloc (.cells (ylA 16 D L G gr sz ex fam F) 124)).alloc (.cells (ypA s (.slice ao dn dc) pw x1 x2 x3) 151)).alloc (.cells (yfA false 0 0) 127)) (.cells (yfA s e f) 127);have ql4:=(ql0.l ba4).drew;have qz4:=(qz0.l ba4).drew;have qf4:=(ah (((w.alloc (.cells (ylA 16 D L G gr sz ex fam F) 124)).alloc (.cells (ypA s (.slice ao dn dc) pw x1 x2 x3) 151)).alloc (.cells (yfA false 0 0) 127)) (yfL s e f) 127).drew;rw[World.size_alloc,World.size_alloc,World.size_alloc] at qf4;have b4:=(aa b0 ba4).drew;clear ba4 ba b0d b0a ql0a qp0a ql0d qp0d ql0 qp0 qz0 b0 cx0 cxa0 cx1 cxa1 cx2 cxa2 cx3 cxa3 cx4 cxa4 cx5 cxa5 cx6 cxa6 cx7 cxa7 cx8 cxa8 cu0 cua0 cu1 cua1 cu2 cua2 cu3 cua3 cu4 cua4 cu5 cua5;generalize((((w.alloc (.cells (ylA 16 D L G gr sz ex fam F) 124)).alloc (.cells (ypA s (.slice ao dn dc) pw x1 x2 x3) 151)).alloc (.cells (yfA false 0 0) 127)).alloc (.cells (yfA s e f) 127)).drew=w4 at*;have c0:=ql4.c 0 rfl
  go_wp2_with fail
  go_quiet (fail)
  have bd:yB w4 (w4.drewN nq):=aL (Below.refl _ _) _;have qz5:=qz4.l bd;have qf5:=qf4.l bd;have b5:=aa b4 bd;clear c0 ql4 qz4 qf4 b4 bd;generalize w4.drewN nq=w5 at*;have bu:=((ag w5 (w.heap.size+1+1) 0 (.bool s)).trans (ag _ (w.heap.size+1+1) 1 (yi e))).trans (ag _ (w.heap.size+1+1) 2 (.int .u64 f));have cR:au (((w5.setCell ⟨w.heap.size+1+1,0,none⟩ (.bool s)).setCell ⟨w.heap.size+1+1,1,none⟩ (yi e)).setCell ⟨w.heap.size+1+1,2,none⟩ (.int .u64 f)) (w.heap.size+1+1) 127 (yfL s e f):=(((qz5.set 0 (.bool s)).set 1 (yi e)).set 2 (.int .u64 f));have bR:=bu.below b5 (by omega);have hl:=run_loadVar_mid (P:=Tryz.prog) _ (w.heap.size+1+1) 0 127 (yfL s e f) _ cR.range underlying127 rfl (by kernel_rfl);have HH:Hid (_∧_):=⟨hl,bR⟩;obtain⟨yz0,yz1,yz2⟩:=qz5.cs3;have jz0:=qz5.f 0;have jz1:=qz5.f 1;have jz2:=qz5.f 2;obtain⟨yf0,yf1,yf2⟩:=qf5.cs3;clear hl bR cR bu
  go_wp2
  obtain⟨hl,bR⟩:=HH.out;exact bodyPost_ret (br results190 rfl hl) rfl ⟨rfl,bR⟩
 )
theorem tscaled_du (xg:Bool)(xn:Nat)(xo:Option Addr)(xc:Nat)(e n tw mn:Int)(F Nn qt rm:Nat)(w:World)(rx:Rd w .u32 (yT xo xn xc) (Dg.dg 4294967296 xn))(htw:IntKind.i64.wrap (e+n)=tw)(hn: ¬0<n)(ht:0<tw)(hmn:IntKind.i64.wrap (-n)=mn)
  (HF: ∀w1,yC 72 #[yi mn] w1 (NmR w1 F))
  (HS: ∀xo xc w1,Rd w1 .u32 (yT xo xn xc) (Dg.dg 4294967296 xn)→yC 75 #[yT xo xn xc,yi tw] w1 (NmR w1 Nn))
  (HO: ∀no nc fo fc w1,Rd w1 .u32 (yT no Nn nc) (Dg.dg 4294967296 Nn)→Rd w1 .u32 (yT fo F fc) (Dg.dg 4294967296 F)→yC 101 #[yT no Nn nc,yT fo F fc] w1 (TwR w1 qt rm)):
  yC 97 #[ydV xg (yT xo xn xc) e,yi n] w (NbR w qt (decide (0< (Dg.dg 4294967296 rm).length))):=by
 replace HF:Hid _:=HF;replace HS:Hid _:=HS;replace HO:Hid _:=HO;obtain⟨W3,hW4,q1,b2⟩:=cA w (ydL xg (yT xo xn xc) e) 95;replace hW4:Hid _:=hW4;have r5:=rx.l b2;clear rx
 go_enter func97,ntmps97
 go_upto_region 1 with fail
 rw[hW4.out];clear hW4
 go_upto_region 1 with fail
 have bW6:yB W3 W3.drew:=(Below.refl _ _).drew;have q7:=q1.l bW6;have r8:=r5.l bW6;have b9:=aa b2 bW6;clear q1 r5 b2 bW6;refine wp_region_held_drew (S:=fun wq=>au wq w.heap.size 95 (ydL xg (yT xo xn xc) e)) (by kernel_rfl) q7 (fun hS0=> ?_)
 generalize W3.drew=WD10 at q7 r8 b9 hS0⊢;refine tq 0 (.pointer (some ⟨w.heap.size,1,none⟩)) rfl (fun _ _=>by kernel_rfl) hS0 ?_
 refine tq 1 (yT xo xn xc) rfl (fun _ hw0=>gU 23 (.tmp 11) rfl w.heap.size 1 (by kernel_rfl) _ _ underlying23 rfl (hw0.c 1 rfl)) hS0 ?_
 refine tq 3 (.pointer (some ⟨w.heap.size,2,none⟩)) rfl (fun _ _=>by kernel_rfl) hS0 ?_
 refine tq 4 (yi e) rfl (fun _ hw0=>gU 3 (.tmp 14) rfl w.heap.size 2 (by kernel_rfl) _ _ underlying3 rfl (hw0.c 2 rfl)) hS0 ?_
 refine tq 5 (yi n) rfl (fun _ _=>by kernel_rfl) hS0 ?_
 refine tq 6 (yi tw) rfl (fun _ _=>by go_simp) hS0 ?_
 refine tq 7 (yT xo xn xc) rfl (fun _ _=>by kernel_rfl) hS0 ?_
 refine wpAnyH_ready (rs:=[2]) (by kernel_rfl) (by simp) ?_;refine AllReadyH.cons rfl (fun K hK=> ?_) AllReadyH.nil
 go_simp
 have al11:=af WD10 (.cells #[.int .u32 1] 138);have q12:=ah WD10 [.int .u32 1] 138;have hl15:w.heap.size≤WD10.heap.size:=b9.size;have hl16:=q7.lt;have q17:=q7.l al11;have r18:=r8.l al11;have b19:=aa b9 al11;refine hK.out _ _ q17 (fun hS20=> ?_)
 clear hK K;clear q7 r8 b9 al11;generalize WD10.alloc (.cells #[.int .u32 1] 138)=WN13 at q17 q12 r18 b19 hS20⊢;generalize WD10.heap.size=PQ14 at q12 hl15 hl16⊢;refine tq 8 (.slice (some ⟨PQ14,0,none⟩) 1 1) rfl (fun _ _=>by kernel_rfl) hS20 ?_
 refine tq 9 (yi tw) rfl (fun _ _=>by kernel_rfl) hS20 ?_
 refine wpAnyH_done (by kernel_rfl) ?_ _;clear hS0 hS20;simp only[Act.put,List.getElem_toArray,List.getElem_cons_succ,List.getElem_cons_zero,List.setIfInBounds_toArray,List.set_cons_zero,List.set_cons_succ]
 go_wp2_with fail
 refine(HF.out _).mono ?_;rintro zz w21 ⟨v1x23,rfl,r1x24,bb22⟩;have r25:=r18.l bb22;have b26:=aa b19 bb22;obtain⟨fo,fc,hv⟩:=r1x24.shape;subst hv;clear q17 q12 r18 b19 bb22 HF
 go_wp2_with fail
 refine(HS.out _ _ _ r25).mono ?_;rintro zz w27 ⟨v1x29,rfl,r1x30,bb28⟩;have r31:=r1x24.l bb28;have b32:=aa b26 bb28;obtain⟨no,nc,hv⟩:=r1x30.shape;subst hv;clear r25 r1x24 b26 bb28 HS
 go_wp2_with fail
 refine(HO.out _ _ _ _ _ r1x30 r31).mono ?_;rintro zz w33 ⟨v1x35,v2x36,rfl,r1x37,r2x38,bb34⟩;have b39:=aa b32 bb34;obtain⟨qo,qc,hv⟩:=r1x37.shape;subst hv;obtain⟨so,sc,hv⟩:=r2x38.shape;subst hv;clear r31 r1x30 b32 bb34 HO
 go_wp2
 go_ret2
 exact⟨_,rfl,r1x37,b39⟩
theorem tscaled_dd (xg:Bool)(xn:Nat)(xo:Option Addr)(xc:Nat)(e n tw mn mt:Int)(F Dn qt rm:Nat)(w:World)(rx:Rd w .u32 (yT xo xn xc) (Dg.dg 4294967296 xn))(htw:IntKind.i64.wrap (e+n)=tw)(hn: ¬0<n)(ht: ¬0<tw)(hmn:IntKind.i64.wrap (-n)=mn)(hmt:IntKind.i64.wrap (-tw)=mt)
  (HF: ∀w1,yC 72 #[yi mn] w1 (NmR w1 F))
  (HS: ∀fo fc w1,Rd w1 .u32 (yT fo F fc) (Dg.dg 4294967296 F)→yC 75 #[yT fo F fc,yi mt] w1 (NmR w1 Dn))
  (HO: ∀xo xc go gc w1,Rd w1 .u32 (yT xo xn xc) (Dg.dg 4294967296 xn)→Rd w1 .u32 (yT go Dn gc) (Dg.dg 4294967296 Dn)→yC 101 #[yT xo xn xc,yT go Dn gc] w1 (TwR w1 qt rm)):
  yC 97 #[ydV xg (yT xo xn xc) e,yi n] w (NbR w qt (decide (0< (Dg.dg 4294967296 rm).length))):=by
 replace HF:Hid _:=HF;replace HS:Hid _:=HS;replace HO:Hid _:=HO;obtain⟨W3,hW4,q1,b2⟩:=cA w (ydL xg (yT xo xn xc) e) 95;replace hW4:Hid _:=hW4;have r5:=rx.l b2;clear rx
 go_enter func97,ntmps97
 go_upto_region 1 with fail
 rw[hW4.out];clear hW4
 go_upto_region 1 with fail
 have bW6:yB W3 W3.drew:=(Below.refl _ _).drew;have q7:=q1.l bW6;have r8:=r5.l bW6;have b9:=aa b2 bW6;clear q1 r5 b2 bW6;refine wp_region_held_drew (S:=fun wq=>au wq w.heap.size 95 (ydL xg (yT xo xn xc) e)) (by kernel_rfl) q7 (fun hS0=> ?_)
 generalize W3.drew=WD10 at q7 r8 b9 hS0⊢;refine tq 0 (.pointer (some ⟨w.heap.size,1,none⟩)) rfl (fun _ _=>by kernel_rfl) hS0 ?_
 refine tq 1 (yT xo xn xc) rfl (fun _ hw0=>gU 23 (.tmp 11) rfl w.heap.size 1 (by kernel_rfl) _ _ underlying23 rfl (hw0.c 1 rfl)) hS0 ?_
 refine tq 3 (.pointer (some ⟨w.heap.size,2,none⟩)) rfl (fun _ _=>by kernel_rfl) hS0 ?_
 refine tq 4 (yi e) rfl (fun _ hw0=>gU 3 (.tmp 14) rfl w.heap.size 2 (by kernel_rfl) _ _ underlying3 rfl (hw0.c 2 rfl)) hS0 ?_
 refine tq 5 (yi n) rfl (fun _ _=>by kernel_rfl) hS0 ?_
 refine tq 6 (yi tw) rfl (fun _ _=>by go_simp) hS0 ?_
 refine tq 7 (yT xo xn xc) rfl (fun _ _=>by kernel_rfl) hS0 ?_
 refine wpAnyH_ready (rs:=[2]) (by kernel_rfl) (by simp) ?_;refine AllReadyH.cons rfl (fun K hK=> ?_) AllReadyH.nil
 go_simp
 have al11:=af WD10 (.cells #[.int .u32 1] 138);have q12:=ah WD10 [.int .u32 1] 138;have hl15:w.heap.size≤WD10.heap.size:=b9.size;have hl16:=q7.lt;have q17:=q7.l al11;have r18:=r8.l al11;have b19:=aa b9 al11;refine hK.out _ _ q17 (fun hS20=> ?_)
 clear hK K;clear q7 r8 b9 al11;generalize WD10.alloc (.cells #[.int .u32 1] 138)=WN13 at q17 q12 r18 b19 hS20⊢;generalize WD10.heap.size=PQ14 at q12 hl15 hl16⊢;refine tq 8 (.slice (some ⟨PQ14,0,none⟩) 1 1) rfl (fun _ _=>by kernel_rfl) hS20 ?_
 refine tq 9 (yi tw) rfl (fun _ _=>by kernel_rfl) hS20 ?_
 refine wpAnyH_done (by kernel_rfl) ?_ _;clear hS0 hS20;simp only[Act.put,List.getElem_toArray,List.getElem_cons_succ,List.getElem_cons_zero,List.setIfInBounds_toArray,List.set_cons_zero,List.set_cons_succ]
 go_wp2_with fail
 refine(HF.out _).mono ?_;rintro zz w21 ⟨v1x23,rfl,r1x24,bb22⟩;have r25:=r18.l bb22;have b26:=aa b19 bb22;obtain⟨fo,fc,hv⟩:=r1x24.shape;subst hv;clear q17 q12 r18 b19 bb22 HF
 go_wp2_with fail
 refine(HS.out _ _ _ r1x24).mono ?_;rintro zz w27 ⟨v1x29,rfl,r1x30,bb28⟩;have r31:=r25.l bb28;have b32:=aa b26 bb28;obtain⟨go,gc,hv⟩:=r1x30.shape;subst hv;clear r25 r1x24 b26 bb28 HS
 go_wp2_with fail
 refine(HO.out _ _ _ _ _ r31 r1x30).mono ?_;rintro zz w33 ⟨v1x35,v2x36,rfl,r1x37,r2x38,bb34⟩;have b39:=aa b32 bb34;obtain⟨qo,qc,hv⟩:=r1x37.shape;subst hv;obtain⟨so,sc,hv⟩:=r2x38.shape;subst hv;clear r31 r1x30 b32 bb34 HO
 go_wp2
 go_ret2
 exact⟨_,rfl,r1x37,b39⟩
end Go.Proofs.YtpgijbdgljkeeaaGreatDoor
