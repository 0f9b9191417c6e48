/-
  Texts laid together: Ce7, Ce10, Ce11, Em1, Cr4, Df1, Ef2.
-/
import Derived.Test.YtbdokgamhinajaaGreatDoorSo23
set_option maxRecDepth 100000
set_option maxHeartbeats 6400000
namespace Go.Proofs.YtbdokgamhinajaaGreatDoor
open _root_.Go.Proofs.Tryz
open Go.RowKit
theorem CC (R D L G fam:Int)(gr:Bool)(sz ex:Nat)(F:Nat)(s:Bool)(ao:Option Addr)(dn dc:Nat)(e:Int)(w:World)(zs:List Nat)(pn:Nat)(ps k1 k2 k3:Bool)(pw er:Int)
  (HR: ∀q w1,yB w w1→w1.cell? ⟨q,0,none⟩=some (.int .u32 1)→yC 44 #[yrV s (.slice ao dn dc) (.slice (some ⟨q,0,none⟩) 1 1) e,ygV R D L G gr,yi 3] w1 fun z w'=> ∃po pc,z= .returned (.tuple #[ypV ps (.slice po pn pc) pw k1 k2 k3,yi er])∧Rd w' .u32 (.slice po pn pc) zs∧yB w1 w')
  (fs:Bool) (fe ff:Nat) (HF: ∀po pc w1,yB w w1→Rd w1 .u32 (.slice po pn pc) zs→yC 178 #[ylV R D L G gr sz ex fam F,ypV ps (.slice po pn pc) pw k1 k2 k3] w1 (yR w1 (yfV fs fe ff)))
  (st:ByteArray) (HW:yJ 160 #[ylV R D L G gr sz ex fam F,yfV fs fe ff] (.string st)) (he:er=0) (hp:0<pn):
  yC 157 #[ylV R D L G gr sz ex fam F,ydV s (.slice ao dn dc) e] w (yR w (.tuple #[.string st,yi 0])):=by
 subst he;have HF':Hid _:=HF;clear HF;have HW':Hid _:=HW;clear HW;have hpb:((pn:Int)==0)=false:=by simp;omega
 have hsf:=cD;have HR':Hid _:=HR;clear HR;have bd:=af (w.alloc (.cells (ylA R D L G gr sz ex fam F) 170)) (.cells (ydA s (.slice ao dn dc) e) 72);have bo:=af ((w.alloc (.cells (ylA R D L G gr sz ex fam F) 170)).alloc (.cells (ydA s (.slice ao dn dc) e) 72)) (.cells #[.int .u32 1] 148);have l0:=((ah w (ylL R D L G gr sz ex fam F) 170).l bd).l bo;have o0:=ah ((w.alloc (.cells (ylA R D L G gr sz ex fam F) 170)).alloc (.cells (ydA s (.slice ao dn dc) e) 72)) [.int .u32 1] 148;have b0:=aa (aa (af w (.cells (ylA R D L G gr sz ex fam F) 170)) bd) bo;rw[World.size_alloc,World.size_alloc] at o0;clear bd bo
 go_enter func157,ntmps157
 go_wp2_with fail
 refine(HR'.out _ _ b0 (o0.c 0 rfl)).mono ?_;rintro z w1 ⟨po,pc,rfl,rp,b1⟩;have bq:=af w1 (.cells (ypA ps (.slice po pn pc) pw k1 k2 k3) 95);have l1:=(l0.l b1).l bq;have q1:=ah w1 (ypL ps (.slice po pn pc) pw k1 k2 k3) 95;have rp1:=rp.l bq;have b01:=aa (aa b0 b1) bq;clear l0 o0 b0 b1 bq rp HR';obtain⟨x0,x1,x2,x3,x4,x5,x6,x7,x8⟩:=l1.cs9;obtain⟨u0,u1,u2,u3,u4,u5⟩:=q1.cs6;have l1d:=l1.drew;have q1d:=q1.drew;have rp1d:=rp1.l (Below.refl _ _).drew;have b01d:=b01.drew;obtain⟨xd0,xd1,xd2,xd3,xd4,xd5,xd6,xd7,xd8⟩:=l1d.cs9;obtain⟨ud0,ud1,ud2,ud3,ud4,ud5⟩:=q1d.cs6
 go_wp2_with fail
 go_region_held3 (fun wq=>(wq.cell? ⟨w.heap.size,0,none⟩=some (yi R)∧wq.cell? ⟨w.heap.size,1,none⟩=some (yi D)∧wq.cell? ⟨w.heap.size,2,none⟩=some (yi L)∧wq.cell? ⟨w.heap.size,3,none⟩=some (yi G)∧wq.cell? ⟨w.heap.size,4,none⟩=some (.bool gr)∧wq.cell? ⟨w.heap.size,5,none⟩=some (yi sz)∧wq.cell? ⟨w.heap.size,6,none⟩=some (yi ex)∧wq.cell? ⟨w.heap.size,7,none⟩=some (yi fam)∧wq.cell? ⟨w.heap.size,8,none⟩=some (.func (.func F) #[] #[]))∧(wq.cell? ⟨w1.heap.size,0,none⟩=some (.bool ps)∧wq.cell? ⟨w1.heap.size,1,none⟩=some (.slice po pn pc)∧wq.cell? ⟨w1.heap.size,2,none⟩=some (yi pw)∧wq.cell? ⟨w1.heap.size,3,none⟩=some (.bool k1)∧wq.cell? ⟨w1.heap.size,4,none⟩=some (.bool k2)∧wq.cell? ⟨w1.heap.size,5,none⟩=some (.bool k3))) (go_keep) (first
  | (go_at_call 178;refine(HF'.out _ _ _ b01d rp1d).mono ?_;rintro z w2 ⟨rfl,b2⟩;have l2:=l1d.l b2;have q2:=q1d.l b2;have b02:=aa b01d b2;obtain⟨y0,y1,y2,y3,y4,y5,y6,y7,y8⟩:=l2.cs9;obtain⟨v0,v1,v2,v3,v4,v5⟩:=q2.cs6)
  | (go_at_call 160;refine(HW'.out _).mono ?_;rintro z w3 ⟨rfl,b3⟩;have l3:=l2.l b3;have q3:=q2.l b3;have b03:=aa b02 b3;obtain⟨t0,t1,t2,t3,t4,t5,t6,t7,t8⟩:=l3.cs9;obtain⟨g0,g1,g2,g3,g4,g5⟩:=q3.cs6))
 all_goals go_wp2
 all_goals go_ret2
 all_goals exact⟨rfl,b03⟩
theorem xD {w:World}{q:Nat}(h:w.cell? ⟨q,0,none⟩=some (.int .u32 1)):Rd w .u32 (.slice (some ⟨q,0,none⟩) 1 1) [1]:=
 ⟨_,1,rfl,Nat.le_refl _,by unfold maxLen;omega,fun _=>⟨q,0,rfl,fun i hi=>by
  obtain rfl:i=0:=by simpa using hi
  exact h⟩⟩
theorem fI (a:ak):(bare a).n=0↔a.n=0:=by
 by_cases h:a.n=0
 ·unfold bare
  rw[if_pos h];exact⟨fun _=>h,fun _=>rfl⟩
 ·unfold bare
  rw[if_neg h];obtain⟨m,hm⟩:=fO h;have:=lI hm;exact⟨fun h2=>by simp only at h2;omega,fun h2=>absurd h2 h⟩
theorem Re {k:Nat}(hk:1≤k∧k≤8):gW k<18446744073709551616:=by
 rcases bO hk with rfl|rfl|rfl|rfl|rfl|rfl|rfl|rfl<;>decide
def heE (R L:Int)(ld:Nat)(t:fz):Nat:=(t.p-L).toNat+if R=2∧t.d&&& ld≠0 then 1 else 0
theorem ZC (R D L G fam:Int)(gr:Bool)(sz ex:Nat)(F ld:Nat)(s:Bool)(ao:Option Addr)(ca:Nat)(xs:List Nat)(E:Int)(w:World)(WB:Bool→Nat→Nat→ByteArray)
  (hr:Rd w .u32 (.slice ao xs.length ca) xs) (sa:Dg.Small 4294967296 xs) (hd:aS xs E=0) (h0:Dg.vl 4294967296 xs≠0) (hg:bk R D L G=0) (h1:1≤D) (hLG:L≤G) (hD:ai R*D.toNat≤64) (hGL:G-L<60000) (hRc:R=2∨R=16) (hld:ld<18446744073709551616)
  (hh:dA R D L G gr (Dg.vl 4294967296 xs) E=true)
  (HL:yJ 181 #[ylV R D L G gr sz ex fam F] (.int .u64 ld))
  (HW: ∀ng e f w1,e<65536→f<18446744073709551616→yC 160 #[ylV R D L G gr sz ex fam F,yfV ng ((e:Nat):Int) ((f:Nat):Int)] w1 (yR w1 (.string (WB ng e f)))):
  yC 157 #[ylV R D L G gr sz ex fam F,ydV s (.slice ao xs.length ca) E] w (yR w (.tuple #[.string (WB (cI R D L G gr s (Dg.vl 4294967296 xs) 1 E 3).s (heE R L ld (cI R D L G gr s (Dg.vl 4294967296 xs) 1 E 3)) (cI R D L G gr s (Dg.vl 4294967296 xs) 1 E 3).d),yi 0])):=by
 obtain⟨c1,e1,e2⟩:=bL hd;have hlen:xs.length≠0:=fun h=>h0 (by rw[List.eq_nil_of_length_eq_zero h];rfl)
 have hC:eE xs [1] E R D L G 3=0:=by
  have hq:eA xs [1] E=0:=by
   unfold eA;rw[if_pos c1,if_pos (show chk [1]=0 by decide),if_neg]
   rintro(h|h)
   ·simp at h
   ·unfold eJ at h
    simp at h;omega
  have hw:jg (eA xs [1] E) (bk R D L G)=0:=by unfold jg;rw[if_pos hq];exact hg
  unfold eE;rw[if_pos hw,if_pos (by decide)]
 have hP:df xs [1] E R D L G gr s 3=cI R D L G gr s (Dg.vl 4294967296 xs) 1 E 3:=by
  unfold df;rw[if_pos hC,if_neg hlen];rfl
 obtain⟨hov,hun,hbare⟩:=mC (s:=s) (way:=3) h1 hLG h0 hh;have hsp:=nW h1 hLG h0 (by omega:(1:Nat)≠0) hov hun;have hR:=fun q w1 (b:yB w w1) (hc:w1.cell? ⟨q,0,none⟩=some (.int .u32 1))=>jM s ao ca xs (some ⟨q,0,none⟩) 1 [1] E R D L G gr 3 w1 (hr.l b) (xD hc) sa (fun i=>by
  match i with
  |0=>decide
  |i+1=>simp)
 rw[hC,hP] at hR;obtain⟨t,ht⟩: ∃t,cI R D L G gr s (Dg.vl 4294967296 xs) 1 E 3=t:=⟨_,rfl⟩;rw[ht] at hsp hbare hR⊢;have hd0:t.d≠0:=fun h=>by
  have hz:=congrArg ak.n hbare;have a1:=(fI ⟨t.s,t.d,(ai R:Int)*t.p⟩).2 h;rw[hz] at a1;exact h0 ((fI ⟨s,Dg.vl 4294967296 xs,E⟩).1 a1)
 obtain⟨-,hp1,hp2,hdl,-⟩:=hsp.resolve_left (fun h=>hd0 h.1)
 have hd64:t.d<18446744073709551616:=by
  have:(2:Nat)^ (ai R*D.toNat)≤2^64:=Nat.pow_le_pow_right (by omega) hD;omega
 clear ht hov hun hbare hsp hC hP hh;obtain⟨e,he⟩: ∃e:Nat,t.p-L=(e:Int):=⟨(t.p-L).toNat,by omega⟩;have hel:e<60000:=by omega
 have hew:IntKind.i64.wrap (t.p-L)=(e:Int):=by rw[he];exact IntWalk.i64_in _ ⟨by omega,by omega⟩
 have hzl:(Dg.dg 4294967296 t.d).length≤2:=Dg.dg_len_le 4294967296 t.d 2 (by omega) hd64;have hzp:0< (Dg.dg 4294967296 t.d).length:=List.length_pos_iff.2 (by rw[Ne,Dg.dg_nil_iff 4294967296 t.d (by omega)];exact hd0);have HWd: ∀po pc w1,Rd w1 .u32 (yT po t.d pc) (Dg.dg 4294967296 t.d)→ ∀w2,yB w1 w2→yC 199 #[yT po t.d pc] w2 fun z w'=>z= .returned (.int .u64 (t.d:Int))∧w2=w':=fun po pc w1 h w2 b=>by
  have:=XF _ _ w2 (h.l b) (Dg.small_dg 4294967296 t.d (by omega)) hzl;rw[Dg.vl_dg 4294967296 t.d (by omega)] at this;exact this.mono (fun _ _ h=>⟨h.1,h.2.symm⟩)
 have hen:(t.p-L).toNat=e:=by omega
 unfold heE;rw[hen];have HR2: ∀q w1,yB w w1→w1.cell? ⟨q,0,none⟩=some (.int .u32 1)→yC 44 #[yrV s (.slice ao xs.length ca) (.slice (some ⟨q,0,none⟩) 1 1) E,ygV R D L G gr,yi 3] w1 fun z w'=> ∃po pc,z= .returned (.tuple #[ypV t.s (yT po t.d pc) t.p t.ex t.ov t.un,yi 0])∧Rd w' .u32 (yT po t.d pc) (Dg.dg 4294967296 t.d)∧yB w1 w':=fun q w1 b hc=>(hR q w1 b hc).mono (fun z w' h=>by
  obtain⟨v,rfl,own,b2⟩:=h;obtain⟨po,pc,hv⟩:=own.rd.shape;subst hv;exact⟨po,pc,rfl,own.rd,b2⟩)
 rcases hRc with rfl|rfl
 ·by_cases hb:t.d&&& ld=0
  ·rw[if_neg (fun h=>h.2 hb),Nat.add_zero]
   exact CC _ D L G fam gr sz ex F s ao xs.length ca E w (Dg.dg 4294967296 t.d) _ t.s t.ex t.ov t.un t.p 0 HR2 t.s e t.d (fun po pc w1 _ h=>KG D L G fam gr sz ex F t.s t.ex t.ov t.un po _ pc t.p e t.d w1 hew (by omega) (HWd po pc w1 h) ld 0 (by rw[u64_and_nat t.d ld hd64 hld,hb];rfl) rfl HL) _ (fun w1=>HW t.s e t.d w1 (by omega) hd64) rfl hzp
  ·rw[if_pos ⟨rfl,hb⟩]
   have hF: ∀po pc w1,yB w w1→Rd w1 .u32 (yT po t.d pc) (Dg.dg 4294967296 t.d)→_:=fun po pc w1 _ h=>KF D L G fam gr sz ex F t.s t.ex t.ov t.un po _ pc t.p e t.d w1 hew (by omega) (HWd po pc w1 h) ld ((t.d&&& ld:Nat):Int) (u64_and_nat t.d ld hd64 hld) (by omega) HL
   exact CC _ D L G fam gr sz ex F s ao xs.length ca E w (Dg.dg 4294967296 t.d) _ t.s t.ex t.ov t.un t.p 0 HR2 t.s (e+1) t.d hF _ (fun w1=>HW t.s (e+1) t.d w1 (by omega) hd64) rfl hzp
 ·rw[if_neg (fun h=>by have:=h.1;omega),Nat.add_zero]
  exact CC _ D L G fam gr sz ex F s ao xs.length ca E w (Dg.dg 4294967296 t.d) _ t.s t.ex t.ov t.un t.p 0 HR2 t.s e t.d (fun po pc w1 _ h=>KE D L G fam gr sz ex F t.s t.ex t.ov t.un po _ pc t.p e t.d w1 hew (by omega) (HWd po pc w1 h)) _ (fun w1=>HW t.s e t.d w1 (by omega) hd64) rfl hzp
def gsI:Nat→Int
 |1=>104|2=>971|3=>16320|4=>57|5=>49|6=>103|7=>71|8=>970|_=>0
def plT (k:Nat)(s:Bool)(n:Nat)(E:Int):fz:=cI (rdN k) (dgN k) (lsI k) (gsI k) (decide (k≤3)) s n 1 E 3
theorem xE (k:Nat)(hk:1≤k∧k≤8)(s:Bool)(ao:Option Addr)(ca:Nat)(xs:List Nat)(E:Int)(w:World)(hr:Rd w .u32 (.slice ao xs.length ca) xs)(sa:Dg.Small 4294967296 xs)(hd:aS xs E=0)(h0:Dg.vl 4294967296 xs≠0)
  (hh:dA (rdN k) (dgN k) (lsI k) (gsI k) (decide (k≤3)) (Dg.vl 4294967296 xs) E=true):
  yC 157 #[.agg (tS k).toArray,ydV s (.slice ao xs.length ca) E] w (yR w (.tuple #[.string (cF (kU k (plT k s (Dg.vl 4294967296 xs) E).s (heE (rdN k) (lsI k) (gW k) (plT k s (Dg.vl 4294967296 xs) E)) (plT k s (Dg.vl 4294967296 xs) E).d)),yi 0])):=by
 have HL:=fun w1=>xX k hk w1
 have HW:=fun ng e f w1 (he:e<65536) (hf:f<18446744073709551616)=>Aq k hk ng e f w1 he hf
 have hl:=Re hk;unfold plT
 rcases bO hk with rfl|rfl|rfl|rfl|rfl|rfl|rfl|rfl
 all_goals exact ZC _ _ _ _ _ _ _ _ _ _ s ao ca xs E w (fun ng e f=>cF (kU _ ng e f)) hr sa hd h0 (by decide) (by decide) (by decide) (by decide) (by decide) (by decide) hl hh HL HW
theorem wI {c:Int}{t r:ak}(h:cC c t=(r,0)):r=bare t∧aS (Dg.dg 4294967296 r.n) r.e=0:=by
 unfold cC at h
 by_cases h0:c=0
 ·rw[if_pos h0] at h
  unfold bU at h
  by_cases h1:1200< (Dg.dg 4294967296 (bare t).n).length
  ·rw[if_pos h1] at h
   simp at h
  ·rw[if_neg h1] at h
   by_cases h2:(bare t).e< -20000∨20000< (bare t).e
   ·rw[if_pos h2] at h
    simp at h
   ·rw[if_neg h2] at h
    simp only[Prod.mk.injEq,and_true] at h;subst h;have hn:=Dg.norm_dg 4294967296 (bare t).n (by omega);refine⟨rfl, ?_⟩;unfold aS;rw[if_pos (pJ hn (by omega)),if_neg h2]
 ·rw[if_neg h0] at h
  simp only[Prod.mk.injEq] at h;exact absurd h.2 h0
def enN (k:Nat)(ng:Bool)(xs:List Nat)(p:Int):ak×Int:=
 cC (ix xs p (rdN k) (dgN k) (lsI k) (gsI k)) ⟨ng,Dg.vl 4294967296 xs,(ai (rdN k):Int)*p⟩
def enH (k:Nat)(t:ak):Bool:=um (Dg.dg 4294967296 t.n) t.e (rdN k) (dgN k) (lsI k) (gsI k) (decide (k≤3))
def enE (k:Nat)(ng:Bool)(xs:List Nat)(p:Int):Int:=
 if p< -20000∨20000<p then 3 else if xs.length=0 then 4 else if(enN k ng xs p).2=0∧enH k (enN k ng xs p).1=true then 0 else 4
def enS (k:Nat)(ng:Bool)(xs:List Nat)(p:Int):ByteArray:=
 if enE k ng xs p=0 then cF (kU k (plT k (enN k ng xs p).1.s (enN k ng xs p).1.n (enN k ng xs p).1.e).s (heE (rdN k) (lsI k) (gW k) (plT k (enN k ng xs p).1.s (enN k ng xs p).1.n (enN k ng xs p).1.e)) (plT k (enN k ng xs p).1.s (enN k ng xs p).1.n (enN k ng xs p).1.e).d) else⟨#[]⟩
theorem B5 (k:Nat)(hk:1≤k∧k≤8)(ng:Bool)(ao:Option Addr)(ca:Nat)(xs:List Nat)(p:Int)(w:World)(hr:Rd w .u32 (.slice ao xs.length ca) xs)(sa:Dg.Small 4294967296 xs)(hc:chk xs=0)(hT:Tab w):
  yC 133 #[.agg (tS k).toArray,yvV 2 ng (.slice ao xs.length ca) p] w (yR w (.tuple #[.string (enS k ng xs p),yi (enE k ng xs p)])):=by
 have key: ∀er,enE k ng xs p=er→enS k ng xs p=if er=0 then cF (kU k (plT k (enN k ng xs p).1.s (enN k ng xs p).1.n (enN k ng xs p).1.e).s (heE (rdN k) (lsI k) (gW k) (plT k (enN k ng xs p).1.s (enN k ng xs p).1.n (enN k ng xs p).1.e)) (plT k (enN k ng xs p).1.s (enN k ng xs p).1.n (enN k ng xs p).1.e).d) else⟨#[]⟩:=fun er h=>by unfold enS;rw[h]
 by_cases hp:p< -20000∨20000<p
 ·have hE:enE k ng xs p=3:=if_pos hp
  rw[key 3 hE,hE,if_neg (by omega)]
  rcases hp with hp|hp
  ·rcases bO hk with rfl|rfl|rfl|rfl|rfl|rfl|rfl|rfl
   all_goals exact Q7 _ _ _ _ _ _ _ _ _ 2 p ng ao xs.length ca w hp
  ·rcases bO hk with rfl|rfl|rfl|rfl|rfl|rfl|rfl|rfl
   all_goals exact NN _ _ _ _ _ _ _ _ _ 2 p ng ao xs.length ca w hp
 ·have hp1: -20000≤p:=by omega
  have hp2:p≤20000:=by omega
  by_cases hl:xs.length=0
  ·have hE:enE k ng xs p=4:=by unfold enE;rw[if_neg hp,if_pos hl]
   rw[key 4 hE,hE,if_neg (by omega)]
   rcases bO hk with rfl|rfl|rfl|rfl|rfl|rfl|rfl|rfl
   all_goals exact KO _ _ _ _ _ _ _ _ _ 2 p ng ao xs.length ca w hp1 hp2 hl
  ·have hnx:Dg.vl 4294967296 xs≠0:=fun h=>by
    obtain⟨n1,-⟩:=aF hc;exact Dg.vl_ne_zero 4294967296 (by omega) xs (by intro e;subst e;simp at hl) n1 h
   have HN1:=fun w1 (b:yB w w1)=>kB (rdN k) (dgN k) (lsI k) (gsI k) (decide (k≤3)) ng ao ca xs p false false false w1 (hr.l b) sa (hT.l b)
   have hen:cC (ix xs p (rdN k) (dgN k) (lsI k) (gsI k)) ⟨ng,Dg.vl 4294967296 xs,(ai (rdN k):Int)*p⟩=enN k ng xs p:=rfl;rw[hen] at HN1;have hE:enE k ng xs p=if(enN k ng xs p).2=0∧enH k (enN k ng xs p).1=true then 0 else 4:=by unfold enE;rw[if_neg hp,if_neg hl]
   have hfact:(enN k ng xs p).2=0→(enN k ng xs p).1.n≠0∧aS (Dg.dg 4294967296 (enN k ng xs p).1.n) (enN k ng xs p).1.e=0:=fun h=>by
    have h2:=wI (show cC (ix xs p (rdN k) (dgN k) (lsI k) (gsI k)) ⟨ng,Dg.vl 4294967296 xs,(ai (rdN k):Int)*p⟩=((enN k ng xs p).1,0) from by rw[hen];exact Prod.ext rfl h)
    obtain⟨h3,h4⟩:=h2;refine⟨fun h5=> ?_,h4⟩
    rw[h3] at h5;exact hnx ((fI ⟨ng,Dg.vl 4294967296 xs,(ai (rdN k):Int)*p⟩).1 h5)
   clear hen;generalize enN k ng xs p=r at*;obtain⟨t,er⟩:=r;simp only at hE hfact key HN1⊢;have HN: ∀w1,yB w w1→yC 155 #[.agg (tS k).toArray,yvV 2 ng (.slice ao xs.length ca) p] w1 (gR w1 (t,er)):=fun w1 b=>by
    rcases bO hk with rfl|rfl|rfl|rfl|rfl|rfl|rfl|rfl
    all_goals exact Je _ _ _ _ _ _ _ _ _ 2 p ng ao xs.length ca (t,er) w1 (fun w2 b2=>HN1 w2 (aa b b2))
   by_cases her:er=0
   ·obtain⟨hn0,hdc⟩:=hfact her
    have sm:=Dg.small_dg 4294967296 t.n (by omega);have HH:=fun so sc w1 (b:yB w w1) (h:Rd w1 .u32 (yT so t.n sc) (Dg.dg 4294967296 t.n))=>qR (rdN k) (dgN k) (lsI k) (gsI k) (decide (k≤3)) t.s so sc (Dg.dg 4294967296 t.n) t.e w1 h sm (hT.l b)
    have hgr:bk (rdN k) (dgN k) (lsI k) (gsI k)=0:=by
     rcases bO hk with rfl|rfl|rfl|rfl|rfl|rfl|rfl|rfl<;>decide
    have hon:onC (aS (Dg.dg 4294967296 t.n) t.e) (bk (rdN k) (dgN k) (lsI k) (gsI k))=0:=by unfold onC;rw[if_pos hdc];exact hgr
    rw[hon] at HH
    by_cases hq:enH k t=true
    ·rw[if_pos ⟨her,hq⟩] at hE
     rw[key 0 hE,hE,if_pos rfl];have hq':um (Dg.dg 4294967296 t.n) t.e (rdN k) (dgN k) (lsI k) (gsI k) (decide (k≤3))=true:=hq;have hheld:dA (rdN k) (dgN k) (lsI k) (gsI k) (decide (k≤3)) (Dg.vl 4294967296 (Dg.dg 4294967296 t.n)) t.e=true:=by
      have h:=hq';unfold um at h;rw[if_pos hon] at h;exact h
     have HE:=fun so sc w1 (_b:yB w w1) (h:Rd w1 .u32 (yT so t.n sc) (Dg.dg 4294967296 t.n))=>xE k hk t.s so sc (Dg.dg 4294967296 t.n) t.e w1 h sm hdc (by rw[Dg.vl_dg 4294967296 t.n (by omega)];exact hn0) hheld
     rw[Dg.vl_dg 4294967296 t.n (by omega)] at HE;rw[hq'] at HH;generalize cF (kU k (plT k t.s t.n t.e).s (heE (rdN k) (lsI k) (gW k) (plT k t.s t.n t.e)) (plT k t.s t.n t.e).d)=st at*
     rcases bO hk with rfl|rfl|rfl|rfl|rfl|rfl|rfl|rfl
     all_goals exact NP _ _ _ _ _ _ _ _ _ 2 p ng ao xs.length ca w t er HN true 0 HH st 0 HE hp1 hp2 (by omega) her rfl rfl
    ·have hqf:um (Dg.dg 4294967296 t.n) t.e (rdN k) (dgN k) (lsI k) (gsI k) (decide (k≤3))=false:=by
      have:enH k t=false:=by simpa using hq
      exact this
     rw[if_neg (fun h=>hq h.2)] at hE
     rw[key 4 hE,hE,if_neg (by omega)];rw[hqf] at HH
     rcases bO hk with rfl|rfl|rfl|rfl|rfl|rfl|rfl|rfl
     all_goals exact NO _ _ _ _ _ _ _ _ _ 2 p ng ao xs.length ca w t er HN false 0 HH hp1 hp2 (by omega) her rfl rfl
   ·rw[if_neg (fun h=>her h.1)] at hE
    rw[key 4 hE,hE,if_neg (by omega)]
    rcases bO hk with rfl|rfl|rfl|rfl|rfl|rfl|rfl|rfl
    all_goals exact Q8 _ _ _ _ _ _ _ _ _ 2 p ng ao xs.length ca w t er HN hp1 hp2 (by omega) her
theorem aaj (a many i:Nat)(h:i<many):(bnL a many).getD i false=decide (a/2^ (many-1-i) % 2=1):=by
 simp[bnL,List.getD_eq_getElem?_getD,h]
theorem acq (ex fr e f:Nat)(ng:Bool)(i:Nat)(h:i<1+ex+fr):((ng::bnL e ex)++bnL f fr).getD i false=Eb ex fr ng e f i:=by
 unfold Eb
 by_cases h0:i=0
 ·subst h0
  rfl
 ·rw[if_neg h0]
  obtain⟨j,rfl⟩: ∃j,i=j+1:=⟨i-1,by omega⟩;rw[List.cons_append,List.getD_cons_succ]
  by_cases hx:j+1≤ex
  ·rw[if_pos hx,List.getD_eq_getElem?_getD,List.getElem?_append_left (by rw[wk];omega),←List.getD_eq_getElem?_getD,aaj _ _ _ (by omega),show ex-1-j=ex-(j+1) from by omega]
  ·rw[if_neg hx,List.getD_eq_getElem?_getD,List.getElem?_append_right (by rw[wk];omega),←List.getD_eq_getElem?_getD,wk,aaj _ _ _ (by omega),show fr-1-(j-ex)=ex+fr-(j+1) from by omega]
theorem aak {f p j:Nat}(h:2^p≤f)(hj:j<p):(f-2^p)/2^j % 2=f/2^j % 2:=by
 obtain⟨r,rfl⟩: ∃r,f=r+2^p:=⟨f-2^p,by omega⟩;obtain⟨q,rfl⟩: ∃q,p=j+1+q:=⟨p-j-1,by omega⟩;rw[Nat.add_sub_cancel,show 2^ (j+1+q)=2^j*(2*2^q) from by rw[Nat.pow_add,Nat.pow_succ,Nat.mul_assoc],Nat.add_mul_div_left _ _ (Nat.pow_pos (by omega)),Nat.add_mul_mod_self_left]
theorem Wg {k:Nat}(hk:1≤k∧k≤8)(ng:Bool)(e f:Nat)(h:2^frN k≤f):kU k ng e (f-2^frN k)=kU k ng e f:=by
 obtain⟨h1,h2,h3,h4,-,h7⟩:=fZ hk;rw[xP hk,xP hk]
 congr 1
 refine Ic _ (fun i hi=> ?_)
 unfold Eb
 by_cases h0:i=0
 ·rw[if_pos h0,if_pos h0]
 ·rw[if_neg h0,if_neg h0]
  by_cases hx:i≤exN k
  ·rw[if_pos hx,if_pos hx]
  ·rw[if_neg hx,if_neg hx,aak h (by omega)]
theorem Jv (n:Nat)(x:Int):eZ n x/dX 1 x=shN n x:=by
 unfold eZ dX shN
 by_cases h:x<0
 ·rw[if_pos h,if_pos h,if_pos h,Nat.one_mul]
 ·rw[if_neg h,if_neg h,if_neg h,Nat.div_one]
theorem oj {R D L G:Int}{gr s:Bool}{n:Nat}{e way:Int}(h1:1≤D)(hLG:L≤G)(h0:n≠0)(hh:dA R D L G gr n e=true):
  (cI R D L G gr s n 1 e way).s=s∧(cI R D L G gr s n 1 e way).d=shN n (e-(ai R:Int)*cP R D L gr n e)∧(cI R D L G gr s n 1 e way).p=cP R D L gr n e∧shN n (e-(ai R:Int)*cP R D L gr n e)≠0:=by
 have hM:(1:Nat)≠0:=by omega
 have hb:=(mC (s:=s) (way:=way) h1 hLG h0 hh).2.2;have hs:L≤cP R D L gr n e∧cP R D L gr n e≤G∧(ai R:Int)*cP R D L gr n e≤e+(tz n:Int):=by
  unfold dA at hh
  rcases of_decide_eq_true hh with h|h
  ·exact absurd h h0
  ·exact h
 have hc:dj R D L gr n 1 e=cP R D L gr n e:=by
  unfold dj cP;rw[lU h0]
 obtain⟨p1,-⟩:=nV s n e ((ai R:Int)*cP R D L gr n e) hs.2.2;have hl:gF R D L gr n 1 e=0:=by
  unfold gF shP;rw[hc];exact p1
 have hd:fM R D L gr s n 1 e way=cH R D L gr n 1 e:=by
  unfold fM;rw[if_neg];rintro⟨c,-⟩;exact of_decide_eq_false c hl
 obtain⟨c1,c2⟩:=uh R D L gr n 1 e h1 h0 hM (dj R D L gr n 1 e);have hw:cH R D L gr n 1 e=shN n (e-(ai R:Int)*cP R D L gr n e):=by
  unfold cH shP;rw[hc,Jv]
 have hdn:(cI R D L G gr s n 1 e way).d≠0:=fun hz=>by
  have h2:(bare ⟨(cI R D L G gr s n 1 e way).s,(cI R D L G gr s n 1 e way).d,(ai R:Int)*(cI R D L G gr s n 1 e way).p⟩).n=0:=(fI _).2 hz;rw[hb] at h2;exact h0 ((fI _).1 h2)
 rw[kJ gr s n 1 e way h1 hLG h0 hM,hd,c1,c2,hc] at hdn⊢;simp only at hdn⊢;rw[if_neg hdn];rw[hw] at hdn⊢;exact⟨trivial,rfl,rfl,hdn⟩
theorem RW {R D L G:Int}{gr:Bool}{n:Nat}{e:Int}(h0:n≠0)(hh:dA R D L G gr n e=true):cP R D L gr n e=max L (aT R D (e+(bitLen n:Int)-1)):=by
 have hs:L≤cP R D L gr n e:=by
  unfold dA at hh
  rcases of_decide_eq_true hh with h|h
  ·exact absurd h h0
  ·exact h.1
 have he:(bitLen n:Int)-1+e=e+(bitLen n:Int)-1:=by omega
 unfold cP at hs⊢;rw[he] at hs⊢
 by_cases hc:(decide (aT R D (e+(bitLen n:Int)-1)<L)&&gr)=true
 ·rw[if_pos hc]
  have:=of_decide_eq_true (Bool.and_eq_true_iff.1 hc).1;rw[Int.max_eq_left (by omega)]
 ·rw[if_neg hc] at hs⊢
  rw[Int.max_eq_right hs]
def wdI (R:Int):Int:=if R=16 then 4 else 1
theorem eG (R D L G:Int)(gr:Bool)(w:World):
  yC 68 #[ygV R D L G gr] w (yR w (yi (wdI R))):=by
 have bA:=af w (.cells (ygA R D L G gr) 48);unfold wdI
 by_cases h:R=16
 ·rw[if_pos h]
  subst h
  go_enter func68,ntmps68
  go_wp2
  go_ret
  exact⟨rfl,bA⟩
 ·rw[if_neg h]
  have e:(R==16)=false:=by simp;exact h
  go_enter func68,ntmps68
  go_wp2
  go_ret
  exact⟨rfl,bA⟩
structure TG (w:World) (bn bf:Nat) (ng:Bool) (fv:List Value) (v:Value) (m:Nat) (w':World):Prop where
 q:au w' w.heap.size 32 (yoL 0 false false yN 0)
 f:au w' bf 50 fv
 n:w'.cell? ⟨bn,0,none⟩=some (.bool ng)
 b:yB w w'
 r:Rd w' .i64 v (Dg.dg 65536 m)
theorem TG.l {w w1 w2:World}{bn bf:Nat}{ng:Bool}{fv:List Value}{v:Value}{m:Nat}(h:TG w bn bf ng fv v m w1)(b:yB w1 w2):TG w bn bf ng fv v m w2:=
 ⟨h.q.l b,h.f.l b,cell_later b h.n,aa h.b b,h.r.l b⟩
theorem sN (v:Value)(t:ak)(w:World)(hv:Rv w v t)(hL:(Dg.dg 65536 t.n).length≤100000)(h1: -1000000≤t.e)(h2:t.e≤1000000):
  yC 75 #[v] w (cG w (shN t.n t.e)):=by
 obtain⟨s0,rfl,hr⟩:=hv;have HU:Hid (¬t.e<0→ ∀w1,yB w w1→yC 112 #[s0,yi t.e] w1 (cG w1 (shN t.n t.e))):=fun h w1 b=>by
  unfold shN;rw[if_neg h];obtain⟨m,hm⟩: ∃m:Nat,t.e=(m:Int):=⟨t.e.toNat,by omega⟩;rw[hm,Int.toNat_natCast];have:=kD s0 _ m w1 (hr.l b) (Dg.small_dg _ _ (by omega)) (by omega) (by omega)
  rwa [Dg.vl_dg _ _ (by omega)] at this
 have HD:Hid (t.e<0→ ∀w1,yB w w1→yC 111 #[s0,yi (-t.e)] w1 (cG w1 (shN t.n t.e))):=fun h w1 b=>by
  unfold shN;rw[if_pos h];obtain⟨m,hm⟩: ∃m:Nat,-t.e=(m:Int):=⟨(-t.e).toNat,by omega⟩;rw[hm,Int.toNat_natCast];have:=Ft s0 _ m (m/16) (m % 16) (2^ (m % 16)) (2^ (16-m % 16)) w1 (hr.l b) (Dg.small_dg _ _ (by omega)) (by omega) (by omega) (by omega) (by omega) rfl rfl
  rwa [Dg.vl_dg _ _ (by omega)] at this
 obtain⟨ao,ca,rfl⟩:=hr.shape;obtain⟨ts,n,e⟩:=t;simp only at HU HD h1 h2⊢;obtain⟨R,hR⟩: ∃R,shN n e=R:=⟨_,rfl⟩;rw[hR] at HU HD⊢;obtain⟨m,hm⟩: ∃m,(Dg.dg 65536 n).length=m:=⟨_,rfl⟩;rw[hm] at HU HD⊢;have bA:=af w (.cells (ydA ts (.slice ao m ca) e) 30);clear hr hL hR hm
 by_cases h:e<0
 ·have h3: ¬0≤e:=by omega
  go_enter func75,ntmps75
  go_wp2_with fail
  refine(HD.out h _ bA).mono ?_;rintro z w1 ⟨v1,rfl,r1,b1⟩;have b01:=aa bA b1
  go_wp2
  go_ret
  exact⟨_,rfl,r1,b01⟩
 ·have h3:0≤e:=by omega
  go_enter func75,ntmps75
  go_wp2_with fail
  refine(HU.out h _ bA).mono ?_;rintro z w1 ⟨v1,rfl,r1,b1⟩;have b01:=aa bA b1
  go_wp2
  go_ret
  exact⟨_,rfl,r1,b01⟩
theorem sU (k:Nat)(hk:1≤k∧k≤8)(w:World):yC 18 #[yi k] w (yR w (.tuple #[yhV (szN k) (exN k) (frN k:Int) (rdN k) (dgN k) (lsI k) (gsI k) (decide (k≤3)) (fmN k:Int),.bool true])):=by
 have h:=qU k hk w
 rcases bO hk with rfl|rfl|rfl|rfl|rfl|rfl|rfl|rfl
 all_goals exact h
theorem zr (R:Int):wdI R=(ai R:Int):=by
 unfold wdI ai
 split<;>rfl
theorem vJ (m:Nat)(hm:m≤200)(w:World):yC 65 #[yi m] w (cG w (2^m)):=
 pf m (m/16) (m % 16) w (by omega) (Nat.mod_lt _ (by omega)) (by omega)
theorem eR {k:Nat}(hk:1≤k∧k≤8):1≤exN k∧1≤frN k∧1≤dgN k∧dgN k≤64∧ -16445≤lsI k∧lsI k≤0∧lsI k≤gsI k∧gsI k≤16320∧ai (rdN k)*dgN k≤64∧ai (rdN k)≤4∧1≤ai (rdN k)∧bk (rdN k) (dgN k) (lsI k) (gsI k)=0:=by
 rcases bO hk with rfl|rfl|rfl|rfl|rfl|rfl|rfl|rfl<;>exact⟨by decide,by decide,by decide,by decide,by decide,by decide,by decide,by decide,by decide,by decide,by decide,by decide⟩
def rfK (k:Nat)(n:Nat)(e:Int):Int:=max (lsI k) (aT (rdN k) (dgN k) (e+(bitLen n:Int)-1))
theorem vK (v:Value)(a:Nat)(w:World)(h:Rd w .i64 v (Dg.dg 65536 a))(hl:(Dg.dg 65536 a).length≤2000000):yC 74 #[v] w (yR w (yi (bitLen a:Int))):=by
 have:=kF _ _ w h (Dg.small_dg _ _ (by omega)) (Dg.norm_dg _ _ (by omega)) (by omega);rw[Dg.vl_dg _ _ (by omega)] at this;refine this.mono ?_;rintro z w' ⟨rfl,rfl⟩;exact⟨rfl,Below.refl _ _⟩
theorem IZ {a b:Nat}(h:a≤b):(Dg.dg 65536 a).length≤(Dg.dg 65536 b).length:=by
 refine Dg.dg_len_le 65536 a _ (by omega) (Nat.lt_of_le_of_lt h ?_);have:=Dg.vl_lt 65536 (Dg.dg 65536 b) (Dg.small_dg 65536 b (by omega))
 rwa [Dg.vl_dg 65536 b (by omega)] at this
theorem Sx {d j:Nat}(h:bitLen d=j+1):2^j≤d:=by
 rcases Nat.lt_or_ge d (2^j) with c|c
 ·have:=bF d j c
  omega
 ·exact c
theorem mV (k:Nat)(hk:1≤k∧k≤8)(c:Int)(g ts:Bool)(so:Option Addr)(tn sc:Nat)(te:Int)(E F:Nat)(ng:Bool)(K:Int)(d:Nat)(w:World)(hE:E<65536)(hF:F<340282366920938463463374607431768211456)(hd:d<340282366920938463463374607431768211456)
  (HN:c=2→Rd w .i64 (yS so tn sc) (Dg.dg 65536 tn)∧(Dg.dg 65536 tn).length≤20000∧ -79000≤te∧te≤200000∧K=rfK k tn te∧d=shN tn (te-(ai (rdN k):Int)*K)∧K-lsI k<65536)
  (HC:(c=1∧E=0∧F=0∧ng=g)∨(c=5∧E=0∧F=0∧ng=true)∨(c=3∧(k:Int)=3∧E+1=2^exN k∧F=2^63∧ng=g)∨(c=3∧(k:Int)≠3∧E+1=2^exN k∧F=0∧ng=g)∨(c=4∧(k:Int)=3∧E+1=2^exN k∧F=2^63+2^62∧ng=g)∨(c=4∧(k:Int)≠3∧E+1=2^exN k∧F=2^ (frN k-1)∧ng=g)∨(c=2∧ng=g∧(((fmN k:Int)=2∧E=(K-lsI k).toNat∧F=d)∨((fmN k:Int)≠2∧(bitLen d:Int)≠(dgN k:Int)∧E=(K-lsI k).toNat∧F=d)∨((fmN k:Int)≠2∧(bitLen d:Int)=(dgN k:Int)∧(k:Int)=3∧E=(K-lsI k).toNat+1∧F=d)∨((fmN k:Int)≠2∧(bitLen d:Int)=(dgN k:Int)∧(k:Int)≠3∧E=(K-lsI k).toNat+1∧F=d-2^ (dgN k-1))))):
  yC 37 #[yi k,yoV c g ts (yS so tn sc) te] w (yR w (.string (cF (kU k ng E F)))):=by
 obtain⟨s1,s2,s3,s4,-,s7⟩:=fZ hk;obtain⟨f1,f2,f3,f4,f5,f6,f7,f8,f9,f10,f11,-⟩:=eR hk;have hdl:=Dg.dg_len_le 65536 d 8 (by omega) hd;have hw0: ¬((ai (rdN k):Nat):Int)=0:=by omega
 refine Rx k (szN k) (exN k) (frN k) (8*szN k) (rdN k) (dgN k) (lsI k) (gsI k) (fmN k:Int) (ai (rdN k):Int) (decide (k≤3)) c g ts so tn sc te E F ng (cF (kU k ng E F)) (2^63) (2^62) (2^63+2^62) (2^ (frN k-1)) (2^ (dgN k-1)) (bitLen tn:Int) K (aT (rdN k) (dgN k) (te+(bitLen tn:Int)-1)) ((te+(bitLen tn:Int)-1+80000).tdiv (ai (rdN k):Int)) ((80000:Int).tdiv (ai (rdN k):Int)) (bitLen d:Int) d (K-lsI k).toNat w
  s2 f1 s4 f2 s1 hE (by omega) (by omega) (by simpa using hw0) hw0 ?_ (fun w1=>sU k hk w1) ?_ (fun w1=>vJ 63 (by omega) w1) (fun w1=>vJ 62 (by omega) w1) ?_ ?_ ?_ ?_ ?_ (fun v w1 h=>vK v d w1 h (by omega)) ?_ (fun w1=>Bj E w1 hE) (fun v w1 h=>Do v E (exN k) w1 h (by omega) (by omega) f1) (fun v w1 h=>Do v F (frN k) w1 h hF (by omega) f2) ?_ HC
 ·intro h2
  obtain⟨hr,hl,e1,e2,hK,-,hKL⟩:=HN h2;have hbl:bitLen tn≤16*20000:=BE hl;have hsk:=Gh (rdN k) (dgN k) te (bitLen tn) (by omega);have q1:=Int.natAbs_tdiv_le_natAbs (te+(bitLen tn:Int)-1+80000) (ai (rdN k):Int);have q2:=Int.natAbs_tdiv_le_natAbs (80000:Int) (ai (rdN k):Int);have hKK:K=max (lsI k) (aT (rdN k) (dgN k) (te+(bitLen tn:Int)-1)):=hK;have hK1:lsI k≤K:=by rw[hKK];exact Int.le_max_left _ _
  have hwK: -100000≤(ai (rdN k):Int)*K∧(ai (rdN k):Int)*K≤500000:=by
   rcases(show ai (rdN k)=1∨ai (rdN k)=4 from by unfold ai;split<;>omega) with h|h<;>rw[h]<;>omega
  refine⟨IntWalk.i64_in _ ⟨by omega,by omega⟩,IntWalk.i64_in _ ⟨by omega,by omega⟩,IntWalk.i64_in _ ⟨by omega,by omega⟩,rfl,rfl,IntWalk.i64_in _ ⟨by omega,by omega⟩,IntWalk.i64_in _ ⟨by omega,by omega⟩,IntWalk.i64_in _ ⟨by omega,by omega⟩,IntWalk.i64_in _ ⟨by omega,by omega⟩, ?_,hKK.symm,IntWalk.i64_in _ ⟨by omega,by omega⟩,IntWalk.i64_in _ ⟨by omega,by omega⟩, ?_,by omega⟩
  ·rw[hsk]
   exact IntWalk.i64_in _ ⟨by omega,by omega⟩
  ·rw[Int.toNat_of_nonneg (by omega)]
   exact IntWalk.i64_in _ ⟨by omega,by omega⟩
 ·intro w1
  have:=eG (rdN k) (dgN k) (lsI k) (gsI k) (decide (k≤3)) w1
  rwa [zr] at this
 ·intro v u w1 h1 h2
  have:=ew v u _ _ w1 h1 h2 (Dg.small_dg _ _ (by omega)) (Dg.small_dg _ _ (by omega)) (Dg.norm_dg _ _ (by omega)) (Dg.norm_dg _ _ (by omega)) (Nat.le_trans (Dg.dg_len_le 65536 (2^63) 8 (by omega) (by decide)) (by omega)) (Nat.le_trans (Dg.dg_len_le 65536 (2^62) 8 (by omega) (by decide)) (by omega))
  rwa [Dg.vl_dg _ _ (by omega),Dg.vl_dg _ _ (by omega)] at this
 ·intro w1
  rw[show(frN k:Int)-1=((frN k-1:Nat):Int) from by omega]
  exact vJ (frN k-1) (by omega) w1
 ·intro w1
  rw[show(dgN k)-1=((dgN k-1:Nat):Int) from by omega]
  exact vJ (dgN k-1) (by omega) w1
 ·intro h2 w1 b1
  obtain⟨hr,hl,-⟩:=HN h2;exact vK _ tn w1 (hr.l b1) (by omega)
 ·intro h2 w1 b1
  obtain⟨hr,hl,e1,e2,hK,hdd,hKL⟩:=HN h2;have hK1:lsI k≤K:=by rw[hK];exact Int.le_max_left _ _
  have hwK: -100000≤(ai (rdN k):Int)*K∧(ai (rdN k):Int)*K≤500000:=by
   rcases(show ai (rdN k)=1∨ai (rdN k)=4 from by unfold ai;split<;>omega) with h|h<;>rw[h]<;>omega
  have:=sN _ ⟨false,tn,te-(ai (rdN k):Int)*K⟩ w1 ⟨_,rfl,hr.l b1⟩ (by show(Dg.dg 65536 tn).length≤100000;omega) (by show-1000000≤te-(ai (rdN k):Int)*K;omega) (by show te-(ai (rdN k):Int)*K≤1000000;omega)
  rw[hdd];exact this
 ·intro hlen v u w1 h1 h2
  have hle:2^ (dgN k-1)≤d:=Sx (by omega);have:=kI v u _ _ w1 h1 h2 (Dg.small_dg _ _ (by omega)) (Dg.small_dg _ _ (by omega)) (by omega) (IZ hle) (by rw[Dg.vl_dg _ _ (by omega),Dg.vl_dg _ _ (by omega)];exact hle)
  rwa [Dg.vl_dg _ _ (by omega),Dg.vl_dg _ _ (by omega)] at this
 ·intro gg cap w1 hcell
  have:=G8 k hk gg 0 cap (Eb (exN k) (frN k) ng E F) w1 (fun i hi=>by
   rw[Nat.zero_add,hcell i hi,acq _ _ _ _ _ _ (by omega)])
  rwa [←xP hk] at this
theorem Bt (k m:Nat)(hk:1≤k∧k≤8)(hm:m=1∨m=3∨m=4∨m=5)(hs:iR k m=true)(g ts:Bool)(so:Option Addr)(tn sc:Nat)(te:Int)(w:World):
  yC 37 #[yi k,yoV m g ts (yS so tn sc) te] w (yR w (.string (cF (kU k (pI k m||g) (pg k m) (lS k m))))):=by
 refine mV k hk m g ts so tn sc te (pg k m) (lS k m) (pI k m||g) 0 0 w (Fw m hk) (Nat.lt_trans (Fx m hk) (by decide)) (by decide) (fun h=>by omega) ?_
 rcases hm with rfl|rfl|rfl|rfl
 ·exact .inl ⟨rfl,if_neg (fun h=>by omega),by unfold lS;simp,rfl⟩
 ·refine .inr (.inr ?_)
  have h3:k≤3:=by simpa[iR] using hs
  rcases(show k=1∨k=2∨k=3 from by omega) with rfl|rfl|rfl
  ·exact .inr (.inl ⟨rfl,by decide,by decide,by decide,rfl⟩)
  ·exact .inr (.inl ⟨rfl,by decide,by decide,by decide,rfl⟩)
  ·exact .inl ⟨rfl,by decide,by decide,by decide,rfl⟩
 ·refine .inr (.inr (.inr (.inr ?_)))
  have h3:k≤3:=by simpa[iR] using hs
  rcases(show k=1∨k=2∨k=3 from by omega) with rfl|rfl|rfl
  ·exact .inr (.inl ⟨rfl,by decide,by decide,by decide,rfl⟩)
  ·exact .inr (.inl ⟨rfl,by decide,by decide,by decide,rfl⟩)
  ·exact .inl ⟨rfl,by decide,by decide,by decide,rfl⟩
 ·have h6:6≤k:=by simpa[iR] using hs
  refine .inr (.inl ⟨rfl,if_neg (fun h=>by omega), ?_, ?_⟩)
  ·unfold lS
   rw[if_neg (by omega)]
  ·simp[pI,h6]
theorem Ni {d j:Nat}(h:d<2^ (j+1)):d&&& 2^j≠0↔bitLen d=j+1:=by
 have hb:=bF d (j+1) h;rw[SK];have hp:0<2^j:=Nat.pow_pos (by omega)
 by_cases hc:2^j≤d
 ·have h1:bitLen d=j+1:=by
   have:=(pP d j).1;have h2: ¬bitLen d<j+1:=fun c=>this c hc
   omega
  have ht:d.testBit j=true:=by
   rw[Nat.testBit_eq_decide_div_mod_eq];have:d/2^j=1:=by
    rw[Nat.pow_succ] at h;have h3:1≤d/2^j:=(Nat.le_div_iff_mul_le hp).2 (by omega);have h4:d/2^j<2:=(Nat.div_lt_iff_lt_mul hp).2 (by omega);omega
   rw[this];rfl
  rw[if_pos ht];exact⟨fun _=>h1,fun _=>by omega⟩
 ·have h1:bitLen d<j+1:=(pP d j).2 hc
  have ht:d.testBit j=false:=by
   rw[Nat.testBit_eq_decide_div_mod_eq,Nat.div_eq_of_lt (by omega)];rfl
  rw[if_neg (by rw[ht];simp)];exact⟨fun c=>absurd rfl c,fun c=>by omega⟩
theorem Bu (k:Nat)(hk:1≤k∧k≤8)(g s ts:Bool)(so:Option Addr)(tn sc:Nat)(te:Int)(w:World)(hr:Rd w .i64 (yS so tn sc) (Dg.dg 65536 tn))(hl:(Dg.dg 65536 tn).length≤20000)(e1: -79000≤te)(e2:te≤200000)(h0:tn≠0)
  (hh:dA (rdN k) (dgN k) (lsI k) (gsI k) (decide (k≤3)) tn te=true):
  yC 37 #[yi k,yoV 2 g ts (yS so tn sc) te] w (yR w (.string (cF (kU k g (heE (rdN k) (lsI k) (gW k) (plT k s tn te)) (plT k s tn te).d)))):=by
 obtain⟨f1,f2,f3,f4,f5,f6,f7,f8,f9,f10,f11,hgc⟩:=eR hk;obtain⟨-,hpd,hpp,hne⟩:=oj (s:=s) (way:=3) (by omega) f7 h0 hh;have hK:cP (rdN k) (dgN k) (lsI k) (decide (k≤3)) tn te=rfK k tn te:=RW h0 hh;obtain⟨ho,hu,-⟩:=mC (s:=s) (way:=3) (by omega) f7 h0 hh;have hsp:=(nW (by omega) f7 h0 (by omega) ho hu).resolve_left (fun c=>hne (by rw[←hpd];exact c.1))
 have hp:(plT k s tn te).p=rfK k tn te:=by rw[←hK];exact hpp
 have hdd:(plT k s tn te).d=shN tn (te-(ai (rdN k):Int)*rfK k tn te):=by rw[←hK];exact hpd
 obtain⟨-,hp1,hp2,hdlt,-⟩:=hsp;change lsI k≤(plT k s tn te).p at hp1;change(plT k s tn te).p≤gsI k at hp2;change(plT k s tn te).d<_ at hdlt;rw[hp] at hp1 hp2;have hd64:(plT k s tn te).d<2^64:=Nat.lt_of_lt_of_le hdlt (Nat.pow_le_pow_right (by omega) (by rw[Int.toNat_natCast];exact f9));unfold heE;rw[hp];generalize plT k s tn te=pt at*;generalize hKK:rfK k tn te=K at*;have HN:(2:Int)=2→Rd w .i64 (yS so tn sc) (Dg.dg 65536 tn)∧(Dg.dg 65536 tn).length≤20000∧ -79000≤te∧te≤200000∧K=rfK k tn te∧pt.d=shN tn (te-(ai (rdN k):Int)*K)∧K-lsI k<65536:=fun _=>⟨hr,hl,e1,e2,hKK.symm,hdd,by omega⟩
 have hdb:pt.d<340282366920938463463374607431768211456:=Nat.lt_trans hd64 (by decide)
 by_cases hR:(rdN k:Int)=2
 ·have hfm:(fmN k:Int)≠2:=by
   rcases bO hk with rfl|rfl|rfl|rfl|rfl|rfl|rfl|rfl<;>revert hR<;>decide
  have hw1:ai (rdN k)=1:=by rw[hR];rfl
  rw[hw1,Nat.one_mul,Int.toNat_natCast] at hdlt;have hdj:dgN k-1+1=dgN k:=by omega
  have hal:=Ni (d:=pt.d) (j:=dgN k-1) (by rw[hdj];exact hdlt);rw[hdj] at hal
  by_cases hb:bitLen pt.d=dgN k
  ·rw[if_pos ⟨hR,hal.2 hb⟩]
   by_cases h3:k=3
   ·exact mV k hk 2 g ts so tn sc te _ _ g K pt.d w (by omega) hdb hdb HN (.inr (.inr (.inr (.inr (.inr (.inr ⟨rfl,rfl,.inr (.inr (.inl ⟨hfm,by omega,by omega,rfl,rfl⟩))⟩))))))
   ·have hfr:dgN k-1=frN k:=by
     rcases bO hk with rfl|rfl|rfl|rfl|rfl|rfl|rfl|rfl<;>revert hR h3<;>decide
    have hle:2^frN k≤pt.d:=by rw[←hfr];exact Sx (by omega)
    rw[←Wg hk g _ pt.d hle];exact mV k hk 2 g ts so tn sc te _ _ g K pt.d w (by omega) (Nat.lt_of_le_of_lt (Nat.sub_le _ _) hdb) hdb HN (.inr (.inr (.inr (.inr (.inr (.inr ⟨rfl,rfl,.inr (.inr (.inr ⟨hfm,by omega,by omega,rfl,by rw[hfr]⟩))⟩))))))
  ·rw[if_neg (fun c=>hb (hal.1 c.2)),Nat.add_zero]
   exact mV k hk 2 g ts so tn sc te _ _ g K pt.d w (by omega) hdb hdb HN (.inr (.inr (.inr (.inr (.inr (.inr ⟨rfl,rfl,.inr (.inl ⟨hfm,by omega,rfl,rfl⟩)⟩))))))
 ·have hfm:(fmN k:Int)=2:=by
   rcases bO hk with rfl|rfl|rfl|rfl|rfl|rfl|rfl|rfl<;>revert hR<;>decide
  rw[if_neg (fun c=>hR c.1),Nat.add_zero]
  exact mV k hk 2 g ts so tn sc te _ _ g K pt.d w (by omega) hdb hdb HN (.inr (.inr (.inr (.inr (.inr (.inr ⟨rfl,rfl,.inl ⟨hfm,rfl,rfl⟩⟩))))))
end Go.Proofs.YtbdokgamhinajaaGreatDoor
