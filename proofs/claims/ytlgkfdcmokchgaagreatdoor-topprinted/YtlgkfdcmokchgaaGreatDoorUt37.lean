/-
  Texts laid together: Begun, Co13, Co14, Co19, Ce10, Co18, Gq9, Co4, Df1, Ar8, Tx15, Eh5, Ty12.
-/
import Derived.Test.YtlgkfdcmokchgaaGreatDoorUt29
import Derived.Test.YtlgkfdcmokchgaaGreatDoorUt32
import Derived.Test.YtlgkfdcmokchgaaGreatDoorUt33
import Derived.Test.YtlgkfdcmokchgaaGreatDoorUt34
import Derived.Test.YtlgkfdcmokchgaaGreatDoorUt35
set_option maxRecDepth 100000
set_option maxHeartbeats 1600000
namespace Go.Proofs.YtlgkfdcmokchgaaGreatDoor
open _root_.Go.Proofs.Tryz
open Go.RowKit
theorem sP (va vb:Value)(xs ys:List Nat)(w:World)(ha:Rd w .u32 va xs)(hb:Rd w .u32 vb ys)(sa:Dg.Small 4294967296 xs)(sb:Dg.Small 4294967296 ys):
  yC 22 #[va,vb] w (Ans w (mv (gB xs ys) (Dg.vl 4294967296 xs*Dg.vl 4294967296 ys))):=by
 have hbo:=Qr va vb xs ys (Dg.vl 4294967296 xs*Dg.vl 4294967296 ys) w ha hb (fun h w1 b1=>by
  have h2:=fX h;have h3:=(aF h2.1).2;have h4:=(aF h2.2).2;exact qC va vb xs ys w1 (ha.l b1) (hb.l b1) sa sb (by omega) (by omega))
 go_enter func22,ntmps22
 go_wp2_with fail
 refine hbo.mono ?_;rintro e w' ⟨v,rfl,hown,hbel⟩
 go_wp2
 go_ret2
 exact⟨_,rfl,hown,hbel⟩
theorem bH (w:World):yC 7 #[] w (yR w (.bool true)):=by
 have b1:yB w (w.alloc (.cells #[.int .u32 0,.int .u32 1] 54)):=(Below.refl _ _).alloc (Nat.le_refl _) _;have b2:Below (w.alloc (.cells #[.int .u32 0,.int .u32 1] 54)).heap.size (w.alloc (.cells #[.int .u32 0,.int .u32 1] 54)) ((w.alloc (.cells #[.int .u32 0,.int .u32 1] 54)).alloc (.cells #[.int .u32 3] 54)):=(Below.refl _ _).alloc (Nat.le_refl _) _;have r1:=cE (w:=w) (k:= .u32) (e:=54) [0,1] #[.int .u32 0,.int .u32 1] rfl (by unfold maxLen;simp);have r2:=cE (w:=w.alloc (.cells #[.int .u32 0,.int .u32 1] 54)) (k:= .u32) (e:=54) [3] #[.int .u32 3] rfl (by unfold maxLen;simp);have s1:Dg.Small 4294967296 [0,1]:=Dg.small_cons.2 ⟨by omega,Dg.small_cons.2 ⟨by omega,Dg.small_nil _ (by omega)⟩⟩;have s2:Dg.Small 4294967296 [3]:=Dg.small_cons.2 ⟨by omega,Dg.small_nil _ (by omega)⟩;have hm:=sP _ _ _ _ _ (r1.l b2) r2 s1 s2;have hr:mv (gB [0,1] [3]) (Dg.vl 4294967296 [0,1]*Dg.vl 4294967296 [3])=(Dg.dg 4294967296 12884901888,0):=by
  have e1:gB [0,1] [3]=0:=by decide
  have e2:Dg.vl 4294967296 [0,1]*Dg.vl 4294967296 [3]=12884901888:=by decide
  rw[e1,e2];unfold mv lH;rw[if_pos rfl,if_pos (by rw[vG];decide)]
 rw[hr] at hm;have ht:=Qq;have hk:chk (Dg.dg 4294967296 12884901888)=0:=by rw[vG];decide
 obtain⟨D,hD⟩: ∃D,Dg.dg 4294967296 12884901888=D:=⟨_,rfl⟩;have hS:Dg.Small 4294967296 D:=by rw[←hD];exact Dg.small_dg _ _ (by omega)
 rw[hD] at hm ht hk;clear hD hr r1 r2 s1 s2;simp only[World.size_alloc,show[0,1].length=2 from rfl,show[3].length=1 from rfl] at hm
 have b12:=aa b1 b2;clear b1 b2
 go_enter func7,ntmps7
 go_wp2_with fail
 refine hm.mono ?_;rintro e w1 ⟨v,rfl,hown,bel⟩;have b3:=aa b12 bel;have hp:=Cw v D w1 hown.rd hS;rw[ht,hk] at hp;clear hm
 go_wp2_with fail
 refine hp.mono ?_;rintro e w2 ⟨rfl,bel2⟩;have b4:=aa b3 bel2;clear hp
 go_wp2
 go_ret
 exact⟨rfl,b4⟩
theorem IV (k:Nat)(g cap:Nat)(zs:List Nat)(w:World)(ho:ik w g zs)(hl:zs.length≤1000)(hev: ∃m,zs.length=2*m):
  yC (C9 k) #[.slice (some ⟨g,0,none⟩) zs.length cap] w fun e w'=>e= .returned (.tuple #[])∧ik w' g (jT k zs)∧w.grownBy w' (some g):=by
 unfold C9 jT
 by_cases h3:k=3
 ·rw[if_pos h3,if_pos h3]
  exact Uy g cap zs w ho (by omega)
 ·rw[if_neg h3,if_neg h3]
  by_cases h6:6≤k
  ·rw[if_pos h6,if_pos h6]
   obtain⟨m,hm⟩:=hev;exact T8 g cap m zs w ho (by omega) hm
  ·rw[if_neg h6,if_neg h6]
   refine(Ux _ w).mono ?_;rintro z w1 ⟨rfl,rfl⟩;exact⟨rfl,ho,ib _ _⟩
theorem VY (k:Nat)(hk:1≤k∧k≤8)(s:ByteArray)(w:World)(hs:s.size=szN k):
  yC 98 #[.agg (tS k).toArray,.string s] w (yR w (yfV (aZ k s) ((aR k s:Nat):Int) ((aU k s:Nat):Int))):=by
 obtain⟨h1,h2,h3,h4,h5,-⟩:=fZ hk;have hb:=oV s;have HT: ∀g cap w1,ik w1 g (jr s)→yC (C9 k) #[.slice (some ⟨g,0,none⟩) (szN k) cap] w1 fun z w'=>z= .returned (.tuple #[])∧ik w' g (wG k s)∧w1.grownBy w' (some g):=fun g cap w1 h=>by
  have:=IV k g cap (jr s) w1 h (by omega) (by rw[hb,hs];exact h5);rw[hb,hs] at this;exact this
 have HF:=fun w1=>tm k hk w1
 have hl:(wG k s).length=szN k:=by rw[wG,nM,hb,hs]
 have hm:=xi k _ (zU s);have HE:=fun args W=>Db k args W
 unfold aZ aR aU
 rcases bO hk with rfl|rfl|rfl|rfl|rfl|rfl|rfl|rfl
 all_goals exact acf _ _ _ _ _ _ _ _ _ _ s _ w hs hl hm h1 h2 h3 h4 HT HF HE
theorem Aq (k:Nat)(hk:1≤k∧k≤8)(ng:Bool)(e f:Nat)(w:World)(he:e<65536)(hf:f<18446744073709551616):
  yC 132 #[.agg (tS k).toArray,yfV ng e f] w (yR w (.string (cF (kU k ng e f)))):=by
 obtain⟨h1,h2,h3,h4,h5,-⟩:=fZ hk;have hl:=Mx k ng e f;have HF:=fun w1=>tm k hk w1
 have HE:=fun args W=>Db k args W
 have HT:=fun zs (hz:zs.length=szN k) g cap w1 h=>IV k g cap zs w1 h (by omega) (by rw[hz];exact h5)
 cases ng
 ·have HT': ∀g cap w1,ik w1 g (iS (1+exN k) (frN k) f (iS 1 (exN k) e (List.replicate (szN k) 0)))→yC (C9 k) #[.slice (some ⟨g,0,none⟩) (szN k) cap] w1 fun z w'=>z= .returned (.tuple #[])∧ik w' g (kU k false e f)∧w1.grownBy w' (some g):=fun g cap w1 h=>by
   have hz:(iS (1+exN k) (frN k) f (iS 1 (exN k) e (List.replicate (szN k) 0))).length=szN k:=by rw[il,il,List.length_replicate]
   have:=HT _ hz g cap w1 h;rw[hz] at this;exact this
  rcases bO hk with rfl|rfl|rfl|rfl|rfl|rfl|rfl|rfl
  all_goals exact Km _ _ _ _ _ _ _ _ _ _ e f _ w h1 h2 h3 he hf hl HT' HF HE
 ·have HT': ∀g cap w1,ik w1 g (iS (1+exN k) (frN k) f (iS 1 (exN k) e (iS 0 1 1 (List.replicate (szN k) 0))))→yC (C9 k) #[.slice (some ⟨g,0,none⟩) (szN k) cap] w1 fun z w'=>z= .returned (.tuple #[])∧ik w' g (kU k true e f)∧w1.grownBy w' (some g):=fun g cap w1 h=>by
   have hz:(iS (1+exN k) (frN k) f (iS 1 (exN k) e (iS 0 1 1 (List.replicate (szN k) 0)))).length=szN k:=by rw[il,il,il,List.length_replicate]
   have:=HT _ hz g cap w1 h;rw[hz] at this;exact this
  rcases bO hk with rfl|rfl|rfl|rfl|rfl|rfl|rfl|rfl
  all_goals exact Mw _ _ _ _ _ _ _ _ _ _ e f _ w h1 h2 h3 he hf hl HT' HF HE
theorem ZC (R D L G fam:Int)(gr:Bool)(sz ex:Nat)(F ld:Nat)(s:Bool)(ao:Option Addr)(ca:Nat)(xs:List Nat)(E:Int)(w:World)(WB:Bool→Nat→Nat→ByteArray)
  (hr:Rd w .u32 (.slice ao xs.length ca) xs) (sa:Dg.Small 4294967296 xs) (hd:aS xs E=0) (h0:Dg.vl 4294967296 xs≠0) (hg:bk R D L G=0) (h1:1≤D) (hLG:L≤G) (hD:ai R*D.toNat≤64) (hGL:G-L<60000) (hRc:R=2∨R=16) (hld:ld<18446744073709551616)
  (hh:dA R D L G gr (Dg.vl 4294967296 xs) E=true)
  (HL:yJ 145 #[ylV R D L G gr sz ex fam F] (.int .u64 ld))
  (HW: ∀ng e f w1,e<65536→f<18446744073709551616→yC 132 #[ylV R D L G gr sz ex fam F,yfV ng ((e:Nat):Int) ((f:Nat):Int)] w1 (yR w1 (.string (WB ng e f)))):
  yC 129 #[ylV R D L G gr sz ex fam F,ydV s (.slice ao xs.length ca) E] w (yR w (.tuple #[.string (WB (cI R D L G gr s (Dg.vl 4294967296 xs) 1 E 3).s (heE R L ld (cI R D L G gr s (Dg.vl 4294967296 xs) 1 E 3)) (cI R D L G gr s (Dg.vl 4294967296 xs) 1 E 3).d),yi 0])):=by
 obtain⟨c1,e1,e2⟩:=bL hd;have hlen:xs.length≠0:=fun h=>h0 (by rw[List.eq_nil_of_length_eq_zero h];rfl)
 have hC:eE xs [1] E R D L G 3=0:=by
  have hq:eA xs [1] E=0:=by
   unfold eA;rw[if_pos c1,if_pos (show chk [1]=0 by decide),if_neg]
   rintro(h|h)
   ·simp at h
   ·unfold eJ at h
    simp at h;omega
  have hw:jg (eA xs [1] E) (bk R D L G)=0:=by unfold jg;rw[if_pos hq];exact hg
  unfold eE;rw[if_pos hw,if_pos (by decide)]
 have hP:df xs [1] E R D L G gr s 3=cI R D L G gr s (Dg.vl 4294967296 xs) 1 E 3:=by
  unfold df;rw[if_pos hC,if_neg hlen];rfl
 obtain⟨hov,hun,hbare⟩:=mC (s:=s) (way:=3) h1 hLG h0 hh;have hsp:=nW h1 hLG h0 (by omega:(1:Nat)≠0) hov hun;have hR:=fun q w1 (b:yB w w1) (hc:w1.cell? ⟨q,0,none⟩=some (.int .u32 1))=>jM s ao ca xs (some ⟨q,0,none⟩) 1 [1] E R D L G gr 3 w1 (hr.l b) (xD hc) sa (fun i=>by
  match i with
  |0=>decide
  |i+1=>simp)
 rw[hC,hP] at hR;obtain⟨t,ht⟩: ∃t,cI R D L G gr s (Dg.vl 4294967296 xs) 1 E 3=t:=⟨_,rfl⟩;rw[ht] at hsp hbare hR⊢;have hd0:t.d≠0:=fun h=>by
  have hz:=congrArg ak.n hbare;have a1:=(fI ⟨t.s,t.d,(ai R:Int)*t.p⟩).2 h;rw[hz] at a1;exact h0 ((fI ⟨s,Dg.vl 4294967296 xs,E⟩).1 a1)
 obtain⟨-,hp1,hp2,hdl,-⟩:=hsp.resolve_left (fun h=>hd0 h.1)
 have hd64:t.d<18446744073709551616:=by
  have:(2:Nat)^ (ai R*D.toNat)≤2^64:=Nat.pow_le_pow_right (by omega) hD;omega
 clear ht hov hun hbare hsp hC hP hh;obtain⟨e,he⟩: ∃e:Nat,t.p-L=(e:Int):=⟨(t.p-L).toNat,by omega⟩;have hel:e<60000:=by omega
 have hew:IntKind.i64.wrap (t.p-L)=(e:Int):=by rw[he];exact IntWalk.i64_in _ ⟨by omega,by omega⟩
 have hzl:(Dg.dg 4294967296 t.d).length≤2:=Dg.dg_len_le 4294967296 t.d 2 (by omega) hd64;have hzp:0< (Dg.dg 4294967296 t.d).length:=List.length_pos_iff.2 (by rw[Ne,Dg.dg_nil_iff 4294967296 t.d (by omega)];exact hd0);have HWd: ∀po pc w1,Rd w1 .u32 (yT po t.d pc) (Dg.dg 4294967296 t.d)→ ∀w2,yB w1 w2→yC 78 #[yT po t.d pc] w2 fun z w'=>z= .returned (.int .u64 (t.d:Int))∧w2=w':=fun po pc w1 h w2 b=>by
  have:=XF _ _ w2 (h.l b) (Dg.small_dg 4294967296 t.d (by omega)) hzl;rw[Dg.vl_dg 4294967296 t.d (by omega)] at this;exact this.mono (fun _ _ h=>⟨h.1,h.2.symm⟩)
 have hen:(t.p-L).toNat=e:=by omega
 unfold heE;rw[hen];have HR2: ∀q w1,yB w w1→w1.cell? ⟨q,0,none⟩=some (.int .u32 1)→yC 39 #[yrV s (.slice ao xs.length ca) (.slice (some ⟨q,0,none⟩) 1 1) E,ygV R D L G gr,yi 3] w1 fun z w'=> ∃po pc,z= .returned (.tuple #[ypV t.s (yT po t.d pc) t.p t.ex t.ov t.un,yi 0])∧Rd w' .u32 (yT po t.d pc) (Dg.dg 4294967296 t.d)∧yB w1 w':=fun q w1 b hc=>(hR q w1 b hc).mono (fun z w' h=>by
  obtain⟨v,rfl,own,b2⟩:=h;obtain⟨po,pc,hv⟩:=own.rd.shape;subst hv;exact⟨po,pc,rfl,own.rd,b2⟩)
 rcases hRc with rfl|rfl
 ·by_cases hb:t.d&&& ld=0
  ·rw[if_neg (fun h=>h.2 hb),Nat.add_zero]
   exact CC _ D L G fam gr sz ex F s ao xs.length ca E w (Dg.dg 4294967296 t.d) _ t.s t.ex t.ov t.un t.p 0 HR2 t.s e t.d (fun po pc w1 _ h=>KG D L G fam gr sz ex F t.s t.ex t.ov t.un po _ pc t.p e t.d w1 hew (by omega) (HWd po pc w1 h) ld 0 (by rw[u64_and_nat t.d ld hd64 hld,hb];rfl) rfl HL) _ (fun w1=>HW t.s e t.d w1 (by omega) hd64) rfl hzp
  ·rw[if_pos ⟨rfl,hb⟩]
   have hF: ∀po pc w1,yB w w1→Rd w1 .u32 (yT po t.d pc) (Dg.dg 4294967296 t.d)→_:=fun po pc w1 _ h=>KF D L G fam gr sz ex F t.s t.ex t.ov t.un po _ pc t.p e t.d w1 hew (by omega) (HWd po pc w1 h) ld ((t.d&&& ld:Nat):Int) (u64_and_nat t.d ld hd64 hld) (by omega) HL
   exact CC _ D L G fam gr sz ex F s ao xs.length ca E w (Dg.dg 4294967296 t.d) _ t.s t.ex t.ov t.un t.p 0 HR2 t.s (e+1) t.d hF _ (fun w1=>HW t.s (e+1) t.d w1 (by omega) hd64) rfl hzp
 ·rw[if_neg (fun h=>by have:=h.1;omega),Nat.add_zero]
  exact CC _ D L G fam gr sz ex F s ao xs.length ca E w (Dg.dg 4294967296 t.d) _ t.s t.ex t.ov t.un t.p 0 HR2 t.s e t.d (fun po pc w1 _ h=>KE D L G fam gr sz ex F t.s t.ex t.ov t.un po _ pc t.p e t.d w1 hew (by omega) (HWd po pc w1 h)) _ (fun w1=>HW t.s e t.d w1 (by omega) hd64) rfl hzp
theorem xE (k:Nat)(hk:1≤k∧k≤8)(s:Bool)(ao:Option Addr)(ca:Nat)(xs:List Nat)(E:Int)(w:World)(hr:Rd w .u32 (.slice ao xs.length ca) xs)(sa:Dg.Small 4294967296 xs)(hd:aS xs E=0)(h0:Dg.vl 4294967296 xs≠0)
  (hh:dA (rdN k) (dgN k) (lsI k) (gsI k) (decide (k≤3)) (Dg.vl 4294967296 xs) E=true):
  yC 129 #[.agg (tS k).toArray,ydV s (.slice ao xs.length ca) E] w (yR w (.tuple #[.string (cF (kU k (plT k s (Dg.vl 4294967296 xs) E).s (heE (rdN k) (lsI k) (gW k) (plT k s (Dg.vl 4294967296 xs) E)) (plT k s (Dg.vl 4294967296 xs) E).d)),yi 0])):=by
 have HL:=fun w1=>xX k hk w1
 have HW:=fun ng e f w1 (he:e<65536) (hf:f<18446744073709551616)=>Aq k hk ng e f w1 he hf
 have hl:=Re hk;unfold plT
 rcases bO hk with rfl|rfl|rfl|rfl|rfl|rfl|rfl|rfl
 all_goals exact ZC _ _ _ _ _ _ _ _ _ _ s ao ca xs E w (fun ng e f=>cF (kU _ ng e f)) hr sa hd h0 (by decide) (by decide) (by decide) (by decide) (by decide) (by decide) hl hh HL HW
theorem uM (n:Int)(s:ByteArray)(w:World)(h:dF n s=0):
  yC 53 #[yi n,.string s] w (yR w (.tuple #[.agg (tS n.toNat).toArray,yfV (aZ n.toNat s) ((aR n.toNat s:Nat):Int) ((aU n.toNat s:Nat):Int),yi 0])):=by
 unfold dF at h
 by_cases hf:dK n=0
 ·rw[if_pos hf] at h
  omega
 ·rw[if_neg hf] at h
  obtain⟨h1,h2,h3⟩:=fF hf;obtain⟨k,rfl⟩: ∃k:Nat,n=(k:Int):=⟨n.toNat,h3.symm⟩;rw[Int.toNat_natCast] at h h1 h2⊢;have hs:s.size=szN k:=by
   by_cases c:s.size=szN k
   ·exact c
   ·rw[if_neg c] at h
    omega
  have HL:=fun w1=>pU k ⟨h1,h2⟩ w1
  have HR:=fun w1=>VY k ⟨h1,h2⟩ s w1 hs
  generalize aZ k s=ng at*;generalize aR k s=e at*;generalize aU k s=f at*
  rcases bO ⟨h1,h2⟩ with rfl|rfl|rfl|rfl|rfl|rfl|rfl|rfl
  all_goals exact N7 _ _ _ _ _ _ _ _ _ _ ng e f s w hs HL HR
theorem tA (n:Int)(s:ByteArray)(w:World)(h:dF n s≠0):
  yC 53 #[yi n,.string s] w (yR w (.tuple #[yzV 0 0 0 0 false 0 0 0,yfV false 0 0,yi (dF n s)])):=by
 unfold dF at h⊢
 by_cases hf:dK n=0
 ·rw[if_pos hf]
  exact GA n s w (fun w1=>lR n w1 hf)
 ·rw[if_neg hf] at h⊢
  obtain⟨h1,h2,h3⟩:=fF hf;obtain⟨k,rfl⟩: ∃k:Nat,n=(k:Int):=⟨n.toNat,h3.symm⟩;rw[Int.toNat_natCast] at h h1 h2⊢
  by_cases hs:s.size=szN k
  ·rw[if_pos hs] at h
   omega
  ·rw[if_neg hs]
   have HL:=fun w1=>pU k ⟨h1,h2⟩ w1
   rcases bO ⟨h1,h2⟩ with rfl|rfl|rfl|rfl|rfl|rfl|rfl|rfl
   all_goals exact H6 _ _ _ _ _ _ _ _ _ _ s w hs HL
theorem Nb {xs ys:List Nat}{E R D L G way:Int}(h:eE xs ys E R D L G way=0):eA xs ys E=0∧bk R D L G=0∧iC way=true:=by
 by_cases h1:eA xs ys E=0
 ·by_cases h2:bk R D L G=0
  ·refine⟨h1,h2, ?_⟩
   rw[Bq h1 h2] at h
   by_cases h3:iC way=true
   ·exact h3
   ·rw[if_neg h3] at h
    cases h
  ·rw[Na h1 h2] at h
   exact absurd h h2
 ·rw[M9 h1] at h
  exact absurd h h1
theorem SQ (w:World):yC 42 #[yi 4] w (yR w (.tuple #[ygV 16 6 (-70) 57 false,yi 0])):=by
 have HL:Hid (yJ 79 #[yi 4] (.tuple #[.agg #[yi 16,yi 6,yi (-70),yi 57,.bool false,yi 4,yi 7,yi 2,.func (.func 154) #[] #[]],yi 0])):=fun w1=>uX w1
 have hsf:=cD;have hsn:=gn;have l0:=ah w (ygL 0 0 0 0 false) 82;have b0:=af w (.cells (ygA 0 0 0 0 false) 82)
 go_enter func42,ntmps42
 go_wp2_with fail
 refine(HL.out _).mono ?_;rintro z w2 ⟨rfl,b2⟩;have l3:=(l0.l b2).l (af w2 (.cells #[yi 16,yi 6,yi (-70),yi 57,.bool false,yi 4,yi 7,yi 2,.func (.func 154) #[] #[]] 110));have cR:au ((((((w2.alloc (.cells #[yi 16,yi 6,yi (-70),yi 57,.bool false,yi 4,yi 7,yi 2,.func (.func 154) #[] #[]] 110)).setCell ⟨w.heap.size,0,none⟩ (yi 16)).setCell ⟨w.heap.size,1,none⟩ (yi 6)).setCell ⟨w.heap.size,2,none⟩ (yi (-70))).setCell ⟨w.heap.size,3,none⟩ (yi 57)).setCell ⟨w.heap.size,4,none⟩ (.bool false)) w.heap.size 82 (ygL 16 6 (-70) 57 false):=(((((l3.set 0 (yi 16)).set 1 (yi 6)).set 2 (yi (-70))).set 3 (yi 57)).set 4 (.bool false));have bR:=(((((ag (w2.alloc (.cells #[yi 16,yi 6,yi (-70),yi 57,.bool false,yi 4,yi 7,yi 2,.func (.func 154) #[] #[]] 110)) w.heap.size 0 (yi 16)).trans (ag _ w.heap.size 1 (yi 6))).trans (ag _ w.heap.size 2 (yi (-70)))).trans (ag _ w.heap.size 3 (yi 57))).trans (ag _ w.heap.size 4 (.bool false))).below (aa (aa b0 b2) (af w2 (.cells #[yi 16,yi 6,yi (-70),yi 57,.bool false,yi 4,yi 7,yi 2,.func (.func 154) #[] #[]] 110))) (Nat.le_refl _);have hl:=run_loadVar_mid (P:=Tryz.prog) _ w.heap.size 0 82 (ygL 16 6 (-70) 57 false) _ cR.range underlying82 rfl (by kernel_rfl);have HH:Hid (_∧_):=⟨hl,bR⟩;have x0:=l3.c 0 rfl;have f0:=l3.f 0;have x1:=l3.c 1 rfl;have f1:=l3.f 1;have x2:=l3.c 2 rfl;have f2:=l3.f 2;have x3:=l3.c 3 rfl;have f3:=l3.f 3;have x4:=l3.c 4 rfl;have f4:=l3.f 4;have hne:w2.heap.size≠w.heap.size:=Nat.ne_of_gt (l0.l b2).lt;clear hl bR cR l0 l3 b0 b2 HL
 go_wp2
 obtain⟨hl,bR⟩:=HH.out;exact bodyPost_ret (aj results42 rfl rfl hl) rfl ⟨rfl,bR⟩
theorem ST (w:World):yC 42 #[yi 7] w (yR w (.tuple #[ygV 2 56 (-183) 71 false,yi 0])):=by
 have HL:Hid (yJ 79 #[yi 7] (.tuple #[.agg #[yi 2,yi 56,yi (-183),yi 71,.bool false,yi 8,yi 8,yi 3,.func (.func 156) #[] #[]],yi 0])):=fun w1=>vf w1
 have hsf:=cD;have hsn:=gn;have l0:=ah w (ygL 0 0 0 0 false) 82;have b0:=af w (.cells (ygA 0 0 0 0 false) 82)
 go_enter func42,ntmps42
 go_wp2_with fail
 refine(HL.out _).mono ?_;rintro z w2 ⟨rfl,b2⟩;have l3:=(l0.l b2).l (af w2 (.cells #[yi 2,yi 56,yi (-183),yi 71,.bool false,yi 8,yi 8,yi 3,.func (.func 156) #[] #[]] 110));have cR:au ((((((w2.alloc (.cells #[yi 2,yi 56,yi (-183),yi 71,.bool false,yi 8,yi 8,yi 3,.func (.func 156) #[] #[]] 110)).setCell ⟨w.heap.size,0,none⟩ (yi 2)).setCell ⟨w.heap.size,1,none⟩ (yi 56)).setCell ⟨w.heap.size,2,none⟩ (yi (-183))).setCell ⟨w.heap.size,3,none⟩ (yi 71)).setCell ⟨w.heap.size,4,none⟩ (.bool false)) w.heap.size 82 (ygL 2 56 (-183) 71 false):=(((((l3.set 0 (yi 2)).set 1 (yi 56)).set 2 (yi (-183))).set 3 (yi 71)).set 4 (.bool false));have bR:=(((((ag (w2.alloc (.cells #[yi 2,yi 56,yi (-183),yi 71,.bool false,yi 8,yi 8,yi 3,.func (.func 156) #[] #[]] 110)) w.heap.size 0 (yi 2)).trans (ag _ w.heap.size 1 (yi 56))).trans (ag _ w.heap.size 2 (yi (-183)))).trans (ag _ w.heap.size 3 (yi 71))).trans (ag _ w.heap.size 4 (.bool false))).below (aa (aa b0 b2) (af w2 (.cells #[yi 2,yi 56,yi (-183),yi 71,.bool false,yi 8,yi 8,yi 3,.func (.func 156) #[] #[]] 110))) (Nat.le_refl _);have hl:=run_loadVar_mid (P:=Tryz.prog) _ w.heap.size 0 82 (ygL 2 56 (-183) 71 false) _ cR.range underlying82 rfl (by kernel_rfl);have HH:Hid (_∧_):=⟨hl,bR⟩;have x0:=l3.c 0 rfl;have f0:=l3.f 0;have x1:=l3.c 1 rfl;have f1:=l3.f 1;have x2:=l3.c 2 rfl;have f2:=l3.f 2;have x3:=l3.c 3 rfl;have f3:=l3.f 3;have x4:=l3.c 4 rfl;have f4:=l3.f 4;have hne:w2.heap.size≠w.heap.size:=Nat.ne_of_gt (l0.l b2).lt;clear hl bR cR l0 l3 b0 b2 HL
 go_wp2
 obtain⟨hl,bR⟩:=HH.out;exact bodyPost_ret (aj results42 rfl rfl hl) rfl ⟨rfl,bR⟩
theorem sN (v:Value)(t:ak)(w:World)(hv:Rv w v t)(hL:(Dg.dg 65536 t.n).length≤100000)(h1: -1000000≤t.e)(h2:t.e≤1000000):
  yC 10 #[v] w (cG w (shN t.n t.e)):=by
 obtain⟨s0,rfl,hr⟩:=hv;have HU:Hid (¬t.e<0→ ∀w1,yB w w1→yC 26 #[s0,yi t.e] w1 (cG w1 (shN t.n t.e))):=fun h w1 b=>by
  unfold shN;rw[if_neg h];obtain⟨m,hm⟩: ∃m:Nat,t.e=(m:Int):=⟨t.e.toNat,by omega⟩;rw[hm,Int.toNat_natCast];have:=kD s0 _ m w1 (hr.l b) (Dg.small_dg _ _ (by omega)) (by omega) (by omega)
  rwa [Dg.vl_dg _ _ (by omega)] at this
 have HD:Hid (t.e<0→ ∀w1,yB w w1→yC 27 #[s0,yi (-t.e)] w1 (cG w1 (shN t.n t.e))):=fun h w1 b=>by
  unfold shN;rw[if_pos h];obtain⟨m,hm⟩: ∃m:Nat,-t.e=(m:Int):=⟨(-t.e).toNat,by omega⟩;rw[hm,Int.toNat_natCast];have:=Ft s0 _ m (m/16) (m % 16) (2^ (m % 16)) (2^ (16-m % 16)) w1 (hr.l b) (Dg.small_dg _ _ (by omega)) (by omega) (by omega) (by omega) (by omega) rfl rfl
  rwa [Dg.vl_dg _ _ (by omega)] at this
 obtain⟨ao,ca,rfl⟩:=hr.shape;obtain⟨ts,n,e⟩:=t;simp only at HU HD h1 h2⊢;obtain⟨R,hR⟩: ∃R,shN n e=R:=⟨_,rfl⟩;rw[hR] at HU HD⊢;obtain⟨m,hm⟩: ∃m,(Dg.dg 65536 n).length=m:=⟨_,rfl⟩;rw[hm] at HU HD⊢;have bA:=af w (.cells (ydA ts (.slice ao m ca) e) 30);clear hr hL hR hm
 by_cases h:e<0
 ·have h3: ¬0≤e:=by omega
  go_enter func10,ntmps10
  go_wp2_with fail
  refine(HD.out h _ bA).mono ?_;rintro z w1 ⟨v1,rfl,r1,b1⟩;have b01:=aa bA b1
  go_wp2
  go_ret
  exact⟨_,rfl,r1,b01⟩
 ·have h3:0≤e:=by omega
  go_enter func10,ntmps10
  go_wp2_with fail
  refine(HU.out h _ bA).mono ?_;rintro z w1 ⟨v1,rfl,r1,b1⟩;have b01:=aa bA b1
  go_wp2
  go_ret
  exact⟨_,rfl,r1,b01⟩
theorem vj (k:Nat)(hk:1≤k∧k≤8)(w:World):yC 42 #[yi k] w (yR w (.tuple #[ygV (rdN k) (dgN k) (lsI k) (gsI k) (decide (k≤3)),yi 0])):=by
 rcases bO hk with rfl|rfl|rfl|rfl|rfl|rfl|rfl|rfl
 ·exact SN w
 ·exact SO w
 ·exact SP w
 ·exact SQ w
 ·exact SR w
 ·exact SS w
 ·exact ST w
 ·exact SU w
theorem mp (k:Nat)(hk:1≤k∧k≤8)(w:World):yC 58 #[yi k] w (yR w (.tuple #[ykV k 0 (dK k) (rdN k) (dgN k) (lsI k) (gsI k) (decide (k≤3)),yi 0])):=
 Yr k _ _ _ _ _ _ w (fun w1=>vj k hk w1) (fun w1=>jk k w1)
def shE (n:Int)(s:ByteArray):Int:=gI n ((bM n s:Nat):Int) (dz n s) (Dg.dg 4294967296 (gJ n s)) (iF n s)
def exB (k j:Nat):Bool:=(hdL k).all (hdB8 j)
theorem exact_err (k j:Int)(h:dK k=0∨dK j=0)(w:World):yC 16 #[yi k,yi j] w (yR w (.tuple #[.bool false,yi 6])):=by
 by_cases hk:dK k=0
 ·exact exact_1 k j 6 w (by decide) (fun w1=>vU k w1 hk)
 ·obtain⟨k1,k2,k3⟩:=fF hk
  obtain⟨k,rfl⟩: ∃n:Nat,k=(n:Int):=⟨k.toNat,k3.symm⟩;rw[Int.toNat_natCast] at k1 k2;exact exact_2 (k:Int) j 6 _ _ _ _ _ w (by decide) (fun w1=>vj k ⟨k1,k2⟩ w1) (fun w1=>vU j w1 (h.resolve_left hk))
theorem ex_is {k j:Nat}(hk:1≤k∧k≤8)(hj:1≤j∧j≤8):exB k j=exP k j:=by
 rcases bO hk with rfl|rfl|rfl|rfl|rfl|rfl|rfl|rfl
 all_goals
  rcases bO hj with rfl|rfl|rfl|rfl|rfl|rfl|rfl|rfl
  all_goals kernel_rfl
theorem exact_holds {k j:Nat}(hk:1≤k∧k≤8)(hj:1≤j∧j≤8)(h:exB k j=true)(n:Nat)(e:Int)(hh:dA (rdN k) (dgN k) (lsI k) (gsI k) (decide (k≤3)) n e=true):dA (rdN j) (dgN j) (lsI j) (gsI j) (decide (j≤3)) n e=true:=by
 by_cases h0:n=0
 ·exact decide_eq_true (.inl h0)
 have htz:(tz n:Int)≤(bitLen n:Int)-1:=by
  obtain⟨-,t2,t3⟩:=gN (t:=⟨false,n,0⟩) h0;have b1:=(gN (t:=⟨false,n,0⟩) h0).1;have:=Gq b1;simp only at t2 t3;omega
 unfold dA at hh⊢;rw[decide_eq_true_eq] at hh⊢;refine .inr ?_;replace hh:=hh.resolve_left h0;unfold cP aT at hh⊢;generalize(tz n:Int)=z at*;generalize(bitLen n:Int)=b at*;rw[ex_is hk hj] at h
 rcases bO hk with rfl|rfl|rfl|rfl|rfl|rfl|rfl|rfl
 all_goals
  rcases bO hj with rfl|rfl|rfl|rfl|rfl|rfl|rfl|rfl
  all_goals first
   |exact absurd h (by decide)
   | (clear h;simp[rdN,dgN,lsI,gsI,ai] at hh⊢;omega)
   | (clear h;simp[rdN,dgN,lsI,gsI,ai] at hh⊢;split at hh<;>first|omega| (split<;>omega))
theorem print_ra {x:ak}{j:Nat}(hx:x.n<2^64)(e1: -16500≤x.e)(e2:x.e≤16500)(h0:x.n≠0)(j1:1≤j)(j2:j≤60):
  raE (prR x.s (dcH x) (dcC x) (dcP x) j)=0∧ ∃(δ Q' m M0:Nat) (p:Int),p+((j:Int)-1-dcP x)=(δ:Int)∧Q'*10^δ=prQ (dcH x) (dcC x) j∧m≠0∧M0≠0∧m*5^ (-p).toNat=Q'*M0*5^p.toNat∧raV (prR x.s (dcH x) (dcC x) (dcP x) j)=(x.s,m/2^tz m,M0,p+(tz m:Int)):=by
 obtain⟨s1,s2⟩:=prR_nm x.s hx e1 e2 h0 j1 j2;obtain⟨v1,δ,v2,v3,v4,v5⟩:=dgS_val hx e1 e2 h0 j1 j2;have hP:=dcP_in hx e1 e2 h0;have nm:=nuS_nm x.s (dgS x j) (prN (dcH x) (dcC x) (dcP x) j) v1 (by omega) (by omega) (by omega) (by omega);rw[←s2] at nm;have hpv:pv (dgS x j) (dgS x j).size=lvD (dgS x j).data.toList:=by
  have:=pv_all (dgS x j).data.toList
  rwa [mk_list,←size_list] at this
 have e0:raE (prR x.s (dcH x) (dcC x) (dcP x) j)=0:=by
  unfold raE;rw[nm]
 obtain⟨p,hp⟩: ∃p,prN (dcH x) (dcC x) (dcP x) j-(((dgS x j).size-1:Nat):Int)=p:=⟨_,rfl⟩;rw[hp] at nm;refine⟨e0,δ,lvD (dgS x j).data.toList,(nrM (lvD (dgS x j).data.toList) p).1,(nrM (lvD (dgS x j).data.toList) p).2,p,by omega,v4, ?_, ?_, ?_, ?_⟩
 ·unfold nrM
  split
  ·exact Nat.mul_ne_zero v5 (Nat.ne_of_gt (Nat.pow_pos (by omega)))
  ·exact redF_pos _ _ v5
 ·unfold nrM
  split
  ·exact Nat.one_ne_zero
  ·exact Nat.ne_of_gt (Nat.pow_pos (by omega))
 ·unfold nrM
  by_cases c:0<p
  ·rw[if_pos c,show(-p).toNat=0 by omega,Nat.pow_zero,Nat.mul_one,Nat.mul_one]
  ·rw[if_neg c,show p.toNat=0 by omega,Nat.pow_zero,Nat.mul_one]
   exact redF_keep _ _
 ·unfold raV nrV
  rw[nm];simp only;rw[hpv,if_neg v5]
end Go.Proofs.YtlgkfdcmokchgaaGreatDoor
