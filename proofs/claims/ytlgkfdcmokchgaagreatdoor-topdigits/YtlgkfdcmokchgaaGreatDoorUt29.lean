/-
  Texts laid together: Dz, Co9, Co7, Co13, Co19, Co11, Ce10, As1, Cr1, Gn2, Gk3, Ce9, Co25, Cr11, As3, As4, Cv1, Ty4, Ty10, Ty11.
-/
import Derived.Test.YtlgkfdcmokchgaaGreatDoorUt19
import Derived.Test.YtlgkfdcmokchgaaGreatDoorUt20
import Derived.Test.YtlgkfdcmokchgaaGreatDoorUt22
import Derived.Test.YtlgkfdcmokchgaaGreatDoorUt27
set_option maxRecDepth 100000
set_option maxHeartbeats 6400000
namespace Go.Proofs.YtlgkfdcmokchgaaGreatDoor
open _root_.Go.Proofs.Tryz
open Go.RowKit
theorem dH {K:Nat}{a b:ak}(ha: -(K:Int)≤a.e)(hb: -(K:Int)≤b.e):V K (aG a b)=V K a+V K b:=by
 have h0: -(K:Int)≤min a.e b.e:=by omega
 rw[adk h0 (Int.min_le_left a.e b.e),adk h0 (Int.min_le_right a.e b.e),←Int.add_mul,Y6];unfold aG V;simp only
 split
 ·rfl
 ·split<;>rfl
theorem zx {K:Nat}{a b:ak}(ha: -(K:Int)≤a.e)(hb: -(K:Int)≤b.e):V K (cO a b)=V K a+V K b:=by
 obtain⟨e,he⟩: ∃e,(if b.n=0 then a.e else if a.n=0 then b.e else min a.e b.e)=e:=⟨_,rfl⟩
 have h0: -(K:Int)≤e:=by rw[←he];split<;>(try split)<;>omega
 have h1:a.n=0∨e≤a.e:=by
  rw[←he]
  by_cases x:b.n=0
  ·rw[if_pos x];exact .inr (Int.le_refl _)
  ·rw[if_neg x]
   by_cases y:a.n=0
   ·exact .inl y
   ·rw[if_neg y];exact .inr (Int.min_le_left _ _)
 have h2:b.n=0∨e≤b.e:=by
  rw[←he]
  by_cases x:b.n=0
  ·exact .inl x
  ·rw[if_neg x]
   by_cases y:a.n=0
   ·rw[if_pos y];exact .inr (Int.le_refl _)
   ·rw[if_neg y];exact .inr (Int.min_le_right _ _)
 rw[acz h0 h1,acz h0 h2,←Int.add_mul,Y6];unfold cO V;simp only[he]
 split
 ·rfl
 ·by_cases hle:b.n*2^ (max 0 (b.e-e)).toNat≤a.n*2^ (max 0 (a.e-e)).toNat
  ·rw[if_pos hle,if_neg (by omega)]
  ·rw[if_neg hle,if_pos (by omega)]
theorem gj (k:Nat)(hk:1≤k∧k≤8)(w:World):yC 166 #[.agg (tS k).toArray] w (yR w (.int .u64 ((wrN k:Nat):Int))):=by
 have HF:=fun w1=>tm k hk w1
 have HL:=fun w1=>xX k hk w1
 rcases bO hk with rfl|rfl|rfl|rfl|rfl|rfl|rfl|rfl
 all_goals first|exact L6 _ _ _ _ _ _ _ _ _ _ w (by decide) HF|exact L7 _ _ _ _ _ _ _ _ _ _ _ w (by decide) HF HL
theorem ac1 {zs cur:List Nat}{i:Nat}(h:WI zs cur i)(hi:zs.length≤2*i):cur=Bg zs:=by
 obtain⟨h1,h3⟩:=h;apply List.ext_getElem (by rw[Cq];exact h1);intro k hk1 hk2;have hk:k<zs.length:=by omega
 have e1:cur.getD k 0=cur[k]:=by simp[List.getD_eq_getElem?_getD,hk1]
 have e2:(Bg zs).getD k 0=(Bg zs)[k]:=by simp only[List.getD_eq_getElem?_getD,List.getElem?_eq_getElem hk2,Option.getD_some]
 rw[←e1,←e2,h3 k hk,if_pos (by omega),Fl zs k hk]
theorem T8 (g cap m:Nat)(zs:List Nat)(w:World)(ho:ik w g zs)(hl:zs.length≤1000000000)(hm:zs.length=2*m):
  yC 156 #[.slice (some ⟨g,0,none⟩) zs.length cap] w fun e w'=>
   e= .returned (.tuple #[])∧ik w' g (Bg zs)∧w.grownBy w' (some g):=by
 go_enter func156,ntmps156
 go_wp2
 go_loopw [2] (fun iv wr=> ∃(i:Nat) (cur:List Nat),iv=yi ((2*i:Nat):Int)∧ik wr g cur∧WI zs cur i∧i≤m∧w.grownBy wr (some g))
  (fun iv _=>((zs.length:Int)-intOf iv).toNat)
 case atStart=>exact⟨0,zs,rfl,ho,⟨rfl,fun k hk=>by rw[if_neg (by omega)]⟩,by omega,ib _ _⟩
 case round=>
  obtain⟨i,cur,rfl,own,hI,him,gr⟩:=hrel;have h1:=hI.1
  by_cases hij:i<m
  ·obtain⟨a,ha⟩: ∃a,2*i=a:=⟨_,rfl⟩
   have ci:=own.c a (by omega);have cj:=own.c (a+1) (by omega);have fi:=own.f a (by omega);have fj:=own.f (a+1) (by omega);have hst:=aa3 hI (by omega);rw[ha] at hst⊢;have hal:a+1<zs.length:=by omega
   have Ha:Hid _:=ha;obtain⟨x,ex⟩: ∃x,cur.getD a 0=x:=⟨_,rfl⟩;obtain⟨y,ey⟩: ∃y,cur.getD (a+1) 0=y:=⟨_,rfl⟩;rw[ex] at ci hst;rw[ey] at cj hst;clear ha ex ey hI hm
   go_wp2
   go_region
   all_goals go_wp2
   all_goals go_roundw
   case rel=>exact⟨i+1,_,by have:=Ha.out;go_num,((own.store a y).store (a+1) x).drew,hst,by omega,eF (eF gr (bI _ _ _ _)) ((eF (bI _ _ _ _) (vm _ _)))⟩
   case measure=>simp[intOf];omega
  ·have hd: ¬(((2*i:Nat):Int)+1< (zs.length:Int)):=by omega
   go_wp2
   go_end0
   rw[←ac1 hI (by omega)];exact⟨rfl,own,gr⟩
theorem nM (k:Nat)(zs:List Nat):(jT k zs).length=zs.length:=by
 unfold jT
 split
 ·simp
 ·split
  ·exact Cq zs
  ·rfl
theorem xi (k:Nat)(zs:List Nat)(h:Dg.Small 256 zs):Dg.Small 256 (jT k zs):=by
 unfold jT
 split
 ·intro i
  by_cases hi:i<zs.length
  ·rw[List.getD_eq_getElem?_getD,List.getElem?_reverse hi,←List.getD_eq_getElem?_getD]
   exact h _
  ·rw[List.getD_eq_getElem?_getD,List.getElem?_eq_none (by simpa using hi)]
   simp
 ·split
  ·intro i
   by_cases hi:i<zs.length
   ·rw[Fl zs i hi]
    exact h _
   ·rw[List.getD_eq_getElem?_getD,List.getElem?_eq_none (by rw[Cq];omega)]
    simp
  ·exact h
theorem Mx (k:Nat)(ng:Bool)(e f:Nat):(kU k ng e f).length=szN k:=by
 unfold kU;rw[nM,il,il]
 split
 ·rw[il,List.length_replicate]
 ·rw[List.length_replicate]
theorem afs (ng:Bool)(e f:Nat)(w:World)(hf:f<18446744073709551616):yC 140 #[.agg #[yi 2,yi 24,yi (-149),yi 104,.bool true,yi 4,yi 8,yi 1,.func (.func 154) #[] #[]],yfV ng e f] w (yR w (yi ((dh 1 ng e f:Nat):Int))):=by
 unfold dh;rw[if_pos (by decide),show kp 1=255 from rfl]
 by_cases h0:e=0
 ·subst h0
  rw[if_pos rfl]
  by_cases hz:f=0
  ·subst hz
   exact zD _ _ _ _ _ _ _ _ ng _ 0 0 w _ rfl rfl
  ·rw[if_neg hz]
   exact zD _ _ _ _ _ _ _ _ ng _ 0 f w _ rfl (if_neg (by omega))
 ·rw[if_neg h0]
  by_cases h1:e=255
  ·subst h1
   rw[if_pos rfl]
   by_cases h2:f=(if 1=3 then 2^63 else 0)
   ·rw[if_pos h2]
    exact Ra _ _ _ _ _ _ _ 255 0 _ ng _ _ f w (jy 1 (by decide)) (gj 1 (by decide)) rfl (by rw[h2];rfl) (by decide)
   ·rw[if_neg h2]
    exact KP _ _ _ _ _ _ _ 255 0 _ ng _ _ f w (jy 1 (by decide)) (gj 1 (by decide)) rfl (fun c=>h2 (by rw[show(if 1=3 then 2^63 else 0)=0 from rfl];omega)) (by decide)
  ·rw[if_neg h1]
   rw[if_neg (fun c=>by omega)]
   exact Rb _ _ _ _ _ _ _ 255 0 _ ng _ _ f w (jy 1 (by decide)) (gj 1 (by decide)) (by omega) (by omega) (NR f hf)
theorem aft (ng:Bool)(e f:Nat)(w:World)(hf:f<18446744073709551616):yC 140 #[.agg #[yi 2,yi 53,yi (-1074),yi 971,.bool true,yi 8,yi 11,yi 1,.func (.func 154) #[] #[]],yfV ng e f] w (yR w (yi ((dh 2 ng e f:Nat):Int))):=by
 unfold dh;rw[if_pos (by decide),show kp 2=2047 from rfl]
 by_cases h0:e=0
 ·subst h0
  rw[if_pos rfl]
  by_cases hz:f=0
  ·subst hz
   exact zD _ _ _ _ _ _ _ _ ng _ 0 0 w _ rfl rfl
  ·rw[if_neg hz]
   exact zD _ _ _ _ _ _ _ _ ng _ 0 f w _ rfl (if_neg (by omega))
 ·rw[if_neg h0]
  by_cases h1:e=2047
  ·subst h1
   rw[if_pos rfl]
   by_cases h2:f=(if 2=3 then 2^63 else 0)
   ·rw[if_pos h2]
    exact Ra _ _ _ _ _ _ _ 2047 0 _ ng _ _ f w (jy 2 (by decide)) (gj 2 (by decide)) rfl (by rw[h2];rfl) (by decide)
   ·rw[if_neg h2]
    exact KP _ _ _ _ _ _ _ 2047 0 _ ng _ _ f w (jy 2 (by decide)) (gj 2 (by decide)) rfl (fun c=>h2 (by rw[show(if 2=3 then 2^63 else 0)=0 from rfl];omega)) (by decide)
  ·rw[if_neg h1]
   rw[if_neg (fun c=>by omega)]
   exact Rb _ _ _ _ _ _ _ 2047 0 _ ng _ _ f w (jy 2 (by decide)) (gj 2 (by decide)) (by omega) (by omega) (NR f hf)
theorem afu (ng:Bool)(e f:Nat)(w:World)(hf:f<18446744073709551616):yC 140 #[.agg #[yi 2,yi 64,yi (-16445),yi 16320,.bool true,yi 10,yi 15,yi 1,.func (.func 155) #[] #[]],yfV ng e f] w (yR w (yi ((dh 3 ng e f:Nat):Int))):=by
 unfold dh;rw[if_pos (by decide),show kp 3=32767 from rfl]
 by_cases h0:e=0
 ·subst h0
  rw[if_pos rfl]
  by_cases hz:f=0
  ·subst hz
   exact zD _ _ _ _ _ _ _ _ ng _ 0 0 w _ rfl rfl
  ·rw[if_neg hz]
   exact zD _ _ _ _ _ _ _ _ ng _ 0 f w _ rfl (if_neg (by omega))
 ·rw[if_neg h0]
  by_cases h1:e=32767
  ·subst h1
   rw[if_pos rfl]
   by_cases h2:f=(if 3=3 then 2^63 else 0)
   ·rw[if_pos h2]
    exact Ra _ _ _ _ _ _ _ 32767 9223372036854775808 _ ng _ _ f w (jy 3 (by decide)) (gj 3 (by decide)) rfl (by rw[h2];rfl) (by decide)
   ·rw[if_neg h2]
    exact KP _ _ _ _ _ _ _ 32767 9223372036854775808 _ ng _ _ f w (jy 3 (by decide)) (gj 3 (by decide)) rfl (fun c=>h2 (by rw[show(if 3=3 then 2^63 else 0)=9223372036854775808 from rfl];omega)) (by decide)
  ·rw[if_neg h1]
   have ha:=ab0 f hf
   by_cases h3:f<9223372036854775808
   ·rw[if_pos ⟨rfl,h3⟩]
    rw[if_pos h3] at ha;exact adw _ _ _ _ _ _ _ 32767 9223372036854775808 _ ng _ _ f w (jy 3 (by decide)) (gj 3 (by decide)) (by omega) (by omega) ha (by decide)
   ·rw[if_neg (fun c=>h3 c.2)]
    rw[if_neg h3] at ha;exact Rb _ _ _ _ _ _ _ 32767 9223372036854775808 _ ng _ _ f w (jy 3 (by decide)) (gj 3 (by decide)) (by omega) (by omega) ha
def plT (k:Nat)(s:Bool)(n:Nat)(E:Int):fz:=cI (rdN k) (dgN k) (lsI k) (gsI k) (decide (k≤3)) s n 1 E 3
open Go.RowKit Go.ChangeMaps Go.MapKept
def Xo:Array MapEntry:= #[⟨yi 1,yi 4,0⟩,⟨yi 2,yi 1,1⟩,⟨yi 3,yi 5,2⟩]
theorem JQ (w:World):yC 142 #[] w fun z w'=>z= .returned (.map (some w.heap.size))∧w'.heap[w.heap.size]? =some (.map Xo 3)∧yB w w':=by
 have ht:=underlying211;have hk:=underlying73;have hb0:(w.alloc (.map #[] 0)).heap[w.heap.size]? =some (.map #[] 0):=heap_alloc_new _ _;have b0:=af w (.map #[] 0);have e0:=run_makeMap (P:=Tryz.prog) 211 w;obtain⟨W1,e1,hb1,b1⟩:=sS ht hk hb0 (Nat.le_refl _) b0 1 (yi 4) rfl;obtain⟨W2,e2,hb2,b2⟩:=sS ht hk hb1 (Nat.le_refl _) b1 2 (yi 1) rfl;obtain⟨W3,e3,hb3,b3⟩:=sS ht hk hb2 (Nat.le_refl _) b2 3 (yi 5) rfl;have HB:Hid (W3.heap[w.heap.size]? =some (.map Xo 3)):=hb3;clear hb1 hb2 hb3 b1 b2 ht hk hb0
 go_enter func142,ntmps142
 go_wp2
 go_ret
 exact⟨rfl,HB.out,b3⟩
def AZ (f:Int):Int:=if f=1 then 4 else if f=2 then 1 else 5
theorem A5 (f:Int)(hf:f=1∨f=2∨f=3)(w:World):yC 97 #[yi f] w (yR w (yi (AZ f))):=by
 have HN:Hid _:=JQ;have HL:Hid (∀W r,W.heap[r]? =some (.map Xo 3)→(Instr.lookup 211 (.map (some r)) (yi f) false).run Tryz.prog W= .ok (yi (AZ f)) W):=fun W r hm=>by
  rcases hf with rfl|rfl|rfl
  ·exact pj underlying211 underlying73 hm 1 (i:=0) rfl
  ·exact pj underlying211 underlying73 hm 2 (i:=1) rfl
  ·exact pj underlying211 underlying73 hm 3 (i:=2) rfl
 generalize AZ f=c at*;clear hf
 go_enter func97,ntmps97
 go_wp2_with fail
 refine(HN.out _).mono ?_;rintro z w1 ⟨rfl,hm,b1⟩;have hl:=HL.out w1 _ hm;clear hm HL HN
 go_wp2
 go_ret
 exact⟨rfl,b1⟩
def aaV (wy:Int)(ng:Bool):Bool:=if wy=1∨wy=2 then true else if wy=4 then !ng else(ng&&decide (wy=5))
theorem CT (n wy fam R D L G:Int)(gr ng:Bool)(hw:1≤wy∧wy≤5)(w:World):yC 146 #[ykV n wy fam R D L G gr,.bool ng] w (yR w (.bool (aaV wy ng))):=by
 have h5:wy=1∨wy=2∨wy=3∨wy=4∨wy=5:=by omega
 have b0:=af w (.cells (ykA n wy fam R D L G gr) 121);clear hw
 rcases h5 with rfl|rfl|rfl|rfl|rfl
 all_goals
  cases ng
  all_goals
   go_enter func146,ntmps146
   go_wp2
   go_ret
   exact⟨rfl,b0⟩
theorem It (n wy fam R D L G c p fl er:Int)(gr ng:Bool)(ao:Option Addr)(la ca:Nat)(st:ByteArray)(w:World)
  (HE:yH w 47 #[yi n,yvV c ng (.slice ao la ca) p] (.tuple #[.string st,yi er])):
  yC 59 #[ykV n wy fam R D L G gr,yvV c ng (.slice ao la ca) p,yi fl] w (yR w (if er=0 then .tuple #[.string st,yi fl,yi 0] else .tuple #[.string ⟨#[]⟩,yi 0,yi er])):=by
 replace HE:Hid _:=HE;have ad:=af w (.cells (ykA n wy fam R D L G gr) 121);have av:=af (w.alloc (.cells (ykA n wy fam R D L G gr) 121)) (.cells (yvA c ng (.slice ao la ca) p) 48);have d0:=(ah w (ykL n wy fam R D L G gr) 121).l av;have v0:=ah (w.alloc (.cells (ykA n wy fam R D L G gr) 121)) (yvL c ng (.slice ao la ca) p) 48;rw[World.size_alloc] at v0;have b0:=aa ad av;clear ad av
 by_cases he:er=0
 ·rw[if_pos he]
  subst he
  go_enter func59,ntmps59
  go_upto_region 1 with fail
  generalize(w.alloc (.cells (ykA n wy fam R D L G gr) 121)).alloc (.cells (yvA c ng (.slice ao la ca) p) 48)=W0 at d0 v0 b0⊢;have y0:=d0.c 0 rfl;obtain⟨x0,x1,x2,x3⟩:=v0.cs4
  go_wp2_with fail
  refine(HE.out _ b0).mono ?_;rintro z w1 ⟨rfl,b1⟩;have b01:=aa b0 b1
  go_wp2
  go_ret3
  exact⟨rfl,b01⟩
 ·rw[if_neg he]
  have hef:(er==0)=false:=by simpa using he
  go_enter func59,ntmps59
  go_upto_region 1 with fail
  generalize(w.alloc (.cells (ykA n wy fam R D L G gr) 121)).alloc (.cells (yvA c ng (.slice ao la ca) p) 48)=W0 at d0 v0 b0⊢;have y0:=d0.c 0 rfl;obtain⟨x0,x1,x2,x3⟩:=v0.cs4
  go_wp2_with fail
  refine(HE.out _ b0).mono ?_;rintro z w1 ⟨rfl,b1⟩;have b01:=aa b0 b1;clear he
  go_wp2
  go_ret3
  exact⟨rfl,b01⟩
theorem Kh (k:Nat)(zs:List Nat)(i:Nat)(hk:zs.length=szN k)(hi:i<zs.length):(jT k zs).getD i 0=zs.getD (plN k i) 0:=by
 unfold jT plN
 by_cases h3:k=3
 ·rw[if_pos h3,if_pos h3,List.getD_eq_getElem?_getD,List.getElem?_reverse hi,←List.getD_eq_getElem?_getD,hk]
 ·rw[if_neg h3,if_neg h3]
  by_cases h6:6≤k
  ·rw[if_pos h6,if_pos h6,Fl zs i hi]
  ·rw[if_neg h6,if_neg h6]
theorem CW (R D L G:Int)(gr ng:Bool)(ao:Option Addr)(la ca:Nat)(p:Int)(w:World)(h: -1000000≤(ai R:Int)*p∧(ai R:Int)*p≤1000000):
  yC 162 #[ygV R D L G gr,.bool ng,.agg #[.slice ao la ca,yi p]] w (yR w (ydV ng (.slice ao la ca) ((ai R:Int)*p))):=by
 refine Zq R D L G gr ng ao la ca p (ai R) w (IntWalk.i64_in _ ⟨by omega,by omega⟩) (fun w1=> ?_)
 have:=tY R D L G gr w1
 rwa [jf] at this
theorem qj {R D L G:Int}{gr:Bool}{d:Nat}{p:Int}(hg:bk R D L G=0)(h:ia R D L G gr d p):
  (Dg.dg 4294967296 d).length≤15∧ -17000≤p∧p≤17000∧ -17000≤(ai R:Int)*p∧(ai R:Int)*p≤17000∧tz d≤480:=by
 obtain⟨hR,d1,d2,l1,l2,g1,g2,lg,l16⟩:=cB hg
 rcases h with⟨rfl,rfl⟩| ⟨h0,h1,h2,h3,-⟩
 ·refine⟨Nat.zero_le _,by omega,by omega,by simp,by simp, ?_⟩
  exact Nat.le_trans (gZ 0 0 (Nat.le_refl _)) (by omega)
 ·have hw:=Nat.mul_le_mul (eN R).2 (show D.toNat≤120 by omega)
  have hl:(Dg.dg 4294967296 d).length≤15:=jq h3 (by omega);have:=gZ d 15 hl;refine⟨hl,by omega,by omega, ?_, ?_,by omega⟩<;>(unfold ai;split<;>simp<;>omega)
theorem ME {k:Nat}(hk:1≤k∧k≤8)(zs:List Nat)(hl:zs.length=szN k):jT k (jT k zs)=zs:=by
 apply List.ext_getElem (by rw[nM,nM]);intro p hp1 hp2;have e1:(jT k (jT k zs)).getD p 0=(jT k (jT k zs))[p]:=by simp only[List.getD_eq_getElem?_getD,List.getElem?_eq_getElem hp1,Option.getD_some]
 have e2:zs.getD p 0=zs[p]:=by simp only[List.getD_eq_getElem?_getD,List.getElem?_eq_getElem hp2,Option.getD_some]
 have hp:p<szN k:=by omega
 rw[←e1,←e2,Kh k _ p (by rw[nM];exact hl) (by rw[nM];exact hp2),Kh k zs _ hl (by rw[hl];exact Co hk hp),xU hk hp]
theorem zk (bf:Nat→Bool)(m f:Nat): ∀n,f+n≤8*m→eH (byL bf m) f n=jY (fun j=>bf (f+j)) n
 |0,_=>rfl
 |n+1,h=>by
  rw[eH,jY,zk bf m f n (by omega),XS bf m (f+n) (by omega)];omega
theorem Uh (bf:Nat→Bool)(n:Nat):Dg.Small 256 (byL bf n):=by
 intro i
 by_cases h:i<n
 ·rw[JB bf n i h]
  exact DZ _ 8
 ·rw[List.getD_eq_getElem?_getD,List.getElem?_eq_none (by rw[xT];omega)]
  simp
theorem Kr {k:Nat}(hk:1≤k∧k≤8)(ng:Bool)(e f:Nat):wG k (cF (kU k ng e f))=byL (Eb (exN k) (frN k) ng e f) (szN k):=by
 unfold wG;rw[xP hk,Hm _ (xi k _ (Uh _ _)),ME hk _ (xT _ _)]
theorem mS {k:Nat}(hk:1≤k∧k≤8)(ng:Bool)(e f:Nat):
  aZ k (cF (kU k ng e f))=ng∧aR k (cF (kU k ng e f))=e % 2^exN k∧aU k (cF (kU k ng e f))=f % 2^frN k∧(cF (kU k ng e f)).size=szN k:=by
 obtain⟨h1,h2,h3,h4,-,h7⟩:=fZ hk;unfold aZ aR aU;rw[Kr hk];refine⟨?_, ?_, ?_, ?_⟩
 ·rw[zk _ _ _ _ (by omega)]
  simp only[jY,Eb]
  cases ng<;>simp
 ·rw[zk _ _ _ _ (by omega),←Fu (exN k) e]
  refine nz _ (fun j hj=> ?_)
  unfold Eb;rw[if_neg (by omega),if_pos (show 1+j≤exN k by omega),show exN k-(1+j)=exN k-1-j from by omega]
 ·rw[zk _ _ _ _ (by omega),←Fu (frN k) f]
  refine nz _ (fun j hj=> ?_)
  unfold Eb;rw[if_neg (by omega),if_neg (show¬1+exN k+j≤exN k by omega),show exN k+frN k-(1+exN k+j)=frN k-1-j from by omega]
 ·rw[fS,Mx]
theorem abR (n:Int)(R sz ex:Nat)(D L G fam:Int)(gr:Bool)(F:Nat)(ng:Bool)(e f:Nat)(c:Int)(s:ByteArray)(w:World)
  (HR:yJ 53 #[yi n,.string s] (.tuple #[ylV R D L G gr sz ex fam F,yfV ng e f,yi 0]))
  (HC:yJ 96 #[ylV R D L G gr sz ex fam F,yfV ng e f] (yi c)):
  yC 51 #[yi n,.string s] w (yR w (.tuple #[yi c,.bool ng,yi 0])):=by
 have hsf:=cD;have HR':Hid _:=HR;have HC':Hid _:=HC;clear HR HC
 go_enter func51,ntmps51
 go_wp2_with fail
 refine(HR'.out _).mono ?_;rintro z w1 ⟨rfl,b1⟩;have bl:=af w1 (.cells (ylA R D L G gr sz ex fam F) 110);have bf:=af (w1.alloc (.cells (ylA R D L G gr sz ex fam F) 110)) (.cells (yfA ng e f) 112);have l0:=((ah w1 (ylL R D L G gr sz ex fam F) 110).l bf).drew;have m0:=(ah (w1.alloc (.cells (ylA R D L G gr sz ex fam F) 110)) (yfL ng e f) 112).drew;rw[World.size_alloc] at m0;have b0:=(aa (aa b1 bl) bf).drew;obtain⟨x0,x1,x2,x3,x4,x5,x6,x7,x8⟩:=l0.cs9;obtain⟨u0,u1,u2⟩:=m0.cs3
 go_wp2_with fail
 go_region_held3 (fun wq=>(wq.cell? ⟨w1.heap.size,0,none⟩=some (yi R)∧wq.cell? ⟨w1.heap.size,1,none⟩=some (yi D)∧wq.cell? ⟨w1.heap.size,2,none⟩=some (yi L)∧wq.cell? ⟨w1.heap.size,3,none⟩=some (yi G)∧wq.cell? ⟨w1.heap.size,4,none⟩=some (.bool gr)∧wq.cell? ⟨w1.heap.size,5,none⟩=some (yi sz)∧wq.cell? ⟨w1.heap.size,6,none⟩=some (yi ex)∧wq.cell? ⟨w1.heap.size,7,none⟩=some (yi fam)∧wq.cell? ⟨w1.heap.size,8,none⟩=some (.func (.func F) #[] #[]))∧(wq.cell? ⟨w1.heap.size+1,0,none⟩=some (.bool ng)∧wq.cell? ⟨w1.heap.size+1,1,none⟩=some (yi e)∧wq.cell? ⟨w1.heap.size+1,2,none⟩=some (.int .u64 f))) (go_keep) (first
  | (go_at_call 96;refine(HC'.out _).mono ?_;rintro z w2 ⟨rfl,b2⟩;have l2:=l0.l b2;have m2:=m0.l b2;have b02:=aa b0 b2;obtain⟨y0,y1,y2,y3,y4,y5,y6,y7,y8⟩:=l2.cs9;obtain⟨v0,v1,v2⟩:=m2.cs3))
 all_goals go_wp2
 all_goals go_ret3
 all_goals exact⟨rfl,b02⟩
theorem Va {k:Nat}(hk:1≤k∧k≤8){ng:Bool}{E F:Nat}(hE:E<2^exN k)(hF:F<2^frN k)(hF64:F<2^64)(hc:dh k ng E F=2)(hr:rdN k=2):
  ge k ng E F=(ji k ng E F).n∧gw k ng E F=(ji k ng E F).e:=by
 rw[iq hk hE hF hc];unfold ge gw;rw[if_pos hc,if_pos hc,hr];have h0:=jX hc;have hl:=vS hk E hF64;generalize iI k E F=D at*;generalize ii k E=P at*;obtain⟨m,hm⟩:=fO (n:=D) (by omega);have hd:=lI hm;have hs:=FZ 2 (by omega) (tz D) 64 (2*m+1) P (by omega) (by rw[←hm];exact hl);rw[←hm] at hs;rw[hs];unfold bare;rw[if_neg (by show¬D=0;omega)]
 refine⟨hd.symm, ?_⟩
 show P+(tz D:Int)=wdI ((2:Nat):Int)*P+(tz D:Int)
 rw[show wdI ((2:Nat):Int)=1 from by decide,Int.one_mul]
theorem QM (n wy fam R D L G:Int)(gr ng:Bool)(r pw:Nat)(w:World)(hR:IntKind.u32.wrap R=(r:Int))
  (HP: ∀q w1,yB w w1→w1.cell? ⟨q,0,none⟩=some (.int .u32 r)→yC 81 #[.slice (some ⟨q,0,none⟩) 1 1,yi D] w1 (Num w1 pw))
  (HM: ∀vo vc q w1,Rd w1 .u32 (yT vo pw vc) (Dg.dg 4294967296 pw)→w1.cell? ⟨q,0,none⟩=some (.int .u32 1)→yC 175 #[yT vo pw vc,.slice (some ⟨q,0,none⟩) 1 1] w1 (Num w1 (pw-1))):
  yC 147 #[ykV n wy fam R D L G gr,.bool ng] w (iT w 2 ng (pw-1) G):=by
 replace HP:Hid _:=HP;replace HM:Hid _:=HM;have ad:=af w (.cells (ykA n wy fam R D L G gr) 121);have av:=af (w.alloc (.cells (ykA n wy fam R D L G gr) 121)) (.cells (yvA 0 false yN 0) 48);have d0:=(ah w (ykL n wy fam R D L G gr) 121).l av;have v0:=ah (w.alloc (.cells (ykA n wy fam R D L G gr) 121)) (yvL 0 false yN 0) 48;rw[World.size_alloc] at v0;have b0:=aa ad av;clear ad av
 go_enter func147,ntmps147
 go_upto_region 1 with fail
 generalize(w.alloc (.cells (ykA n wy fam R D L G gr) 121)).alloc (.cells (yvA 0 false yN 0) 48)=W0 at d0 v0 b0⊢;have y3:=d0.c 3 rfl;have y4:=d0.c 4 rfl;have al:=af W0 (.cells #[.int .u32 r] 54);have hc:=(ah W0 [.int .u32 r] 54).c 0 rfl;have d1:=d0.l al;have v1:=v0.l al;have b01:=aa b0 al;have z3:=d1.c 3 rfl;have z4:=d1.c 4 rfl;clear al
 go_wp2_with fail
 refine(HP.out _ _ b01 hc).mono ?_;rintro z w2 ⟨u,rfl,o2,b2⟩;obtain⟨vo,vc,hu⟩:=o2.rd.shape;subst hu;have r2:=o2.rd;have d2:=d1.l b2;have v2:=v1.l b2;have b02:=aa b01 b2;clear y3 y4 z3 z4 hc d0 v0 b0 d1 v1 b01 b2 o2 HP hR
 go_upto_region 2 with fail
 have bW:yB w2 w2.drew:=(Below.refl _ _).drew;have d3:=d2.l bW;have v3:=v2.l bW;have r3:=r2.l bW;have b03:=aa b02 bW;clear bW d2 v2 r2 b02;refine wp_region_held_drew (S:=fun wq=>wq.cell? ⟨w.heap.size,6,none⟩=some (yi G)) (by kernel_rfl) (d3.c 6 rfl) (fun hS0=> ?_)
 refine tq 0 (.bool ng) rfl (fun w0 _=>by kernel_rfl) hS0 ?_
 refine tq 1 (yT vo pw vc) rfl (fun w0 _=>by kernel_rfl) hS0 ?_
 refine tq 4 (.pointer (some ⟨w.heap.size,3,none⟩)) rfl (fun w0 _=>by kernel_rfl) hS0 ?_
 refine tq 5 (.pointer (some ⟨w.heap.size,6,none⟩)) rfl (fun w0 _=>by kernel_rfl) hS0 ?_
 refine tq 6 (yi G) rfl (fun w0 hw0=>gU 3 (.tmp 20) rfl w.heap.size 6 (by kernel_rfl) _ _ underlying3 rfl hw0) hS0 ?_
 refine wpAnyH_ready (rs:=[2]) (by kernel_rfl) (by simp) ?_;refine AllReadyH.cons rfl (fun K hK=> ?_) AllReadyH.nil
 go_simp
 have al:=af w2.drew (.cells #[.int .u32 1] 54);have hc:=(ah w2.drew [.int .u32 1] 54).c 0 rfl;have d4:=d3.l al;have v4:=v3.l al;have r4:=r3.l al;have b04:=aa b03 al;refine hK.out _ _ (d4.c 6 rfl) (fun hS2=> ?_)
 clear hK K al d3 v3 r3 b03;refine wpAnyH_ready (rs:=[3]) (by kernel_rfl) (by simp) ?_;refine AllReadyH.cons rfl (fun K hK=> ?_) AllReadyH.nil
 go_simp
 refine(HM.out _ _ _ _ r4 hc).mono ?_;rintro z w5 ⟨u,rfl,o5,b5⟩;obtain⟨mo,mc,hu⟩:=o5.rd.shape;subst hu;have r5:=o5.rd;have d5:=d4.l b5;have v5:=v4.l b5;have b05:=aa b04 b5;refine hK.out _ _ (d5.c 6 rfl) (fun hS3=> ?_)
 clear hK K d4 v4 r4 b04 b5 o5 hc;have bu:=(((ag w5 (w.heap.size+1) 0 (yi 2)).trans (ag _ (w.heap.size+1) 1 (.bool ng))).trans (ag _ (w.heap.size+1) 2 (.slice mo (Dg.dg 4294967296 (pw-1)).length mc))).trans (ag _ (w.heap.size+1) 3 (yi G));have bR:yB w (w5.setCells (w.heap.size+1) 0 (yvL 2 ng (.slice mo (Dg.dg 4294967296 (pw-1)).length mc) G)):=bu.below b05 (by omega);have rR:Rd (w5.setCells (w.heap.size+1) 0 (yvL 2 ng (.slice mo (Dg.dg 4294967296 (pw-1)).length mc) G)) .u32 (.slice mo (Dg.dg 4294967296 (pw-1)).length mc) (Dg.dg 4294967296 (pw-1)):=bu.rd r5 (aX r5 v5 (by simp));have hth:w5.there (w.heap.size+1) 0 4:=dD v5;have hl:=run_loadVar_mid (P:=Tryz.prog) _ (w.heap.size+1) 0 48 (yvL 2 ng (.slice mo (Dg.dg 4294967296 (pw-1)).length mc) G) _ (World.rangeAt_setCells_same w5 (w.heap.size+1) 0 (yvL 2 ng (.slice mo (Dg.dg 4294967296 (pw-1)).length mc) G) hth) underlying48 rfl (by kernel_rfl);have HH:Hid (_∧_∧_):=⟨hl,rR,bR⟩;clear hl rR bR bu;refine tq 7 ((yvV 2 ng (.slice mo (Dg.dg 4294967296 (pw-1)).length mc) G)) rfl (fun w0 _=>by kernel_rfl) hS3 ?_
 refine wpAnyH_ready (rs:=[8]) (by kernel_rfl) (by simp) ?_;refine AllReadyH.cons rfl (fun K hK=> ?_) AllReadyH.nil
 rw[if_pos (by kernel_rfl)];refine wp_store_mid 48 (.tmp 4) (.tmp 22) rfl (w.heap.size+1) 0 (yvA 2 ng (.slice mo (Dg.dg 4294967296 (pw-1)).length mc) G) (by kernel_rfl) (by kernel_rfl) hth (by kernel_rfl) (by simp[Value.oneCell']) ?_;refine hK.out _ _ ?_ (fun hS8=> ?_)
 ·have hbu:But (w.heap.size+1) w5 (w5.setCells (w.heap.size+1) 0 (yvL 2 ng (.slice mo (Dg.dg 4294967296 (pw-1)).length mc) G)):=de _ _ _ _
  exact(hbu.loc d5 (by omega)).c 6 rfl
 clear hK K;refine wpAnyH_done (by kernel_rfl) ?_ _;obtain⟨hl,rR,bR⟩:=HH.out;clear HH hS0 hS2 hS3 hS8 d5 v5 r5 b05 hth HM;change Exit.then _ _ _ _ (World.setCells w5 (w.heap.size+1) 0 (yvL 2 ng (.slice mo (Dg.dg 4294967296 (pw-1)).length mc) G));generalize World.setCells w5 (w.heap.size+1) 0 (yvL 2 ng (.slice mo (Dg.dg 4294967296 (pw-1)).length mc) G)=WE at hl rR bR⊢
 go_wp2
 exact bodyPost_ret (br results147 rfl hl) rfl ⟨_,rfl,rR,bR⟩
theorem Id (n wy fam R D L G pw:Int)(gr ng ex un:Bool)(ao:Option Addr)(la ca:Nat)(m:Nat)(w:World)(hla:la=(Dg.dg 4294967296 m).length)(hr:Rd w .u32 (.slice ao la ca) (Dg.dg 4294967296 m))(hlt:un=true→ ¬pw<L)(cl fl:Int)(hcl:cl=if la=0 then 1 else 2)(hfl:fl=if ex=true then 0 else if un=true then 3 else 1):
  yC 60 #[ykV n wy fam R D L G gr,ypV ng (.slice ao la ca) pw ex false un] w (B6 w cl ng m pw fl):=by
 have HE:Hid (la=(Dg.dg 4294967296 m).length∧cl=(if la=0 then 1 else 2)∧fl=if ex=true then 0 else if un=true then 3 else 1):=⟨hla,hcl,hfl⟩
 clear hcl hfl hla;have a1:=af w (.cells (ykA n wy fam R D L G gr) 121);have a2:=af (w.alloc (.cells (ykA n wy fam R D L G gr) 121)) (.cells (ypA ng (.slice ao la ca) pw ex false un) 84);have a3:=af ((w.alloc (.cells (ykA n wy fam R D L G gr) 121)).alloc (.cells (ypA ng (.slice ao la ca) pw ex false un) 84)) (.cells (yvA 0 false yN 0) 48);have d0:=((ah w (ykL n wy fam R D L G gr) 121).l a2).l a3;have p0:=(ah (w.alloc (.cells (ykA n wy fam R D L G gr) 121)) (ypL ng (.slice ao la ca) pw ex false un) 84).l a3;have v0:=ah ((w.alloc (.cells (ykA n wy fam R D L G gr) 121)).alloc (.cells (ypA ng (.slice ao la ca) pw ex false un) 84)) (yvL 0 false yN 0) 48;rw[World.size_alloc] at p0;rw[World.size_alloc,World.size_alloc] at v0;have b0:=aa (aa a1 a2) a3;clear a1 a2 a3
 go_enter func60,ntmps60
 go_upto_block 0 with fail
 generalize((w.alloc (.cells (ykA n wy fam R D L G gr) 121)).alloc (.cells (ypA ng (.slice ao la ca) pw ex false un) 84)).alloc (.cells (yvA 0 false yN 0) 48)=W0 at d0 p0 v0 b0⊢;have r0:=hr.l b0;clear hr;have al:=af W0 (.cells (yvA 2 ng (.slice ao la ca) pw) 48);have q1:=ah W0 (yvL 2 ng (.slice ao la ca) pw) 48;have p1:=p0.l al;have v1:=v0.l al;have r1:=r0.l al;have b1:=aa b0 al;have hq:w.heap.size+1+1<W0.heap.size:=v0.lt;have hne:W0.heap.size≠w.heap.size+1:=by omega
 obtain⟨x0,x1,x2,x3,x4,x5⟩:=p0.cs6;have y5:=d0.c 5 rfl;clear al p0 v0 b0 r0;have go: ∀UU,UU=un→(UU=false∨(UU=true∧ ¬pw<L)):=fun UU h=>by
  subst h
  cases UU
  ·exact .inl rfl
  ·exact .inr ⟨rfl,hlt rfl⟩
 rcases go un rfl with hun| ⟨hun,hl0⟩
 ·subst hun
  clear hlt go
  go_upto_region 6 with fail
  generalize W0.alloc (.cells (yvA 2 ng (.slice ao la ca) pw) 48)=WA at q1 p1 v1 r1 b1⊢;generalize W0.heap.size=Q at q1 hq hne⊢;clear x0 x1 x2 x3 x4 x5 y5 d0;obtain⟨x0,x1,x2,x3,x4,x5⟩:=p1.cs6
  by_cases hz:la=0
  ·have hz1:(((la:Nat):Int)==0)=true:=by rw[hz];rfl
   have hcl:cl=1:=by rw[HE.out.2.1,if_pos hz]
   subst hcl;clear hz;have c0:=q1.c 0 rfl;have f0:=q1.f 0;have bq:=ag WA Q 0 (yi 1);have q2:au (WA.setCell ⟨Q,0,none⟩ (yi 1)) Q 48 (yvL 1 ng (.slice ao la ca) pw):=q1.set 0 (yi 1);have p2:=bq.loc p1 (by omega);have v2:=bq.loc v1 (by omega);have r2:=bq.rd r1 (aX r1 q1 (by simp));have b2:=bq.below b1 (by omega)
   go_upto_block 1 with fail
   generalize WA.setCell ⟨Q,0,none⟩ (yi 1)=W1 at q2 p2 v2 r2 b2⊢;clear c0 f0 bq q1 p1 v1 r1 b1 x0 x1 x2 x3 x4 x5 hz1;obtain⟨x0,x1,x2,x3,x4,x5⟩:=p2.cs6;clear p2
   cases ex
   ·have hfl:fl=1:=HE.out.2.2
    subst hfl;clear HE;have cR:au ((((W1.setCell ⟨w.heap.size+1+1,0,none⟩ (yi 1)).setCell ⟨w.heap.size+1+1,1,none⟩ (.bool ng)).setCell ⟨w.heap.size+1+1,2,none⟩ (.slice ao la ca)).setCell ⟨w.heap.size+1+1,3,none⟩ (yi pw)) (w.heap.size+1+1) 48 (yvL 1 ng (.slice ao la ca) pw):=((((v2.set 0 (yi 1)).set 1 (.bool ng)).set 2 (.slice ao la ca)).set 3 (yi pw));have bu:=(((ag W1 (w.heap.size+1+1) 0 (yi 1)).trans (ag _ (w.heap.size+1+1) 1 (.bool ng))).trans (ag _ (w.heap.size+1+1) 2 (.slice ao la ca))).trans (ag _ (w.heap.size+1+1) 3 (yi pw));have bR:=bu.below b2 (by omega);have rR:=bu.rd r2 (aX r2 v2 (by simp));have hl:=run_loadVar_mid (P:=Tryz.prog) _ (w.heap.size+1+1) 0 48 (yvL 1 ng (.slice ao la ca) pw) _ cR.range underlying48 rfl (by kernel_rfl);have HH:Hid (_∧_∧_):=⟨hl,rR,bR⟩;obtain⟨z0,z1,z2,z3⟩:=v2.cs4;have fz0:=v2.f 0;have fz1:=v2.f 1;have fz2:=v2.f 2;have fz3:=v2.f 3;clear hl bR bu cR rR;obtain⟨k0,k1,k2,k3⟩:=q2.cs4;clear v2 b2 r2 q2
    go_wp2
    obtain⟨hl,rR,bR⟩:=HH.out;exact bodyPost_ret (aj results60 rfl rfl hl) rfl ⟨_,rfl,rR,bR⟩
   ·have hfl:fl=0:=HE.out.2.2
    subst hfl;clear HE;have cR:au ((((W1.setCell ⟨w.heap.size+1+1,0,none⟩ (yi 1)).setCell ⟨w.heap.size+1+1,1,none⟩ (.bool ng)).setCell ⟨w.heap.size+1+1,2,none⟩ (.slice ao la ca)).setCell ⟨w.heap.size+1+1,3,none⟩ (yi pw)) (w.heap.size+1+1) 48 (yvL 1 ng (.slice ao la ca) pw):=((((v2.set 0 (yi 1)).set 1 (.bool ng)).set 2 (.slice ao la ca)).set 3 (yi pw));have bu:=(((ag W1 (w.heap.size+1+1) 0 (yi 1)).trans (ag _ (w.heap.size+1+1) 1 (.bool ng))).trans (ag _ (w.heap.size+1+1) 2 (.slice ao la ca))).trans (ag _ (w.heap.size+1+1) 3 (yi pw));have bR:=bu.below b2 (by omega);have rR:=bu.rd r2 (aX r2 v2 (by simp));have hl:=run_loadVar_mid (P:=Tryz.prog) _ (w.heap.size+1+1) 0 48 (yvL 1 ng (.slice ao la ca) pw) _ cR.range underlying48 rfl (by kernel_rfl);have HH:Hid (_∧_∧_):=⟨hl,rR,bR⟩;obtain⟨z0,z1,z2,z3⟩:=v2.cs4;have fz0:=v2.f 0;have fz1:=v2.f 1;have fz2:=v2.f 2;have fz3:=v2.f 3;clear hl bR bu cR rR;obtain⟨k0,k1,k2,k3⟩:=q2.cs4;clear v2 b2 r2 q2
    go_wp2
    obtain⟨hl,rR,bR⟩:=HH.out;exact bodyPost_ret (aj results60 rfl rfl hl) rfl ⟨_,rfl,rR,bR⟩
  ·have hz1:(((la:Nat):Int)==0)=false:=beq_eq_false_iff_ne.2 (by omega)
   have hcl:cl=2:=by rw[HE.out.2.1,if_neg hz]
   subst hcl;clear hz
   go_upto_block 1 with fail
   have q2:=q1;have v2:=v1;have r2:=r1;have b2:=b1;clear q1 v1 r1 b1 p1 hz1;generalize WA=W1 at*
   cases ex
   ·have hfl:fl=1:=HE.out.2.2
    subst hfl;clear HE;have cR:au ((((W1.setCell ⟨w.heap.size+1+1,0,none⟩ (yi 2)).setCell ⟨w.heap.size+1+1,1,none⟩ (.bool ng)).setCell ⟨w.heap.size+1+1,2,none⟩ (.slice ao la ca)).setCell ⟨w.heap.size+1+1,3,none⟩ (yi pw)) (w.heap.size+1+1) 48 (yvL 2 ng (.slice ao la ca) pw):=((((v2.set 0 (yi 2)).set 1 (.bool ng)).set 2 (.slice ao la ca)).set 3 (yi pw));have bu:=(((ag W1 (w.heap.size+1+1) 0 (yi 2)).trans (ag _ (w.heap.size+1+1) 1 (.bool ng))).trans (ag _ (w.heap.size+1+1) 2 (.slice ao la ca))).trans (ag _ (w.heap.size+1+1) 3 (yi pw));have bR:=bu.below b2 (by omega);have rR:=bu.rd r2 (aX r2 v2 (by simp));have hl:=run_loadVar_mid (P:=Tryz.prog) _ (w.heap.size+1+1) 0 48 (yvL 2 ng (.slice ao la ca) pw) _ cR.range underlying48 rfl (by kernel_rfl);have HH:Hid (_∧_∧_):=⟨hl,rR,bR⟩;obtain⟨z0,z1,z2,z3⟩:=v2.cs4;have fz0:=v2.f 0;have fz1:=v2.f 1;have fz2:=v2.f 2;have fz3:=v2.f 3;clear hl bR bu cR rR;obtain⟨k0,k1,k2,k3⟩:=q2.cs4;clear v2 b2 r2 q2
    go_wp2
    obtain⟨hl,rR,bR⟩:=HH.out;exact bodyPost_ret (aj results60 rfl rfl hl) rfl ⟨_,rfl,rR,bR⟩
   ·have hfl:fl=0:=HE.out.2.2
    subst hfl;clear HE;have cR:au ((((W1.setCell ⟨w.heap.size+1+1,0,none⟩ (yi 2)).setCell ⟨w.heap.size+1+1,1,none⟩ (.bool ng)).setCell ⟨w.heap.size+1+1,2,none⟩ (.slice ao la ca)).setCell ⟨w.heap.size+1+1,3,none⟩ (yi pw)) (w.heap.size+1+1) 48 (yvL 2 ng (.slice ao la ca) pw):=((((v2.set 0 (yi 2)).set 1 (.bool ng)).set 2 (.slice ao la ca)).set 3 (yi pw));have bu:=(((ag W1 (w.heap.size+1+1) 0 (yi 2)).trans (ag _ (w.heap.size+1+1) 1 (.bool ng))).trans (ag _ (w.heap.size+1+1) 2 (.slice ao la ca))).trans (ag _ (w.heap.size+1+1) 3 (yi pw));have bR:=bu.below b2 (by omega);have rR:=bu.rd r2 (aX r2 v2 (by simp));have hl:=run_loadVar_mid (P:=Tryz.prog) _ (w.heap.size+1+1) 0 48 (yvL 2 ng (.slice ao la ca) pw) _ cR.range underlying48 rfl (by kernel_rfl);have HH:Hid (_∧_∧_):=⟨hl,rR,bR⟩;obtain⟨z0,z1,z2,z3⟩:=v2.cs4;have fz0:=v2.f 0;have fz1:=v2.f 1;have fz2:=v2.f 2;have fz3:=v2.f 3;clear hl bR bu cR rR;obtain⟨k0,k1,k2,k3⟩:=q2.cs4;clear v2 b2 r2 q2
    go_wp2
    obtain⟨hl,rR,bR⟩:=HH.out;exact bodyPost_ret (aj results60 rfl rfl hl) rfl ⟨_,rfl,rR,bR⟩
 ·subst hun
  clear hlt go
  go_upto_region 6 with fail
  generalize W0.alloc (.cells (yvA 2 ng (.slice ao la ca) pw) 48)=WA at q1 p1 v1 r1 b1⊢;generalize W0.heap.size=Q at q1 hq hne⊢;clear x0 x1 x2 x3 x4 x5 y5 d0;obtain⟨x0,x1,x2,x3,x4,x5⟩:=p1.cs6
  by_cases hz:la=0
  ·have hz1:(((la:Nat):Int)==0)=true:=by rw[hz];rfl
   have hcl:cl=1:=by rw[HE.out.2.1,if_pos hz]
   subst hcl;clear hz;have c0:=q1.c 0 rfl;have f0:=q1.f 0;have bq:=ag WA Q 0 (yi 1);have q2:au (WA.setCell ⟨Q,0,none⟩ (yi 1)) Q 48 (yvL 1 ng (.slice ao la ca) pw):=q1.set 0 (yi 1);have p2:=bq.loc p1 (by omega);have v2:=bq.loc v1 (by omega);have r2:=bq.rd r1 (aX r1 q1 (by simp));have b2:=bq.below b1 (by omega)
   go_upto_block 1 with fail
   generalize WA.setCell ⟨Q,0,none⟩ (yi 1)=W1 at q2 p2 v2 r2 b2⊢;clear c0 f0 bq q1 p1 v1 r1 b1 x0 x1 x2 x3 x4 x5 hz1;obtain⟨x0,x1,x2,x3,x4,x5⟩:=p2.cs6;clear p2
   cases ex
   ·have hfl:fl=3:=HE.out.2.2
    subst hfl;clear HE;have cR:au ((((W1.setCell ⟨w.heap.size+1+1,0,none⟩ (yi 1)).setCell ⟨w.heap.size+1+1,1,none⟩ (.bool ng)).setCell ⟨w.heap.size+1+1,2,none⟩ (.slice ao la ca)).setCell ⟨w.heap.size+1+1,3,none⟩ (yi pw)) (w.heap.size+1+1) 48 (yvL 1 ng (.slice ao la ca) pw):=((((v2.set 0 (yi 1)).set 1 (.bool ng)).set 2 (.slice ao la ca)).set 3 (yi pw));have bu:=(((ag W1 (w.heap.size+1+1) 0 (yi 1)).trans (ag _ (w.heap.size+1+1) 1 (.bool ng))).trans (ag _ (w.heap.size+1+1) 2 (.slice ao la ca))).trans (ag _ (w.heap.size+1+1) 3 (yi pw));have bR:=bu.below b2 (by omega);have rR:=bu.rd r2 (aX r2 v2 (by simp));have hl:=run_loadVar_mid (P:=Tryz.prog) _ (w.heap.size+1+1) 0 48 (yvL 1 ng (.slice ao la ca) pw) _ cR.range underlying48 rfl (by kernel_rfl);have HH:Hid (_∧_∧_):=⟨hl,rR,bR⟩;obtain⟨z0,z1,z2,z3⟩:=v2.cs4;have fz0:=v2.f 0;have fz1:=v2.f 1;have fz2:=v2.f 2;have fz3:=v2.f 3;clear hl bR bu cR rR;obtain⟨k0,k1,k2,k3⟩:=q2.cs4;clear v2 b2 r2 q2
    go_wp2
    obtain⟨hl,rR,bR⟩:=HH.out;exact bodyPost_ret (aj results60 rfl rfl hl) rfl ⟨_,rfl,rR,bR⟩
   ·have hfl:fl=0:=HE.out.2.2
    subst hfl;clear HE;have cR:au ((((W1.setCell ⟨w.heap.size+1+1,0,none⟩ (yi 1)).setCell ⟨w.heap.size+1+1,1,none⟩ (.bool ng)).setCell ⟨w.heap.size+1+1,2,none⟩ (.slice ao la ca)).setCell ⟨w.heap.size+1+1,3,none⟩ (yi pw)) (w.heap.size+1+1) 48 (yvL 1 ng (.slice ao la ca) pw):=((((v2.set 0 (yi 1)).set 1 (.bool ng)).set 2 (.slice ao la ca)).set 3 (yi pw));have bu:=(((ag W1 (w.heap.size+1+1) 0 (yi 1)).trans (ag _ (w.heap.size+1+1) 1 (.bool ng))).trans (ag _ (w.heap.size+1+1) 2 (.slice ao la ca))).trans (ag _ (w.heap.size+1+1) 3 (yi pw));have bR:=bu.below b2 (by omega);have rR:=bu.rd r2 (aX r2 v2 (by simp));have hl:=run_loadVar_mid (P:=Tryz.prog) _ (w.heap.size+1+1) 0 48 (yvL 1 ng (.slice ao la ca) pw) _ cR.range underlying48 rfl (by kernel_rfl);have HH:Hid (_∧_∧_):=⟨hl,rR,bR⟩;obtain⟨z0,z1,z2,z3⟩:=v2.cs4;have fz0:=v2.f 0;have fz1:=v2.f 1;have fz2:=v2.f 2;have fz3:=v2.f 3;clear hl bR bu cR rR;obtain⟨k0,k1,k2,k3⟩:=q2.cs4;clear v2 b2 r2 q2
    go_wp2
    obtain⟨hl,rR,bR⟩:=HH.out;exact bodyPost_ret (aj results60 rfl rfl hl) rfl ⟨_,rfl,rR,bR⟩
  ·have hz1:(((la:Nat):Int)==0)=false:=beq_eq_false_iff_ne.2 (by omega)
   have hcl:cl=2:=by rw[HE.out.2.1,if_neg hz]
   subst hcl;clear hz
   go_upto_block 1 with fail
   have q2:=q1;have v2:=v1;have r2:=r1;have b2:=b1;clear q1 v1 r1 b1 p1 hz1;generalize WA=W1 at*
   cases ex
   ·have hfl:fl=3:=HE.out.2.2
    subst hfl;clear HE;have cR:au ((((W1.setCell ⟨w.heap.size+1+1,0,none⟩ (yi 2)).setCell ⟨w.heap.size+1+1,1,none⟩ (.bool ng)).setCell ⟨w.heap.size+1+1,2,none⟩ (.slice ao la ca)).setCell ⟨w.heap.size+1+1,3,none⟩ (yi pw)) (w.heap.size+1+1) 48 (yvL 2 ng (.slice ao la ca) pw):=((((v2.set 0 (yi 2)).set 1 (.bool ng)).set 2 (.slice ao la ca)).set 3 (yi pw));have bu:=(((ag W1 (w.heap.size+1+1) 0 (yi 2)).trans (ag _ (w.heap.size+1+1) 1 (.bool ng))).trans (ag _ (w.heap.size+1+1) 2 (.slice ao la ca))).trans (ag _ (w.heap.size+1+1) 3 (yi pw));have bR:=bu.below b2 (by omega);have rR:=bu.rd r2 (aX r2 v2 (by simp));have hl:=run_loadVar_mid (P:=Tryz.prog) _ (w.heap.size+1+1) 0 48 (yvL 2 ng (.slice ao la ca) pw) _ cR.range underlying48 rfl (by kernel_rfl);have HH:Hid (_∧_∧_):=⟨hl,rR,bR⟩;obtain⟨z0,z1,z2,z3⟩:=v2.cs4;have fz0:=v2.f 0;have fz1:=v2.f 1;have fz2:=v2.f 2;have fz3:=v2.f 3;clear hl bR bu cR rR;obtain⟨k0,k1,k2,k3⟩:=q2.cs4;clear v2 b2 r2 q2
    go_wp2
    obtain⟨hl,rR,bR⟩:=HH.out;exact bodyPost_ret (aj results60 rfl rfl hl) rfl ⟨_,rfl,rR,bR⟩
   ·have hfl:fl=0:=HE.out.2.2
    subst hfl;clear HE;have cR:au ((((W1.setCell ⟨w.heap.size+1+1,0,none⟩ (yi 2)).setCell ⟨w.heap.size+1+1,1,none⟩ (.bool ng)).setCell ⟨w.heap.size+1+1,2,none⟩ (.slice ao la ca)).setCell ⟨w.heap.size+1+1,3,none⟩ (yi pw)) (w.heap.size+1+1) 48 (yvL 2 ng (.slice ao la ca) pw):=((((v2.set 0 (yi 2)).set 1 (.bool ng)).set 2 (.slice ao la ca)).set 3 (yi pw));have bu:=(((ag W1 (w.heap.size+1+1) 0 (yi 2)).trans (ag _ (w.heap.size+1+1) 1 (.bool ng))).trans (ag _ (w.heap.size+1+1) 2 (.slice ao la ca))).trans (ag _ (w.heap.size+1+1) 3 (yi pw));have bR:=bu.below b2 (by omega);have rR:=bu.rd r2 (aX r2 v2 (by simp));have hl:=run_loadVar_mid (P:=Tryz.prog) _ (w.heap.size+1+1) 0 48 (yvL 2 ng (.slice ao la ca) pw) _ cR.range underlying48 rfl (by kernel_rfl);have HH:Hid (_∧_∧_):=⟨hl,rR,bR⟩;obtain⟨z0,z1,z2,z3⟩:=v2.cs4;have fz0:=v2.f 0;have fz1:=v2.f 1;have fz2:=v2.f 2;have fz3:=v2.f 3;clear hl bR bu cR rR;obtain⟨k0,k1,k2,k3⟩:=q2.cs4;clear v2 b2 r2 q2
    go_wp2
    obtain⟨hl,rR,bR⟩:=HH.out;exact bodyPost_ret (aj results60 rfl rfl hl) rfl ⟨_,rfl,rR,bR⟩
theorem cread_ok (n wy c p:Int)(g:Bool)(m:Nat)(t:ak)(s:ByteArray)(w:World)(hy: ¬wy<1)(hz: ¬5<wy)(HR: ∀w1,yB w w1→yC 45 #[yi n,.string s] w1 (Ys w1 c g m p t 0)):
  yC 38 #[yi n,.string s,yi wy] w (CRes w c g m p t 0):=by
 replace HR:Hid _:=HR;obtain⟨W4,hW5,q1,q2,b3⟩:=iG w (yvL 0 false yN 0) 48 (ydL false yN 0) 78;replace hW5:Hid _:=hW5
 go_enter func38,ntmps38
 go_upto_region 1 with fail
 rw[hW5.out];clear hW5
 go_wp2_with fail
 refine(HR.out _ b3).mono ?_;rintro zz w6 ⟨v18,v29,rfl,r110,r211,-,bb7⟩;have q12:=q1.l bb7;have q13:=q2.l bb7;have b14:=aa b3 bb7;obtain⟨vo,vc,hv⟩:=r110.shape;subst hv;obtain⟨xo,xc,hv⟩:=r211.shape;subst hv;clear q1 q2 b3 bb7 HR;obtain⟨W17,hW16,q18,q19,al15⟩:=iG w6 (yvL c g (yT vo m vc) p) 48 (yDL t xo xc) 78;replace hW16:Hid _:=hW16;have hl20:w.heap.size≤w6.heap.size:=b14.size;have hl21:=q13.lt;have q22:=q12.l al15;have q23:=q13.l al15;have r24:=r110.l al15;have r25:=r211.l al15;have b26:=aa b14 al15;clear q12 q13 r110 r211 b14 al15
 go_upto_region 2 with fail
 rw[hW16.out];clear hW16
 go_upto_region 6 with fail
 have bW27:yB W17 W17.drew:=(Below.refl _ _).drew;have q28:=q22.l bW27;have q29:=q23.l bW27;have q30:=q18.l bW27;have q31:=q19.l bW27;have r32:=r24.l bW27;have r33:=r25.l bW27;have b34:=aa b26 bW27;clear q22 q23 q18 q19 r24 r25 b26 bW27;refine wp_region_held_drew (S:=fun wq=>au wq w6.heap.size 48 (yvL c g (yT vo m vc) p)∧au wq (w6.heap.size+1) 78 (yDL t xo xc)) (by kernel_rfl) ⟨q30,q31⟩ (fun hS0=> ?_)
 generalize W17.drew=WD35 at q28 q29 q30 q31 r32 r33 b34 hS0⊢;refine tq 0 (yvV c g (yT vo m vc) p) rfl (fun _ hw0=>fy 48 (.tmp 9) rfl w6.heap.size 0 (by kernel_rfl) _ _ hw0.1.range underlying48 rfl (by kernel_rfl)) hS0 ?_
 refine tq 1 (yDV t xo xc) rfl (fun _ hw0=>fy 78 (.tmp 10) rfl (w6.heap.size+1) 0 (by kernel_rfl) _ _ hw0.2.range underlying78 rfl (by kernel_rfl)) hS0 ?_
 refine wpAnyH_ready (rs:=[2]) (by kernel_rfl) (by simp) ?_;refine AllReadyH.cons rfl (fun K hK=> ?_) AllReadyH.nil
 have bu:But w.heap.size WD35 (WD35.setCells w.heap.size 0 (yvL c g (yT vo m vc) p)):=de _ _ _ _;have hth:WD35.there w.heap.size 0 4:=dD q28;have q36:au (WD35.setCells w.heap.size 0 (yvL c g (yT vo m vc) p)) w.heap.size 48 (yvL c g (yT vo m vc) p):=q28.sets _ rfl;have r37:=bu.rd r32 (aX r32 q28 (by simp));have r38:=bu.rd r33 (aX r33 q28 (by simp));have q39:=bu.loc q29 (by omega);have q40:=bu.loc q30 (by omega);have q41:=bu.loc q31 (by omega);have b42:=bu.below b34 (by omega);rw[if_pos (by kernel_rfl)];refine wp_store_mid 48 (.tmp 6) (.tmp 32) rfl w.heap.size 0 (yvA c g (yT vo m vc) p) (by kernel_rfl) (by kernel_rfl) hth (by kernel_rfl) (by simp[Value.oneCell']) ?_;refine hK.out _ _ ⟨q40,q41⟩ (fun hS43=> ?_)
 clear hK K;clear q28 r32 r33 q29 q30 q31 b34 bu hth;refine wpAnyH_ready (rs:=[3]) (by kernel_rfl) (by simp) ?_;refine AllReadyH.cons rfl (fun K hK=> ?_) AllReadyH.nil
 have bu:But (w.heap.size+1) (WD35.setCells w.heap.size 0 (yvL c g (yT vo m vc) p)) ((WD35.setCells w.heap.size 0 (yvL c g (yT vo m vc) p)).setCells (w.heap.size+1) 0 (yDL t xo xc)):=de _ _ _ _;have hth:(WD35.setCells w.heap.size 0 (yvL c g (yT vo m vc) p)).there (w.heap.size+1) 0 3:=dD q39;have q44:au ((WD35.setCells w.heap.size 0 (yvL c g (yT vo m vc) p)).setCells (w.heap.size+1) 0 (yDL t xo xc)) (w.heap.size+1) 78 (yDL t xo xc):=q39.sets _ rfl;have r45:=bu.rd r37 (aX r37 q39 (by simp));have r46:=bu.rd r38 (aX r38 q39 (by simp));have q47:=bu.loc q36 (by omega);have q48:=bu.loc q40 (by omega);have q49:=bu.loc q41 (by omega);have b50:=bu.below b42 (by omega);rw[if_pos (by kernel_rfl)];refine wp_store_mid 78 (.tmp 7) (.tmp 33) rfl (w.heap.size+1) 0 (yDA t xo xc) (by kernel_rfl) (by kernel_rfl) hth (by kernel_rfl) (by simp[Value.oneCell']) ?_;refine hK.out _ _ ⟨q48,q49⟩ (fun hS51=> ?_)
 clear hK K;clear q39 r37 r38 q36 q40 q41 b42 bu hth;refine tq 4 (yi 0) rfl (fun _ _=>by kernel_rfl) hS51 ?_
 refine wpAnyH_done (by kernel_rfl) ?_ _;clear hS0 hS43 hS51;change Exit.then _ _ _ _ (World.setCells (WD35.setCells w.heap.size 0 (yvL c g (yT vo m vc) p)) (w.heap.size+1) 0 (yDL t xo xc));generalize World.setCells (WD35.setCells w.heap.size 0 (yvL c g (yT vo m vc) p)) (w.heap.size+1) 0 (yDL t xo xc)=W52 at q47 q44 q48 q49 r45 r46 b50⊢;simp only[Act.put,List.getElem_toArray,List.getElem_cons_succ,List.getElem_cons_zero,List.setIfInBounds_toArray,List.set_cons_zero,List.set_cons_succ];have hl1:=run_loadVar_mid (P:=Tryz.prog) _ (w.heap.size) 0 48 (yvL c g (yT vo m vc) p) _ q47.range underlying48 rfl (by kernel_rfl);have hl2:=run_loadVar_mid (P:=Tryz.prog) _ (w.heap.size+1) 0 78 (yDL t xo xc) _ q44.range underlying78 rfl (by kernel_rfl)
 go_wp2
 exact bodyPost_ret (kg results38 rfl rfl rfl hl1 hl2) rfl ⟨_,_,rfl,r45,r46,b50⟩
theorem dg_round {x:ak}{k:Nat}(hx:x.n<2^64)(e1: -16500≤x.e)(e2:x.e≤16500)(h0:x.n≠0)(hk1:1≤k)(hk2:k≤60){n2 d2:Nat}(hn2:n2=dqN x*10^ ((k:Int)-1-dcP x).toNat)(hd2:d2=dqD x*10^ (-((k:Int)-1-dcP x)).toNat):
  n2/d2≠0∧((0<dm (n2 % d2*2:Nat) (d2:Nat)∧prQ (dcH x) (dcC x) k=n2/d2+1)∨(dm (n2 % d2*2:Nat) (d2:Nat)=0∧n2/d2 % 2=1∧prQ (dcH x) (dcC x) k=n2/d2+1)∨(dm (n2 % d2*2:Nat) (d2:Nat)=0∧n2/d2 % 2=0∧prQ (dcH x) (dcC x) k=n2/d2)∨(dm (n2 % d2*2:Nat) (d2:Nat)<0∧prQ (dcH x) (dcC x) k=n2/d2)):=by
 have hm:=dc_many hx e1 e2 h0;have hC:61≤dcC x:=by
  rcases Nat.lt_or_ge (dcC x) 61 with c|c
  ·have h2:dcW x<10^dcC x:=decS_big
   have:=Nat.pow_le_pow_right (n:=10) (by omega) (show dcC x≤60 by omega)
   omega
  ·exact c
 have hb:0<scB x.e (60-dcG x):=Nat.mul_pos (Nat.pow_pos (by omega)) (Nat.pow_pos (by omega));have hD:0<d2:=by rw[hd2];exact Nat.mul_pos (Nat.pow_pos (by omega)) (Nat.pow_pos (by omega))
 have hR:=dg_ratio (k:=k) (n:=60-dcG x) (P:=dcP x) (C:=dcC x) (dg_cross x.n x.e (60-dcG x)) (by unfold dcP;omega) (by omega);have hR':n2*(scB x.e (60-dcG x)*10^ (dcC x-k))=scA x.n x.e (60-dcG x)*d2:=by rw[hn2,hd2];exact hR
 have hW:dcW x=scA x.n x.e (60-dcG x)/scB x.e (60-dcG x):=rfl;have hH:dcH x=if 0<scA x.n x.e (60-dcG x) % scB x.e (60-dcG x) then scA x.n x.e (60-dcG x)/scB x.e (60-dcG x)*2+1 else scA x.n x.e (60-dcG x)/scB x.e (60-dcG x)*2:=by
  unfold dcH dcL dcW
  by_cases c:0<scA x.n x.e (60-dcG x) % scB x.e (60-dcG x)
  ·rw[if_pos c,if_pos (decide_eq_true ?_)]
   rcases Nat.eq_zero_or_pos (Dg.dg 4294967296 (scA x.n x.e (60-dcG x) % scB x.e (60-dcG x))).length with d|d
   ·have:=(Dg.dg_nil_iff 4294967296 _ (by omega)).1 (List.length_eq_zero_iff.1 d)
    omega
   ·exact d
  ·rw[if_neg c,if_neg]
   have:scA x.n x.e (60-dcG x) % scB x.e (60-dcG x)=0:=by omega
   rw[this]
   decide
 have hW2:10^ (dcC x-1)≤scA x.n x.e (60-dcG x)/scB x.e (60-dcG x):=by
  have:dcW x≠0:=fun c=>by
   have hT:0<10^60:=Nat.pow_pos (by omega);omega
  exact decS_low this
 clear hm hW;generalize scA x.n x.e (60-dcG x)=a at hR' hH hW2;generalize scB x.e (60-dcG x)=b at hb hR' hH hW2;obtain⟨s1,s2⟩:=rt_same hD (Nat.mul_pos hb (Nat.pow_pos (by omega))) hR';obtain⟨t1,t2,t3⟩:=half_same hb (show 1≤dcC x-k by omega) hH
 have hB0:0<b*10^ (dcC x-k):=Nat.mul_pos hb (Nat.pow_pos (by omega));have u: ∀m,m=n2 % d2*2*(b*10^ (dcC x-k))→m=a % (b*10^ (dcC x-k))*2*d2:=fun m h=>by
  rw[h,Nat.mul_right_comm,s2,Nat.mul_right_comm]
 have u1:=u _ rfl;have v2:d2<n2 % d2*2↔b*10^ (dcC x-k)<a % (b*10^ (dcC x-k))*2:=by
  rw[←Nat.mul_lt_mul_right hB0,u1,Nat.mul_comm d2,Nat.mul_lt_mul_right hD]
 have v3:n2 % d2*2=d2↔a % (b*10^ (dcC x-k))*2=b*10^ (dcC x-k):=by
  constructor
  ·intro h
   rw[h] at u1;exact Nat.eq_of_mul_eq_mul_right hD (by rw[←u1,Nat.mul_comm])
  ·intro h
   rw[h] at u1;exact Nat.eq_of_mul_eq_mul_right hB0 (by rw[u1,Nat.mul_comm])
 have e1:dcH x/prU (dcC x) k=n2/d2:=by rw[s1];exact t1
 have e2':prU (dcC x) k<dcH x % prU (dcC x) k*2↔d2<n2 % d2*2:=by rw[v2];exact t2
 have e3:dcH x % prU (dcC x) k*2=prU (dcC x) k↔n2 % d2*2=d2:=by rw[v3];exact t3
 refine⟨?_, ?_⟩
 ·rw[s1,←Nat.div_div_eq_div_mul]
  refine Nat.ne_of_gt (Nat.div_pos (Nat.le_trans (Nat.pow_le_pow_right (by omega) (by omega)) hW2) (Nat.pow_pos (by omega)))
 ·unfold prQ dm
  rw[e1];simp only[e2',e3];generalize n2 % d2*2=m;generalize n2/d2=q
  rcases Nat.lt_trichotomy m d2 with h|h|h
  ·refine .inr (.inr (.inr ⟨by rw[if_pos (by omega)];decide,by rw[if_neg (by omega)]⟩))
  ·have e:(if((m:Nat):Int)< ((d2:Nat):Int) then(-1:Int) else if((d2:Nat):Int)< ((m:Nat):Int) then 1 else 0)=0:=by rw[if_neg (by omega),if_neg (by omega)]
   by_cases ho:q % 2=1
   ·exact .inr (.inl ⟨e,ho,by rw[if_pos (.inr ⟨h,ho⟩)]⟩)
   ·exact .inr (.inr (.inl ⟨e,by omega,by rw[if_neg (by omega)]⟩))
  ·exact .inl ⟨by rw[if_neg (by omega),if_pos (by omega)];decide,by rw[if_pos (.inl h)]⟩
theorem dgS_val {x:ak}{k:Nat}(hx:x.n<2^64)(e1: -16500≤x.e)(e2:x.e≤16500)(h0:x.n≠0)(hk1:1≤k)(hk2:k≤60):
  (∀b∈(dgS x k).data.toList,isDg b=true)∧ ∃δ:Nat,δ≤1∧prN (dcH x) (dcC x) (dcP x) k=dcP x+(δ:Int)∧lvD (dgS x k).data.toList*10^δ=prQ (dcH x) (dcC x) k∧lvD (dgS x k).data.toList≠0:=by
 obtain⟨d1,d2,d3,d4,d5⟩:=dc_all hx e1 e2 h0;have hQ1:=prQ_ge (k:=k) (dcH_low hx e1 e2 h0) hk1 (by omega);have hQ2:prQ (dcH x) (dcC x) k≤10^k:=prQ_le d1 (by omega);unfold dgS prN;obtain⟨Q,hQ⟩: ∃Q,prQ (dcH x) (dcC x) k=Q:=⟨_,rfl⟩;rw[hQ] at hQ1 hQ2⊢;obtain⟨i1,i2,i3⟩:=decDig_all Q;have hT:(oW Q).data.toList=Lib.decDigits Q:=by rw[decS_list]
 have hp:0<10^ (k-1):=Nat.pow_pos (by omega)
 by_cases c:k< (oW Q).size
 ·rw[if_pos c,if_pos c]
  have hs:(oW Q).size=(Lib.decDigits Q).length:=by rw[size_list,hT]
  have hsl:(oW Q).size≤k+1:=decS_le (Nat.lt_of_le_of_lt hQ2 (Nat.pow_lt_pow_right (by omega) (by omega))) (by omega);have hge:10^k≤Q:=by
   have:=decS_low (W:=Q) (by omega)
   rwa [show(oW Q).size-1=k by omega] at this
  have hQk:Q=10^k:=by omega
  have hk10:10^k=10^ (k-1)*10:=by rw[←Nat.pow_succ];congr 1;omega
  have h10: ¬Q<10:=by omega
  have hl:((oW Q).extract 0 k).data.toList=Lib.decDigits (Q/10):=by
   rw[ByteArray.data_extract,Array.toList_extract,List.extract,List.drop_zero,Nat.sub_zero,hT,Lib.decDigits,dif_neg h10];have:(Lib.decDigits (Q/10)).length=k:=by
    rw[Lib.decDigits,dif_neg h10,List.length_append,List.length_singleton] at hs;omega
   rw[←this,List.take_left'];rfl
  obtain⟨j1,j2,j3⟩:=decDig_all (Q/10);rw[hl,j2];exact⟨j1,1,by omega,rfl,by omega,by omega⟩
 ·rw[if_neg c,if_neg c,hT,i2]
  exact⟨i1,0,by omega,by omega,by omega,by omega⟩
theorem raV_in {t:ByteArray}(h:raE t=0):(Dg.dg 4294967296 (raV t).2.1).length≤1200∧(Dg.dg 4294967296 (raV t).2.2.1).length≤1200∧(raV t).2.2.1≠0∧ -20000≤(raV t).2.2.2∧(raV t).2.2.2≤20000∧(Dg.dg 65536 (raV t).2.1).length≤20000∧(Dg.dg 65536 (raV t).2.2.1).length≤20000:=by
 obtain⟨h1,h2,h3,h4⟩:=nmV_zero h;have hdig:=((digB_iff _).1 h2).2;obtain⟨a,ha⟩: ∃a,a=1600:=⟨_,rfl⟩;have hN:pv (nmV t).1.2.1 (nmV t).1.2.1.size<2^a:=Nat.lt_of_lt_of_le (Tb _ hdig _ (Nat.le_refl _)) (Nat.le_trans (pow10_two _) (Nat.pow_le_pow_right (by omega) (by omega)));unfold raV nrV
 split
 ·refine⟨by decide,by decide,by decide,by decide,by decide,by decide,by decide⟩
 ·rename_i h0
  obtain⟨m0,mlt⟩:=nrM_in (p:=(nmV t).1.2.2) h0 hN h4;have k1:=Nat.div_le_self (nrM (pv (nmV t).1.2.1 (nmV t).1.2.1.size) (nmV t).1.2.2).1 (2^tz (nrM (pv (nmV t).1.2.1 (nmV t).1.2.1.size) (nmV t).1.2.2).1);obtain⟨c,hc⟩: ∃c,c=18000:=⟨_,rfl⟩;have k2:(nrM (pv (nmV t).1.2.1 (nmV t).1.2.1.size) (nmV t).1.2.2).2≤2^c∧(nrM (pv (nmV t).1.2.1 (nmV t).1.2.1.size) (nmV t).1.2.2).2≠0:=by
   unfold nrM
   split
   ·exact⟨Nat.pow_pos (by omega),Nat.one_ne_zero⟩
   ·refine⟨Nat.le_trans (pow5_two _) (Nat.pow_le_pow_right (by omega) ?_),Nat.ne_of_gt (Nat.pow_pos (by omega))⟩
    have:=(redF_le (-(nmV t).1.2.2).toNat (pv (nmV t).1.2.1 (nmV t).1.2.1.size)).2;omega
  have k3:(nmV t).1.2.2+(tz (nrM (pv (nmV t).1.2.1 (nmV t).1.2.1.size) (nmV t).1.2.2).1:Int)≤20000:=by
   by_cases hp:0< (nmV t).1.2.2
   ·have e:(nrM (pv (nmV t).1.2.1 (nmV t).1.2.1.size) (nmV t).1.2.2).1=pv (nmV t).1.2.1 (nmV t).1.2.1.size*5^ (nmV t).1.2.2.toNat:=by
     unfold nrM;rw[if_pos hp]
    rw[e,tz_five h0];have:=tz_bits h0 hN;omega
   ·have:=tz_bits m0 mlt
    omega
  have l1:(Dg.dg 4294967296 ((nrM (pv (nmV t).1.2.1 (nmV t).1.2.1.size) (nmV t).1.2.2).1/2^tz (nrM (pv (nmV t).1.2.1 (nmV t).1.2.1.size) (nmV t).1.2.2).1)).length≤1200:=jq (Nat.lt_of_le_of_lt k1 mlt) (by omega);have l2:(Dg.dg 4294967296 (nrM (pv (nmV t).1.2.1 (nmV t).1.2.1.size) (nmV t).1.2.2).2).length≤1200:=jq (k:=c+1) (Nat.lt_of_le_of_lt k2.1 (Nat.pow_lt_pow_right (by omega) (by omega))) (by omega);exact⟨l1,l2,k2.2,by show _≤(nmV t).1.2.2+_;omega,k3,UI (k:=a+18000) (Nat.le_of_lt (Nat.lt_of_le_of_lt k1 mlt)) (by omega),UI (k:=c) k2.1 (by omega)⟩
end Go.Proofs.YtlgkfdcmokchgaaGreatDoor
