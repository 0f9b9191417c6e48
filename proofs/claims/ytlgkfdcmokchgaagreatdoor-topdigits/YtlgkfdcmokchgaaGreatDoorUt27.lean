/-
  Texts laid together: Minus, Co7, Co19, Gm1, Dy9, Gr7, Gh1, Gn1, Ce3, Ce4, Ce9, Cv1, Bl1, Bl6, BlN, BlM, Ty9.
-/
import Derived.Test.YtlgkfdcmokchgaaGreatDoorUt10
import Derived.Test.YtlgkfdcmokchgaaGreatDoorUt23
set_option maxRecDepth 100000
set_option maxHeartbeats 3200000
namespace Go.Proofs.YtlgkfdcmokchgaaGreatDoor
open _root_.Go.Proofs.Tryz
open Go.RowKit
theorem zL (va vb:Value)(xs ys:List Nat)(w:World)(ha:Rd w .u32 va xs)(hb:Rd w .u32 vb ys)(sa:Dg.Small 4294967296 xs)(sb:Dg.Small 4294967296 ys)(hla:xs.length≤1000000)(hlb:ys.length≤xs.length)(hv:Dg.vl 4294967296 ys≤Dg.vl 4294967296 xs):
  yC 175 #[va,vb] w (Num w (Dg.vl 4294967296 xs-Dg.vl 4294967296 ys)):=by
 obtain⟨i0,hi,hz0,hz1,hz2⟩:=info_parts Tryz.infoU32;obtain⟨ao,ca,rfl,-,-,hca⟩:=ha;obtain⟨bo,cb,rfl,-,-,hcb⟩:=hb;have HV:Hid _:=hv;clear hv
 go_enter func175,ntmps175
 go_wp2_with (at_make;refine wpList_make_full _ rfl _ _ 57 rfl w.heap.size 54 i0 (.int .u32 0) 1 underlying57 hi hz0 hz1 _ _ _ _ xs.length rfl rfl (by omega) (by omega) ?b2 ?b3 (Nat.le_refl _) ?_)
 case b2=>rw[hz2];omega
 case b3=>unfold maxLen;omega
 intro w0 hown0 hgrow0;have own0:=gL hown0;have bel0:yB w w0:=(Below.refl _ _).grown hgrow0 (Nat.le_refl _) (fun k h=>by cases h)
 clear hown0 hgrow0
 go_wp2
 go_loopw [6,15] (fun cv kv wr=> ∃(k c:Nat) (ps:List Nat),k≤ys.length∧kv=yi k∧cv= .int .u32 c∧Own wr w.heap.size 54 .u32 (.slice (some ⟨w.heap.size,0,none⟩) xs.length xs.length) ps∧Z7 xs ys ps k c∧yB w wr)
  (fun _ kv _=>ys.length-(intOf kv).toNat)
 case atStart=>exact⟨0,0,_,Nat.zero_le _,rfl,rfl,own0,⟨by simp,Dg.small_replicate _ _ (by omega),by omega,by simp[Dg.vl]⟩,bel0⟩
 case round=>
  clear own0 bel0;obtain⟨k,c,ps,hkl,rfl,rfl,own,hI,bel⟩:=hrel;have hpl:=hI.1;have hcl:=hI.2.2.1
  by_cases hlt:k<ys.length
  ·obtain⟨b,off,rfl,hcell⟩:=hca (by omega)
   obtain⟨b2,off2,rfl,hcell2⟩:=hcb (by omega);have hx:=cell_later bel (hcell k (by omega));have hy:=cell_later bel (hcell2 k (by omega));have hp:=own.c k (by omega);have hf:=own.f k;have hxl:=sa k;have hyl:=sb k;obtain⟨x,ex⟩: ∃x,xs.getD k 0=x:=⟨_,rfl⟩;obtain⟨y,ey⟩: ∃y,ys.getD k 0=y:=⟨_,rfl⟩;have hst:=Jq hI (by omega) ex ey (by omega) (by omega);rw[ex] at hx hxl;rw[ey] at hy hyl;clear ex ey hcell hcell2 hca hcb
   go_wp2_with fail
   refine(zA x y c _ hxl hyl hcl).mono ?_;rintro e w' ⟨rfl,rfl⟩
   go_wp2
   go_roundw
   case rel=>exact⟨k+1,_,_,by omega,by go_num,rfl,own.store k _,hst,bel.setCell (by exact Nat.le_refl _) _⟩
   case measure=>simp[intOf];omega
  ·have hk:k=ys.length:=by omega
   subst hk
   go_wp2
   go_loopw [6,9] (fun cv kv wr=> ∃(k c:Nat) (ps:List Nat),ys.length≤k∧k≤xs.length∧kv=yi k∧cv= .int .u32 c∧Own wr w.heap.size 54 .u32 (.slice (some ⟨w.heap.size,0,none⟩) xs.length xs.length) ps∧Z7 xs ys ps k c∧yB w wr)
    (fun _ kv _=>xs.length-(intOf kv).toNat)
   case atStart=>exact⟨ys.length,c,ps,Nat.le_refl _,by omega,rfl,rfl,own,hI,bel⟩
   case round=>
    clear own hI bel hpl hcl;obtain⟨k,c,ps,hky,hkl,rfl,rfl,own,hI,bel⟩:=hrel;have hpl:=hI.1;have hcl:=hI.2.2.1
    by_cases hlt:k<xs.length
    ·obtain⟨b,off,rfl,hcell⟩:=hca (by omega)
     have hx:=cell_later bel (hcell k (by omega));have hp:=own.c k (by omega);have hf:=own.f k;have hxl:=sa k;obtain⟨x,ex⟩: ∃x,xs.getD k 0=x:=⟨_,rfl⟩;have hst:=Jq hI (by omega) ex (Dg.getD_of_le ys k hky) (by omega) (by omega);rw[ex] at hx hxl;clear ex hcell hca hcb
     go_wp2_with fail
     refine(zA x 0 c _ hxl (by omega) hcl).mono ?_;rintro e w' ⟨rfl,rfl⟩
     go_wp2
     go_roundw
     case rel=>exact⟨k+1,_,_,by omega,by omega,by go_num,rfl,own.store k _,hst,bel.setCell (by exact Nat.le_refl _) _⟩
     case measure=>simp[intOf];omega
    ·have hk:k=xs.length:=by omega
     subst hk;have hen:=Z8 hI (by omega) HV.out;have rd:=own.rd
     go_wp2_with fail
     refine(jD _ _ _ _ _ rd).mono ?_;rintro e w' ⟨m,rfl,hm,rfl⟩;have ht:=jW 4294967296 (by omega) own hI.2.1 hm;rw[hen] at ht;clear rd hen own
     go_wp2
     go_ret
     exact⟨_,rfl,ht,bel⟩
theorem Cq (zs:List Nat):(Bg zs).length=zs.length:=by simp[Bg]
theorem Fl (zs:List Nat)(i:Nat)(h:i<zs.length):(Bg zs).getD i 0=zs.getD (i+1-2*(i % 2)) 0:=by
 simp[Bg,List.getD_eq_getElem?_getD,h]
def kU (k:Nat)(ng:Bool)(e f:Nat):List Nat:=jT k (iS (1+exN k) (frN k) f (iS 1 (exN k) e (if ng then iS 0 1 1 (List.replicate (szN k) 0) else List.replicate (szN k) 0)))
theorem KL (R D L:Int)(gr qs:Bool)(N M:Nat)(E way:Int):cH R D L gr N M E≤fM R D L gr qs N M E way:=by
 unfold fM
 split<;>omega
theorem qB (v:Value)(t:ak)(w:World)(hv:Dv w v t):yC 159 #[v] w (yR w (yi (dJ t))):=by
 obtain⟨s0,rfl,hr⟩:=hv;obtain⟨ao,ca,rfl⟩:=hr.shape;obtain⟨ts,n,e⟩:=t;have hnl:=Dg.dg_nil_iff 4294967296 n (by omega);simp only at hr⊢;unfold dJ;simp only;obtain⟨m,hm⟩: ∃m,(Dg.dg 4294967296 n).length=m:=⟨_,rfl⟩;have hz:m=0↔n=0:=by rw[←hm,List.length_eq_zero_iff];exact hnl
 rw[hm];have bA:=af w (.cells (ydA ts (.slice ao m ca) e) 197);clear hm hr hnl
 by_cases h:n=0
 ·rw[if_pos h]
  have hm0:=hz.2 h;subst hm0;clear hz h
  go_enter func159,ntmps159
  go_wp2
  go_ret
  exact⟨rfl,bA⟩
 ·rw[if_neg h]
  have hm0:((m:Int)==0)=false:=by
   have: ¬m=0:=fun e=>h (hz.1 e)
   simp;exact this
  clear hz h
  cases ts
  ·go_enter func159,ntmps159
   go_wp2
   go_ret
   exact⟨rfl,bA⟩
  ·go_enter func159,ntmps159
   go_wp2
   go_ret
   exact⟨rfl,bA⟩
theorem PI (way:Int)(w1:World)(r:Nat)(hm:w1.heap[r]? =some (.map Yd 5)):(Instr.lookup 142 (.map (some r)) (yi way) false).run Tryz.prog w1= .ok (ac0 way) w1:=by
 by_cases h:iC way=true
 ·rcases zi h with rfl|rfl|rfl|rfl|rfl
  ·exact pj underlying142 underlying3 hm 1 rfl
  ·exact pj underlying142 underlying3 hm 2 rfl
  ·exact pj underlying142 underlying3 hm 3 rfl
  ·exact pj underlying142 underlying3 hm 4 rfl
  ·exact pj underlying142 underlying3 hm 5 rfl
 ·have hn: ¬(1≤way∧way≤5):=fun c=>h (decide_eq_true c)
  unfold ac0;rw[if_neg h];refine Yc underlying142 underlying3 hm way ?_ ?_
  ·kernel_rfl
  ·simp[Yd,Instr.findNow,XI,show¬way=1 by omega,show¬way=2 by omega,show¬way=3 by omega,show¬way=4 by omega,show¬way=5 by omega]
theorem PK {way:Int}(h:iC way=true)(half:Int)(odd neg:Bool)(w1:World):yC (T4 way) #[.agg #[yi half,.bool odd,.bool neg]] w1 (yR w1 (.bool (gY way half odd neg))):=by
 rcases zi h with rfl|rfl|rfl|rfl|rfl
 ·exact Yf half odd neg w1
 ·exact Yg half odd neg w1
 ·exact Yh half odd neg w1
 ·exact Yi half odd neg w1
 ·exact Yj half odd neg w1
def df (xs ys:List Nat)(E R D L G:Int)(gr qs:Bool)(way:Int):fz:=
 if eE xs ys E R D L G way=0 then(if xs.length=0 then⟨false,0,0,true,false,false⟩ else cI R D L G gr qs (Dg.vl 4294967296 xs) (Dg.vl 4294967296 ys) E way) else oI
theorem RT (R D L G:Int)(gr s:Bool)(ao:Option Addr)(la ca:Nat)(e:Int)(w:World)
  (HSG:yH w 159 #[ydV s (.slice ao la ca) e] (yi 0)):
  yC 125 #[ygV R D L G gr,ydV s (.slice ao la ca) e] w (D7 w true 0 L):=by
 replace HSG:Hid _:=HSG;have b1:=aa (aa (af w (.cells (ygA R D L G gr) 145)) (af _ (.cells (ydA s (.slice ao la ca) e) 197))) (af _ (.cells #[yN,yi 0] 153));have g1:=((ah w (ygL R D L G gr) 145).l (af _ (.cells (ydA s (.slice ao la ca) e) 197))).l (af _ (.cells #[yN,yi 0] 153));have q1:=(ah (w.alloc (.cells (ygA R D L G gr) 145)) (ydL s (.slice ao la ca) e) 197).l (af _ (.cells #[yN,yi 0] 153));have c1:=ah ((w.alloc (.cells (ygA R D L G gr) 145)).alloc (.cells (ydA s (.slice ao la ca) e) 197)) [yN,yi 0] 153;simp only[World.size_alloc] at q1 c1;obtain⟨y0,y1,y2⟩:=q1.cs3
 go_enter func125,ntmps125
 go_wp2_with fail
 refine(HSG.out _ b1).mono ?_;rintro z w2 ⟨rfl,bb2⟩;clear y0 y1 y2;have g_2:=g1.l bb2;have q_2:=q1.l bb2;have c_2:=c1.l bb2;have b0_2:=aa b1 bb2;clear g1 q1 c1 b1 bb2;have x2:=g_2.c 2 rfl;have d0:=c_2.c 0 rfl;have f0:=c_2.f 0;have d1:=c_2.c 1 rfl;have f1:=c_2.f 1
 go_wp2
 have bu:But (w.heap.size+1+1) w2 ((w2.setCell ⟨w.heap.size+1+1,0,none⟩ yN).setCell ⟨w.heap.size+1+1,1,none⟩ (yi L)):=(ag w2 (w.heap.size+1+1) 0 yN).trans (ag _ (w.heap.size+1+1) 1 (yi L));have cX:au ((w2.setCell ⟨w.heap.size+1+1,0,none⟩ yN).setCell ⟨w.heap.size+1+1,1,none⟩ (yi L)) (w.heap.size+1+1) 153 [yN,yi L]:=(c_2.set 0 yN).set 1 (yi L);have bX:=bu.below b0_2 (show w.heap.size≤w.heap.size+1+1 by omega)
 obtain⟨s0,s1⟩:=cX.cs2;refine bodyPost_ret (v:= .tuple #[.agg #[yN,yi L],.bool true]) (by simp[results,results125,go_sem,s0,s1]) rfl ?_;exact⟨_,rfl,aQ _ _ _ _,bX⟩
theorem Zr (R D L G:Int)(gr s:Bool)(ao:Option Addr)(la ca:Nat)(p:Int)(x1 x2 x3:Bool)(wd nc gc c:Int)(far rs:Bool)(rn:Nat)(re:Int)(w:World)
  (HA: ¬nc=0→rs=false∧rn=0∧re=0∧c=nc) (HB:nc=0→ ¬gc=0→rs=false∧rn=0∧re=0∧c=gc) (HC:nc=0→gc=0→far=true→rs=false∧rn=0∧re=0∧c=3)
  (HN:yH w 69 #[.slice ao la ca] (yi nc))
  (HG:yJ 110 #[ygV R D L G gr] (yi gc))
  (HF: ∀w1,yC 109 #[yi p,yi 20000] w1 fun z w'=>z= .returned (.bool far)∧w'=w1)
  (HM:nc=0→gc=0→far=false→yJ 162 #[ygV R D L G gr,.bool s,.agg #[.slice ao la ca,yi p]] (ydV s (.slice ao la ca) (wd*p)))
  (HS:nc=0→gc=0→far=false→ ∀w1,yB w w1→yC 163 #[ydV s (.slice ao la ca) (wd*p)] w1 (gR w1 (⟨rs,rn,re⟩,c))):
  yC 127 #[ypV s (.slice ao la ca) p x1 x2 x3,ygV R D L G gr] w (gR w (⟨rs,rn,re⟩,c)):=by
 replace HA:Hid _:=HA;replace HB:Hid _:=HB;replace HC:Hid _:=HC;replace HN:Hid _:=HN;replace HG:Hid _:=HG;replace HF:Hid _:=HF;replace HM:Hid _:=HM;replace HS:Hid _:=HS;have b1:=aa (aa (af w (.cells (ypA s (.slice ao la ca) p x1 x2 x3) 84)) (af _ (.cells (ygA R D L G gr) 82))) (af _ (.cells (ydA false yN 0) 78));have q1:=((ah w (ypL s (.slice ao la ca) p x1 x2 x3) 84).l (af _ (.cells (ygA R D L G gr) 82))).l (af _ (.cells (ydA false yN 0) 78));have g1:=(ah (w.alloc (.cells (ypA s (.slice ao la ca) p x1 x2 x3) 84)) (ygL R D L G gr) 82).l (af _ (.cells (ydA false yN 0) 78));have c1:=ah ((w.alloc (.cells (ypA s (.slice ao la ca) p x1 x2 x3) 84)).alloc (.cells (ygA R D L G gr) 82)) (ydL false yN 0) 78;simp only[World.size_alloc] at g1 c1
 by_cases hn:nc=0
 ·have HB1:Hid _:=HB.out hn
  have HC1:Hid _:=HC.out hn;have HM1:Hid _:=HM.out hn;have HS1:Hid _:=HS.out hn;clear HA HB HC HM HS;subst hn
  by_cases hg:gc=0
  ·have HC2:Hid _:=HC1.out hg
   have HM2:Hid _:=HM1.out hg;have HS2:Hid _:=HS1.out hg;clear HB1 HC1 HM1 HS1;subst hg
   cases far
   ·have HM3:Hid _:=HM2.out rfl
    have HS3:Hid _:=HS2.out rfl;clear HC2 HM2 HS2;have y1:=q1.c 1 rfl
    go_enter func127,ntmps127
    go_wp2_with fail
    refine(HN.out _ b1).mono ?_;rintro z w2 ⟨rfl,bb2⟩;clear y1;have q_2:=q1.l bb2;have g_2:=g1.l bb2;have c_2:=c1.l bb2;have b0_2:=aa b1 bb2;clear q1 g1 c1 b1 bb2;obtain⟨x0,x1,x2,x3,x4⟩:=g_2.cs5
    go_wp2_with fail
    refine(HG.out _).mono ?_;rintro z w3 ⟨rfl,bb3⟩;have q_3:=q_2.l bb3;have g_3:=g_2.l bb3;have c_3:=c_2.l bb3;have b0_3:=aa b0_2 bb3;clear q_2 g_2 c_2 b0_2 bb3;clear x0 x1 x2 x3 x4;obtain⟨y0,y1,y2⟩:=q_3.cs3;obtain⟨x0,x1,x2,x3,x4⟩:=g_3.cs5
    go_wp2_with fail
    refine(HF.out _).mono ?_;rintro z w4 ⟨rfl,rfl⟩
    go_wp2_with fail
    refine(HM3.out _).mono ?_;rintro z w5 ⟨rfl,bb5⟩;clear x0 x1 x2 x3 x4 y0 y1 y2;have q_4:=q_3.l bb5;have g_4:=g_3.l bb5;have c_4:=c_3.l bb5;have b0_4:=aa b0_3 bb5;clear q_3 g_3 c_3 b0_3 bb5;have hlt:w.heap.size+1+1<w5.heap.size:=c_4.lt
    go_wp2_with fail
    refine(HS3.out _ b0_4).mono ?_;rintro z w6 ⟨vr,rfl,o6,bb5⟩;have q_5:=q_4.l bb5;have g_5:=g_4.l bb5;have c_5:=c_4.l bb5;have b0_5:=aa b0_4 bb5;clear q_4 g_4 c_4 b0_4 bb5;obtain⟨so,sc,hvr⟩:=o6.rd.shape;subst hvr;have d0:=c_5.c 0 rfl;have f0:=c_5.f 0;have d1:=c_5.c 1 rfl;have f1:=c_5.f 1;have d2:=c_5.c 2 rfl;have f2:=c_5.f 2
    go_wp2
    have bu:But (w.heap.size+1+1) w6 (((w6.setCell ⟨w.heap.size+1+1,0,none⟩ (.bool rs)).setCell ⟨w.heap.size+1+1,1,none⟩ (yT so rn sc)).setCell ⟨w.heap.size+1+1,2,none⟩ (yi re)):=((ag w6 (w.heap.size+1+1) 0 (.bool rs)).trans (ag _ (w.heap.size+1+1) 1 (yT so rn sc))).trans (ag _ (w.heap.size+1+1) 2 (yi re));have cX:au (((w6.setCell ⟨w.heap.size+1+1,0,none⟩ (.bool rs)).setCell ⟨w.heap.size+1+1,1,none⟩ (yT so rn sc)).setCell ⟨w.heap.size+1+1,2,none⟩ (yi re)) (w.heap.size+1+1) 78 (ydL rs (yT so rn sc) re):=((c_5.set 0 (.bool rs)).set 1 (yT so rn sc)).set 2 (yi re);have bX:=bu.below b0_5 (show w.heap.size≤w.heap.size+1+1 by omega)
    have oX:=bu.own o6 c_5 (by decide);obtain⟨s0,s1,s2⟩:=cX.cs3;refine bodyPost_ret (v:= .tuple #[ydV rs (yT so rn sc) re,yi c]) (by simp[results,results127,go_sem,s0,s1,s2]) rfl ?_;exact⟨_,rfl,oX.lower (by omega),bX⟩
   ·obtain⟨h1,h2,h3,h4⟩:=HC2.out rfl
    clear HC2 HM2 HS2;subst h1 h2 h3 h4;have y1:=q1.c 1 rfl
    go_enter func127,ntmps127
    go_wp2_with fail
    refine(HN.out _ b1).mono ?_;rintro z w2 ⟨rfl,bb2⟩;clear y1;have q_2:=q1.l bb2;have g_2:=g1.l bb2;have c_2:=c1.l bb2;have b0_2:=aa b1 bb2;clear q1 g1 c1 b1 bb2;obtain⟨x0,x1,x2,x3,x4⟩:=g_2.cs5
    go_wp2_with fail
    refine(HG.out _).mono ?_;rintro z w3 ⟨rfl,bb3⟩;have q_3:=q_2.l bb3;have g_3:=g_2.l bb3;have c_3:=c_2.l bb3;have b0_3:=aa b0_2 bb3;clear q_2 g_2 c_2 b0_2 bb3;clear x0 x1 x2 x3 x4;have y2:=q_3.c 2 rfl
    go_wp2_with fail
    refine(HF.out _).mono ?_;rintro z w4 ⟨rfl,rfl⟩;clear y2;have d0:=c_3.c 0 rfl;have f0:=c_3.f 0;have d1:=c_3.c 1 rfl;have f1:=c_3.f 1;have d2:=c_3.c 2 rfl;have f2:=c_3.f 2
    go_wp2
    have bu:But (w.heap.size+1+1) w4 (((w4.setCell ⟨w.heap.size+1+1,0,none⟩ (.bool false)).setCell ⟨w.heap.size+1+1,1,none⟩ yN).setCell ⟨w.heap.size+1+1,2,none⟩ (yi 0)):=((ag w4 (w.heap.size+1+1) 0 (.bool false)).trans (ag _ (w.heap.size+1+1) 1 yN)).trans (ag _ (w.heap.size+1+1) 2 (yi 0));have cX:au (((w4.setCell ⟨w.heap.size+1+1,0,none⟩ (.bool false)).setCell ⟨w.heap.size+1+1,1,none⟩ yN).setCell ⟨w.heap.size+1+1,2,none⟩ (yi 0)) (w.heap.size+1+1) 78 (ydL false yN 0):=((c_3.set 0 (.bool false)).set 1 yN).set 2 (yi 0);have bX:=bu.below b0_3 (show w.heap.size≤w.heap.size+1+1 by omega)
    obtain⟨s0,s1,s2⟩:=cX.cs3;refine bodyPost_ret (v:= .tuple #[ydV false yN 0,yi 3]) (by simp[results,results127,go_sem,s0,s1,s2]) rfl ?_;exact⟨_,rfl,aQ _ _ _ _,bX⟩
  ·obtain⟨h1,h2,h3,h4⟩:=HB1.out hg
   clear HB1 HC1 HM1 HS1;have hgf:(gc==0)=false:=by simp[hg]
   subst h1 h2 h3 h4;have y1:=q1.c 1 rfl
   go_enter func127,ntmps127
   go_wp2_with fail
   refine(HN.out _ b1).mono ?_;rintro z w2 ⟨rfl,bb2⟩;clear y1;have q_2:=q1.l bb2;have g_2:=g1.l bb2;have c_2:=c1.l bb2;have b0_2:=aa b1 bb2;clear q1 g1 c1 b1 bb2;obtain⟨x0,x1,x2,x3,x4⟩:=g_2.cs5
   go_wp2_with fail
   refine(HG.out _).mono ?_;rintro z w3 ⟨rfl,bb3⟩;have q_3:=q_2.l bb3;have g_3:=g_2.l bb3;have c_3:=c_2.l bb3;have b0_3:=aa b0_2 bb3;clear q_2 g_2 c_2 b0_2 bb3;clear x0 x1 x2 x3 x4;have d0:=c_3.c 0 rfl;have f0:=c_3.f 0;have d1:=c_3.c 1 rfl;have f1:=c_3.f 1;have d2:=c_3.c 2 rfl;have f2:=c_3.f 2
   go_wp2
   have bu:But (w.heap.size+1+1) w3 (((w3.setCell ⟨w.heap.size+1+1,0,none⟩ (.bool false)).setCell ⟨w.heap.size+1+1,1,none⟩ yN).setCell ⟨w.heap.size+1+1,2,none⟩ (yi 0)):=((ag w3 (w.heap.size+1+1) 0 (.bool false)).trans (ag _ (w.heap.size+1+1) 1 yN)).trans (ag _ (w.heap.size+1+1) 2 (yi 0));have cX:au (((w3.setCell ⟨w.heap.size+1+1,0,none⟩ (.bool false)).setCell ⟨w.heap.size+1+1,1,none⟩ yN).setCell ⟨w.heap.size+1+1,2,none⟩ (yi 0)) (w.heap.size+1+1) 78 (ydL false yN 0):=((c_3.set 0 (.bool false)).set 1 yN).set 2 (yi 0);have bX:=bu.below b0_3 (show w.heap.size≤w.heap.size+1+1 by omega)
   obtain⟨s0,s1,s2⟩:=cX.cs3;refine bodyPost_ret (v:= .tuple #[ydV false yN 0,yi c]) (by simp[results,results127,go_sem,s0,s1,s2]) rfl ?_;exact⟨_,rfl,aQ _ _ _ _,bX⟩
 ·obtain⟨h1,h2,h3,h4⟩:=HA.out hn
  clear HA HB HC HM HS;have hnf:(nc==0)=false:=by simp[hn]
  subst h1 h2 h3 h4;have y1:=q1.c 1 rfl
  go_enter func127,ntmps127
  go_wp2_with fail
  refine(HN.out _ b1).mono ?_;rintro z w2 ⟨rfl,bb2⟩;clear y1;have q_2:=q1.l bb2;have g_2:=g1.l bb2;have c_2:=c1.l bb2;have b0_2:=aa b1 bb2;clear q1 g1 c1 b1 bb2;have d0:=c_2.c 0 rfl;have f0:=c_2.f 0;have d1:=c_2.c 1 rfl;have f1:=c_2.f 1;have d2:=c_2.c 2 rfl;have f2:=c_2.f 2
  go_wp2
  have bu:But (w.heap.size+1+1) w2 (((w2.setCell ⟨w.heap.size+1+1,0,none⟩ (.bool false)).setCell ⟨w.heap.size+1+1,1,none⟩ yN).setCell ⟨w.heap.size+1+1,2,none⟩ (yi 0)):=((ag w2 (w.heap.size+1+1) 0 (.bool false)).trans (ag _ (w.heap.size+1+1) 1 yN)).trans (ag _ (w.heap.size+1+1) 2 (yi 0));have cX:au (((w2.setCell ⟨w.heap.size+1+1,0,none⟩ (.bool false)).setCell ⟨w.heap.size+1+1,1,none⟩ yN).setCell ⟨w.heap.size+1+1,2,none⟩ (yi 0)) (w.heap.size+1+1) 78 (ydL false yN 0):=((c_2.set 0 (.bool false)).set 1 yN).set 2 (yi 0);have bX:=bu.below b0_2 (show w.heap.size≤w.heap.size+1+1 by omega)
  obtain⟨s0,s1,s2⟩:=cX.cs3;refine bodyPost_ret (v:= .tuple #[ydV false yN 0,yi c]) (by simp[results,results127,go_sem,s0,s1,s2]) rfl ?_;exact⟨_,rfl,aQ _ _ _ _,bX⟩
def byL (bf:Nat→Bool)(n:Nat):List Nat:=(List.range n).map fun i=>jY (fun j=>bf (8*i+j)) 8
theorem xT (bf:Nat→Bool)(n:Nat):(byL bf n).length=n:=by simp[byL]
theorem JB (bf:Nat→Bool)(n i:Nat)(h:i<n):(byL bf n).getD i 0=jY (fun j=>bf (8*i+j)) 8:=by
 simp[byL,List.getD_eq_getElem?_getD,h]
theorem OT (zs:List Nat)(hs:Dg.Small 256 zs):zs=byL (fun i=>decide (fU zs i=1)) zs.length:=by
 apply List.ext_getElem (by rw[xT]);intro p hp1 hp2;have e1:zs.getD p 0=zs[p]:=by simp[List.getD_eq_getElem?_getD,hp1]
 have e2:(byL (fun i=>decide (fU zs i=1)) zs.length).getD p 0=(byL (fun i=>decide (fU zs i=1)) zs.length)[p]:=by simp only[List.getD_eq_getElem?_getD,List.getElem?_eq_getElem hp2,Option.getD_some]
 rw[←e1,←e2,JB _ _ _ hp1];refine(Tk (zs.getD p 0) (hs p)).symm.trans (nz 8 (fun j hj=> ?_))
 unfold fU;rw[show(8*p+j)/8=p from by omega,show(8*p+j) % 8=j from by omega]
theorem Ic {f g:Nat→Bool}(n:Nat)(h: ∀i,i<8*n→f i=g i):byL f n=byL g n:=by
 unfold byL;apply List.map_congr_left;intro i hi;have:=List.mem_range.1 hi;exact nz 8 (fun j hj=>h _ (by omega))
theorem xP {k:Nat}(hk:1≤k∧k≤8)(ng:Bool)(e f:Nat):kU k ng e f=jT k (byL (Eb (exN k) (frN k) ng e f) (szN k)):=by
 obtain⟨h1,h2,h3,h4,-,h7⟩:=fZ hk;unfold kU
 congr 1
 have sm0:Dg.Small 256 (List.replicate (szN k) 0):=by
  intro i
  by_cases hi:i<szN k
  ·simp[List.getD_eq_getElem?_getD,hi]
  ·simp[List.getD_eq_getElem?_getD,hi]
 have key: ∀zs:List Nat,zs.length=szN k→Dg.Small 256 zs→(∀i,fU zs i=if i=0∧ng=true then 1 else 0)→iS (1+exN k) (frN k) f (iS 1 (exN k) e zs)=byL (Eb (exN k) (frN k) ng e f) (szN k):=fun zs hl hs hb=>by
  have hl2:(iS (1+exN k) (frN k) f (iS 1 (exN k) e zs)).length=szN k:=by rw[il,il,hl]
  rw[OT _ (mj _ _ _ _ (mj _ _ _ _ hs)),hl2];refine Ic _ (fun i hi=> ?_)
  rw[xO _ _ _ _ _ (by rw[il];omega),xO _ _ _ _ _ (by omega),hb i];unfold Eb
  by_cases h0:i=0
  ·subst h0
   rw[if_neg (by omega),if_neg (by omega),if_pos rfl]
   cases ng<;>rfl
  ·rw[if_neg h0]
   have hz:(if i=0∧ng=true then 1 else 0)=0:=if_neg (fun h=>h0 h.1)
   rw[hz]
   by_cases hx:i≤exN k
   ·rw[if_pos hx,if_neg (by omega),if_pos (show 1≤i∧i<1+exN k by omega),show 1+exN k-1-i=exN k-i from by omega]
    split
    ·rename_i h;rw[h]
    ·rename_i h;rw[decide_eq_false h];rfl
   ·rw[if_neg hx,if_pos (show 1+exN k≤i∧i<1+exN k+frN k by omega),if_neg (show¬(1≤i∧i<1+exN k) by omega),show 1+exN k+frN k-1-i=exN k+frN k-i from by omega]
    split
    ·rename_i h;rw[h]
    ·rename_i h;rw[decide_eq_false h];rfl
 cases ng
 ·rw[if_neg (by simp)]
  exact key _ List.length_replicate sm0 (fun i=>by rw[Ea];simp)
 ·rw[if_pos rfl]
  refine key _ (by rw[il];exact List.length_replicate) (mj _ _ _ _ sm0) (fun i=> ?_)
  rw[xO _ _ _ _ _ (by rw[List.length_replicate];omega),Ea]
  by_cases h0:i=0
  ·subst h0
   rfl
  ·rw[if_neg (by omega),if_neg (fun h=>h0 h.1)]
theorem XS (bf:Nat→Bool)(n i:Nat)(h:i<8*n):fU (byL bf n) i=if bf i then 1 else 0:=by
 unfold fU;rw[JB bf n _ (by omega)];have:=MF (fun j=>bf (8*(i/8)+j)) 8 (i % 8) (by omega)
 rw[show 8-1-i % 8=7-i % 8 from by omega,show 8*(i/8)+i % 8=i from by omega] at this
 exact this
theorem convert_bad (fm c p c2 p2 fl e1:Int)(g2:Bool)(m2:Nat)(st:ByteArray)(g:Bool)(m:Nat)(t:ak)(n k wy:Int)(s:ByteArray)(w:World)(hf:(fm==0)=false)(hc:(c==2)=false)(he: ¬e1=0)(HF:yJ 36 #[yi k] (yi fm))
  (HQ: ∀w1,yB w w1→yC 38 #[yi n,.string s,yi wy] w1 (CRes w1 c g m p t 0))
  (HM: ∀vo vc w1,yB w w1→Rd w1 .u32 (yT vo m vc) (Dg.dg 4294967296 m)→yC 52 #[yvV c g (yT vo m vc) p,yi fm] w1 (B6 w1 c2 g2 m2 p2 fl))
  (HE: ∀ao ac w1,yB w w1→Rd w1 .u32 (yT ao m2 ac) (Dg.dg 4294967296 m2)→yC 47 #[yi k,yvV c2 g2 (yT ao m2 ac) p2] w1 (yR w1 (.tuple #[.string st,yi e1]))):
  yC 19 #[yi n,.string s,yi k,yi wy] w (yR w (.tuple #[.string ⟨#[]⟩,yi 0,yi e1])):=by
 replace HF:Hid _:=HF;replace HQ:Hid _:=HQ;replace HM:Hid _:=HM;replace HE:Hid _:=HE
 go_enter func19,ntmps19
 have b0:=Below.refl w.heap.size w
 go_wp2_with fail
 refine(HF.out _).mono ?_;rintro zz w1 ⟨rfl,bb2⟩;have b3:=aa b0 bb2;clear b0 bb2
 go_wp2_with fail
 refine(HQ.out _ b3).mono ?_;rintro zz w4 ⟨v16,v27,rfl,r18,r29,bb5⟩;have b10:=aa b3 bb5;obtain⟨vo,vc,hv⟩:=r18.shape;subst hv;obtain⟨xo,xc,hv⟩:=r29.shape;subst hv;clear b3 bb5 HQ;obtain⟨W13,hW12,q14,q15,al11⟩:=iG w4 (yvL c g (yT vo m vc) p) 48 (yDL t xo xc) 78;replace hW12:Hid _:=hW12;have hl16:w.heap.size≤w4.heap.size:=b10.size;have r17:=r18.l al11;have b18:=aa b10 al11;clear r18 r29 b10 al11 q15
 go_upto_region 4 with fail
 rw[hW12.out];clear hW12;have c19:=q14.c 0 rfl
 go_upto_region 8 with fail
 clear c19;have bW20:yB W13 W13.drew:=(Below.refl _ _).drew;have q21:=q14.l bW20;have r22:=r17.l bW20;have b23:=aa b18 bW20;clear q14 r17 b18 bW20;refine wp_region_held_drew (S:=fun _=>True) (by kernel_rfl) trivial (fun hS0=> ?_)
 generalize W13.drew=WD24 at q21 r22 b23 hS0⊢;refine tq 1 (yi k) rfl (fun _ _=>by kernel_rfl) hS0 ?_
 refine wpAnyH_ready (rs:=[0,2]) (by kernel_rfl) (by simp) ?_;refine AllReadyH.cons rfl (fun K hK=> ?_) (AllReadyH.cons rfl (fun K hK=> ?_) AllReadyH.nil)
 ·rw[if_pos (by kernel_rfl)]
  refine wp_yield (yvV c g (yT vo m vc) p) (fy 48 (.tmp 11) rfl w4.heap.size 0 (by kernel_rfl) _ _ q21.range underlying48 rfl (by kernel_rfl)) ?_;refine hK.out _ _ trivial (fun hS25=> ?_)
  clear hK K;refine wpAnyH_ready (rs:=[2]) (by kernel_rfl) (by simp) ?_;refine AllReadyH.cons rfl (fun K hK=> ?_) AllReadyH.nil
  go_simp
  refine(HF.out _).mono ?_;rintro zz w26 ⟨rfl,bb27⟩;have q28:=q21.l bb27;have r29:=r22.l bb27;have b30:=aa b23 bb27;clear q21 r22 b23 bb27;refine hK.out _ _ trivial (fun hS31=> ?_)
  clear hK K;refine wpAnyH_ready (rs:=[3]) (by kernel_rfl) (by simp) ?_;refine AllReadyH.cons rfl (fun K hK=> ?_) AllReadyH.nil
  go_simp
  refine(HM.out _ _ _ b30 r29).mono ?_;rintro zz w32 ⟨v134,rfl,r135,bb33⟩;have q36:=q28.l bb33;have b37:=aa b30 bb33;obtain⟨ao,ac,hv⟩:=r135.shape;subst hv;clear q28 r29 b30 bb33 HM;refine hK.out _ _ trivial (fun hS38=> ?_)
  clear hK K;refine tq 4 (.tuple #[yvV c2 g2 (yT ao m2 ac) p2,yi fl]) rfl (fun _ _=>by kernel_rfl) hS38 ?_
  refine tq 5 (yvV c2 g2 (yT ao m2 ac) p2) rfl (fun _ _=>by go_simp) hS38 ?_
  refine tq 6 (yi fl) rfl (fun _ _=>by go_simp) hS38 ?_
  refine wpAnyH_ready (rs:=[7]) (by kernel_rfl) (by simp) ?_;refine AllReadyH.cons rfl (fun K hK=> ?_) AllReadyH.nil
  have bu:But w4.heap.size w32 (w32.setCells w4.heap.size 0 (yvL c2 g2 (yT ao m2 ac) p2)):=de _ _ _ _;have hth:w32.there w4.heap.size 0 4:=dD q36;have q39:au (w32.setCells w4.heap.size 0 (yvL c2 g2 (yT ao m2 ac) p2)) w4.heap.size 48 (yvL c2 g2 (yT ao m2 ac) p2):=q36.sets _ rfl;have r40:=bu.rd r135 (aX r135 q36 (by simp));have b41:=bu.below b37 (by omega);rw[if_pos (by kernel_rfl)];refine wp_store_mid 48 (.tmp 11) (.tmp 46) rfl w4.heap.size 0 (yvA c2 g2 (yT ao m2 ac) p2) (by kernel_rfl) (by kernel_rfl) hth (by kernel_rfl) (by simp[Value.oneCell']) ?_;refine hK.out _ _ trivial (fun hS42=> ?_)
  clear hK K;clear q36 r135 b37 bu hth;refine tq 8 (yi fl) rfl (fun _ _=>by kernel_rfl) hS42 ?_
  refine wpAnyH_done (by kernel_rfl) ?_ _;clear hS0 hS25 hS31 hS38 hS42;change Exit.then _ _ _ _ (World.setCells w32 w4.heap.size 0 (yvL c2 g2 (yT ao m2 ac) p2));generalize World.setCells w32 w4.heap.size 0 (yvL c2 g2 (yT ao m2 ac) p2)=W43 at q39 r40 b41⊢;simp only[Act.put,List.getElem_toArray,List.getElem_cons_succ,List.getElem_cons_zero,List.setIfInBounds_toArray,List.set_cons_zero,List.set_cons_succ];obtain⟨c44,c45,c46,c47⟩:=q39.cs4
  go_wp2_with fail
  refine(HE.out _ _ _ b41 r40).mono ?_;rintro zz w48 ⟨rfl,bb49⟩;have b50:=aa b41 bb49;clear q39 r40 b41 bb49 HE c44 c45 c46 c47
  go_wp2
  go_ret3
  exact⟨by simp,b50⟩
 ·go_simp
  refine(HF.out _).mono ?_;rintro zz w25 ⟨rfl,bb26⟩;have q27:=q21.l bb26;have r28:=r22.l bb26;have b29:=aa b23 bb26;clear q21 r22 b23 bb26;refine hK.out _ _ trivial (fun hS30=> ?_)
  clear hK K;refine wpAnyH_ready (rs:=[0]) (by kernel_rfl) (by simp) ?_;refine AllReadyH.cons rfl (fun K hK=> ?_) AllReadyH.nil
  rw[if_pos (by kernel_rfl)];refine wp_yield (yvV c g (yT vo m vc) p) (fy 48 (.tmp 11) rfl w4.heap.size 0 (by kernel_rfl) _ _ q27.range underlying48 rfl (by kernel_rfl)) ?_;refine hK.out _ _ trivial (fun hS31=> ?_)
  clear hK K;refine wpAnyH_ready (rs:=[3]) (by kernel_rfl) (by simp) ?_;refine AllReadyH.cons rfl (fun K hK=> ?_) AllReadyH.nil
  go_simp
  refine(HM.out _ _ _ b29 r28).mono ?_;rintro zz w32 ⟨v134,rfl,r135,bb33⟩;have q36:=q27.l bb33;have b37:=aa b29 bb33;obtain⟨ao,ac,hv⟩:=r135.shape;subst hv;clear q27 r28 b29 bb33 HM;refine hK.out _ _ trivial (fun hS38=> ?_)
  clear hK K;refine tq 4 (.tuple #[yvV c2 g2 (yT ao m2 ac) p2,yi fl]) rfl (fun _ _=>by kernel_rfl) hS38 ?_
  refine tq 5 (yvV c2 g2 (yT ao m2 ac) p2) rfl (fun _ _=>by go_simp) hS38 ?_
  refine tq 6 (yi fl) rfl (fun _ _=>by go_simp) hS38 ?_
  refine wpAnyH_ready (rs:=[7]) (by kernel_rfl) (by simp) ?_;refine AllReadyH.cons rfl (fun K hK=> ?_) AllReadyH.nil
  have bu:But w4.heap.size w32 (w32.setCells w4.heap.size 0 (yvL c2 g2 (yT ao m2 ac) p2)):=de _ _ _ _;have hth:w32.there w4.heap.size 0 4:=dD q36;have q39:au (w32.setCells w4.heap.size 0 (yvL c2 g2 (yT ao m2 ac) p2)) w4.heap.size 48 (yvL c2 g2 (yT ao m2 ac) p2):=q36.sets _ rfl;have r40:=bu.rd r135 (aX r135 q36 (by simp));have b41:=bu.below b37 (by omega);rw[if_pos (by kernel_rfl)];refine wp_store_mid 48 (.tmp 11) (.tmp 46) rfl w4.heap.size 0 (yvA c2 g2 (yT ao m2 ac) p2) (by kernel_rfl) (by kernel_rfl) hth (by kernel_rfl) (by simp[Value.oneCell']) ?_;refine hK.out _ _ trivial (fun hS42=> ?_)
  clear hK K;clear q36 r135 b37 bu hth;refine tq 8 (yi fl) rfl (fun _ _=>by kernel_rfl) hS42 ?_
  refine wpAnyH_done (by kernel_rfl) ?_ _;clear hS0 hS30 hS31 hS38 hS42;change Exit.then _ _ _ _ (World.setCells w32 w4.heap.size 0 (yvL c2 g2 (yT ao m2 ac) p2));generalize World.setCells w32 w4.heap.size 0 (yvL c2 g2 (yT ao m2 ac) p2)=W43 at q39 r40 b41⊢;simp only[Act.put,List.getElem_toArray,List.getElem_cons_succ,List.getElem_cons_zero,List.setIfInBounds_toArray,List.set_cons_zero,List.set_cons_succ];obtain⟨c44,c45,c46,c47⟩:=q39.cs4
  go_wp2_with fail
  refine(HE.out _ _ _ b41 r40).mono ?_;rintro zz w48 ⟨rfl,bb49⟩;have b50:=aa b41 bb49;clear q39 r40 b41 bb49 HE c44 c45 c46 c47
  go_wp2
  go_ret3
  exact⟨by simp,b50⟩
theorem mL.l {w w':World}{b:Nat}{v0 v1 v2 v3 v4 v5:Value}(h:mL w b v0 v1 v2 v3 v4 v5)(hb:yB w w'):mL w' b v0 v1 v2 v3 v4 v5:=by
 obtain⟨hl,⟨c0,c1,c2,c3,c4,c5⟩,f0,f1,f2,f3,f4,f5⟩:=h;refine⟨Nat.lt_of_lt_of_le hl hb.size,⟨cell_later hb c0,cell_later hb c1,cell_later hb c2,cell_later hb c3,cell_later hb c4,cell_later hb c5⟩, ?_, ?_, ?_, ?_, ?_, ?_⟩
 all_goals rw[hb.frozen (by exact hl)];assumption
theorem ZB6.l {w w':World}{b:Nat}(h:ZB6 w b)(hb:yB w w'):ZB6 w' b:=by
 obtain⟨hl,ty,hh⟩:=h;exact⟨Nat.lt_of_lt_of_le hl hb.size,ty,(hb.block b hl).trans hh⟩
theorem Ag.l {W W':World}{base:Nat}{v:Value}(h:Ag W base v)(hb:yB W W'):Ag W' base v:=by
 obtain⟨p,h1,h2,h3⟩:=h;exact⟨p,h1,h2,h3.l hb⟩
theorem BT.l {W W':World}{base:Nat}{v:Value}(h:BT W base v)(hb:yB W W'):BT W' base v:=by
 obtain⟨p,h1,h2,h3,h4⟩:=h;exact⟨p,h1,h2,h3.l hb,h4.l hb⟩
theorem V4.l {W W':World}{base:Nat}{v:Value}(h:V4 W base v)(hb:yB W W'):V4 W' base v:=by
 obtain⟨p,h1,h2,h3,h4⟩:=h;exact⟨p,h1,h2,h3.l hb,h4.l hb⟩
theorem RB6.l {W W':World}{v:Value}{x y:ak}(h:RB6 W v x y)(hb:yB W W'):RB6 W' v x y:=by
 obtain⟨p,q,h1,h2,h3⟩:=h;exact⟨p,q,h1,h2.l hb,h3.l hb⟩
theorem goes_up {l B:Nat}{o n:Bool}(h:B<l*2):gY 1 (dm ((l*2:Nat):Int) ((B:Nat):Int)) o n=true:=by
 unfold gY dm;rw[if_pos rfl,if_neg (by omega),if_pos (by omega)];rfl
theorem goes_not {l B:Nat}{o n:Bool}(h:l*2<B):gY 1 (dm ((l*2:Nat):Int) ((B:Nat):Int)) o n=false:=by
 unfold gY dm;rw[if_pos rfl,if_pos (by omega)];rfl
theorem round_out {R D L G E k:Int}{gr qs:Bool}{N M d:Nat}(hc:dj R D L gr N M E=k)(h0:d≠0)
  (hd:(cH R D L gr N M E=d∧gF R D L gr N M E*2<dX M (shP R D L gr N M E))∨(cH R D L gr N M E+1=d∧dX M (shP R D L gr N M E)<gF R D L gr N M E*2)):
  (cI R D L G gr qs N M E 1).s=qs∧(cI R D L G gr qs N M E 1).d=io R D d∧(cI R D L G gr qs N M E 1).p=gD R D d k∧(cI R D L G gr qs N M E 1).ov=decide (G<gD R D d k):=by
 have hg:fM R D L gr qs N M E 1=d:=by
  unfold fM rf
  rcases hd with⟨h1,h2⟩| ⟨h1,h2⟩
  ·rw[goes_not h2,if_neg (by rintro⟨-,c⟩;cases c),h1]
  ·rw[goes_up h2,if_pos ⟨decide_eq_false (by omega),rfl⟩,h1]
 unfold cI;rw[hg,if_neg h0,hc];exact⟨rfl,rfl,rfl,rfl⟩
theorem near_round {R D L G E k:Int}{gr qs:Bool}{N M d:Nat}(hD:1≤D)(hN:N≠0)(hM:M≠0)(h0:d≠0)
  (h2:d<2^ (ai R*D.toNat)) (hk:L≤k) (hf:2^ (ai R*(D-1).toNat)≤d∨(gr=true∧k=L))
  (hu:eZ N (E-(ai R:Int)*k)*(2*2^ (ai R*D.toNat))<d*dX M (E-(ai R:Int)*k)*(2*2^ (ai R*D.toNat))+d*dX M (E-(ai R:Int)*k))
  (hl:d*dX M (E-(ai R:Int)*k)*(2*2^ (ai R*D.toNat))<eZ N (E-(ai R:Int)*k)*(2*2^ (ai R*D.toNat))+d*dX M (E-(ai R:Int)*k)):
  (cI R D L G gr qs N M E 1).s=qs∧(cI R D L G gr qs N M E 1).d=d∧(cI R D L G gr qs N M E 1).p=k∧(cI R D L G gr qs N M E 1).ov=decide (G<k):=by
 obtain⟨w1,w4⟩:=eN R;obtain⟨n,hn⟩: ∃n,E-(ai R:Int)*k=n:=⟨_,rfl⟩;rw[hn] at hu hl;have hB:0<dX M n:=by rw[eM];exact Nat.mul_pos (Nat.pos_of_ne_zero hM) (bG _)
 have ht0:=qD N M E;have hge:=fun j=>BD N M n j hN hM
 obtain⟨W,hW⟩: ∃W,ai R=W:=⟨_,rfl⟩;rw[hW] at w1 w4 hn hu hl h2 hf;have eD:((W*D.toNat:Nat):Int)=(W:Int)*D:=by rw[Int.natCast_mul,show((D.toNat:Nat):Int)=D by omega]
 have eD1:((W*(D-1).toNat:Nat):Int)=(W:Int)*(D-1):=by rw[Int.natCast_mul,show(((D-1).toNat:Nat):Int)=D-1 by omega]
 have eT:2^ (W*D.toNat)=2^ (W*(D-1).toNat)*2^W:=by
  rw[←Nat.pow_add,←Nat.mul_succ];congr 2;omega
 have hT2:2≤2^W:=by
  have:2^1≤2^W:=Nat.pow_le_pow_right (by omega) w1;omega
 have hgT:=hge (W*D.toNat);have hg1:=hge (W*(D-1).toNat);have hm0:0<2^ (W*(D-1).toNat):=bG _;have hcar: ∀q,d<2^ (W*D.toNat)→io R D d=d∧gD R D d q=q:=fun q h=>by
  unfold io gD;rw[hW,if_neg (by omega),if_neg (by omega)];exact⟨rfl,rfl⟩
 have same: ∀(hp:(eZ N n/dX M n=d∧eZ N n % dX M n*2<dX M n)∨(eZ N n/dX M n+1=d∧dX M n<eZ N n % dX M n*2)),
   (2^ (W*(D-1).toNat)≤eZ N n/dX M n∨(gr=true∧k=L))→
   (cI R D L G gr qs N M E 1).s=qs∧(cI R D L G gr qs N M E 1).d=d∧(cI R D L G gr qs N M E 1).p=k∧(cI R D L G gr qs N M E 1).ov=decide (G<k):=fun hp hq=>by
  have hlt: ¬2^ (W*D.toNat)≤eZ N n/dX M n:=by omega
  have hc:dj R D L gr N M E=k:=by
   unfold dj
   by_cases c:2^ (W*(D-1).toNat)≤eZ N n/dX M n
   ·have p1:=hg1.1 c
    have p2: ¬((W*D.toNat:Nat):Int)≤dY N M 0+n:=fun x=>hlt (hgT.2 x)
    have:=powerR_eq (R:=R) (D:=D) (k:=k) (t:=dY N M E) (by rw[hW,ht0];omega) (by rw[hW,ht0];omega);rw[this,decide_eq_false (by omega)];rfl
   ·obtain⟨rfl,rfl⟩:=hq.resolve_left c
    have p1: ¬((W*(D-1).toNat:Nat):Int)≤dY N M 0+n:=fun x=>c (hg1.2 x)
    have:=powerR_less (R:=R) (D:=D) (k:=k) (t:=dY N M E) (by rw[hW,ht0];omega);rw[decide_eq_true this];rfl
  have es:shP R D L gr N M E=n:=by
   unfold shP;rw[hc,hW,hn]
  have:=round_out (G:=G) (qs:=qs) hc h0 (by unfold cH gF;rw[es];exact hp);rw[(hcar k h2).1,(hcar k h2).2] at this;exact this
 generalize hA:eZ N n=A at hu hl hge hgT hg1 same;generalize hBb:dX M n=B at hu hl hge hgT hg1 same hB;generalize hTT:2^ (W*D.toNat)=T at hu hl h2 eT hgT hcar same;generalize hmm:2^ (W*(D-1).toNat)=m0 at hf eT hg1 hm0 same;have hdT:d*B≤T*B:=Nat.mul_le_mul_right _ (Nat.le_of_lt h2);have hTpos:0<T:=by omega
 rcases Nat.lt_or_ge A (d*B) with hlt|hge2
 ·obtain⟨s,hs⟩: ∃s,d*B=A+s:=⟨d*B-A,by omega⟩
  have hsp:0<s:=by omega
  have k1:s*(2*T)<d*B:=by
   rw[hs,Nat.add_mul] at hl;rw[hs];omega
  have k2:s*2<B:=by
   refine Nat.lt_of_mul_lt_mul_right (a:=T) ?_
   calc s*2*T=s*(2*T):=by rw[Nat.mul_assoc]
    _<d*B:=k1
    _≤T*B:=hdT
    _=B*T:=Nat.mul_comm _ _
  obtain⟨d',rfl⟩: ∃d',d=d'+1:=⟨d-1,by omega⟩;have eA:A=B*d'+(B-s):=by rw[Nat.succ_mul,Nat.mul_comm d'] at hs;omega
  have q1:A/B=d':=by rw[eA,Nat.mul_add_div hB,Nat.div_eq_of_lt (by omega),Nat.add_zero]
  have q2:A % B=B-s:=by rw[eA,Nat.mul_add_mod,Nat.mod_eq_of_lt (by omega)]
  by_cases c:m0≤d'∨(gr=true∧k=L)
  ·exact same (.inr ⟨by rw[q1],by rw[q2];omega⟩) (by rw[q1];exact c)
  ·have hdm:m0=d'+1:=by
    rcases hf with h|h
    ·have:=fun h=>c (.inl h)
     omega
    ·exact absurd (.inr h) c
   have cg: ¬(gr=true∧k=L):=fun h=>c (.inr h)
   have eK:E-(W:Int)*(k-1)=n+(W:Int):=by rw[Int.mul_sub,Int.mul_one];omega
   have hA':eZ N (n+(W:Int))*B=2^W*A*dX M (n+(W:Int)):=by
    rw[←hA,←hBb,fw,fw,eM,eM];have e1:(n+(W:Int)).toNat+(-n).toNat=W+n.toNat+(-(n+(W:Int))).toNat:=by omega
    have l:N*2^ (n+(W:Int)).toNat*(M*2^ (-n).toNat)=N*M*2^ ((n+(W:Int)).toNat+(-n).toNat):=by rw[Nat.pow_add];ac_rfl
    have r:2^W*(N*2^n.toNat)*(M*2^ (-(n+(W:Int))).toNat)=N*M*2^ (W+n.toNat+(-(n+(W:Int))).toNat):=by rw[Nat.pow_add,Nat.pow_add];ac_rfl
    rw[l,r,e1]
   have hB':0<dX M (n+(W:Int)):=by rw[eM];exact Nat.mul_pos (Nat.pos_of_ne_zero hM) (bG _)
   have hgT':=BD N M (n+(W:Int)) (W*(D-1).toNat) hN hM;rw[hmm] at hgT';generalize hAa':eZ N (n+(W:Int))=A' at hA' hgT';generalize hBb':dX M (n+(W:Int))=B' at hA' hB' hgT';obtain⟨s',hs'⟩: ∃s',s'=T*B'-A':=⟨_,rfl⟩;have f1:T*B'*B=2^W*(d'+1)*B*B':=by rw[eT,hdm];ac_rfl
   have f2:2^W*(d'+1)*B*B'=2^W*A*B'+2^W*s*B':=by rw[Nat.mul_assoc (2^W),hs,Nat.mul_add,Nat.add_mul]
   have f3:A'≤T*B':=Nat.le_of_mul_le_mul_right (c:=B) (by rw[hA',f1,f2];omega) hB;have f4:T*B'=A'+s':=by omega
   have f5:s'*B=2^W*s*B':=by
    have:(A'+s')*B=2^W*A*B'+2^W*s*B':=by rw[←f4,f1,f2]
    rw[Nat.add_mul,hA'] at this;omega
   have f6:2^W*s*2<B:=by
    refine Nat.lt_of_mul_lt_mul_right (a:=d'+1) ?_
    calc 2^W*s*2*(d'+1)=s*(2*((d'+1)*2^W)):=by ac_rfl
     _=s*(2*T):=by rw[eT,hdm]
     _< (d'+1)*B:=k1
     _=B*(d'+1):=Nat.mul_comm _ _
   have f7:s'*2<B':=by
    refine Nat.lt_of_mul_lt_mul_right (a:=B) ?_
    calc s'*2*B=2^W*s*2*B':=by rw[Nat.mul_right_comm,f5];ac_rfl
     _<B*B':=Nat.mul_lt_mul_of_pos_right f6 hB'
     _=B'*B:=Nat.mul_comm _ _
   have f8:0<s':=by
    rcases Nat.eq_zero_or_pos s' with z|z
    ·rw[z,Nat.zero_mul] at f5
     have:=Nat.mul_pos (Nat.mul_pos (bG W) hsp) hB';omega
    ·exact z
   obtain⟨T',rfl⟩: ∃T',T=T'+1:=⟨T-1,by omega⟩;have eA':A'=B'*T'+(B'-s'):=by rw[Nat.succ_mul,Nat.mul_comm T'] at f4;omega
   have r1:A'/B'=T':=by rw[eA',Nat.mul_add_div hB',Nat.div_eq_of_lt (by omega),Nat.add_zero]
   have r2:A' % B'=B'-s':=by rw[eA',Nat.mul_add_mod,Nat.mod_eq_of_lt (by omega)]
   have hmT:m0*2≤T'+1:=by rw[eT];exact Nat.mul_le_mul_left _ hT2
   have p1:=hgT'.1 (by rw[r1];omega);have p2: ¬((W*(D-1).toNat:Nat):Int)≤dY N M 0+n:=fun x=>by
    have:=hg1.2 x;rw[q1] at this;omega
   have eK2:(W:Int)*(k-1)=(W:Int)*k-(W:Int):=by rw[Int.mul_sub,Int.mul_one]
   have eD2:(W:Int)*(D-1)=(W:Int)*D-(W:Int):=by rw[Int.mul_sub,Int.mul_one]
   have hpw:=powerR_eq (R:=R) (D:=D) (k:=k-1) (t:=dY N M E) (by rw[hW,ht0,eK2];omega) (by rw[hW,ht0,eK2];omega);have hc:dj R D L gr N M E=k-1:=by
    unfold dj;rw[hpw]
    by_cases h:k-1<L
    ·have hg:gr=false:=by
      cases gr
      ·rfl
      ·exact absurd ⟨rfl,by omega⟩ cg
     rw[hg,Bool.and_false];rfl
    ·rw[decide_eq_false h]
     rfl
   have es:shP R D L gr N M E=n+(W:Int):=by
    unfold shP;rw[hc,hW];exact eK
   have hwl:cH R D L gr N M E=T'∧gF R D L gr N M E=B'-s'∧dX M (shP R D L gr N M E)=B':=by
    unfold cH gF;rw[es,hBb'];rw[hAa'];exact⟨r1,r2,rfl⟩
   have:=round_out (G:=G) (qs:=qs) hc (show T'+1≠0 by omega) (.inr ⟨by rw[hwl.1],by rw[hwl.2.1,hwl.2.2];omega⟩)
   have hcd:io R D (T'+1)=d'+1∧gD R D (T'+1) (k-1)=k:=by
    unfold io gD;rw[hW,hTT,hmm,if_pos rfl,if_pos rfl];exact⟨hdm,by omega⟩
   rw[hcd.1,hcd.2] at this;exact this
 ·obtain⟨s,rfl⟩: ∃s,A=d*B+s:=⟨A-d*B,by omega⟩
  have k1:s*(2*T)<d*B:=by
   rw[Nat.add_mul] at hu;omega
  have k2:s*2<B:=by
   refine Nat.lt_of_mul_lt_mul_right (a:=T) ?_
   calc s*2*T=s*(2*T):=by rw[Nat.mul_assoc]
    _<d*B:=k1
    _≤T*B:=hdT
    _=B*T:=Nat.mul_comm _ _
  have q1:(d*B+s)/B=d:=by rw[Nat.mul_comm,Nat.mul_add_div hB,Nat.div_eq_of_lt (by omega),Nat.add_zero]
  have q2:(d*B+s) % B=s:=by rw[Nat.mul_comm,Nat.mul_add_mod,Nat.mod_eq_of_lt (by omega)]
  exact same (.inl ⟨q1,by rw[q2];exact k2⟩) (by rw[q1];exact hf)
end Go.Proofs.YtlgkfdcmokchgaaGreatDoor
