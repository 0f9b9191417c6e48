/-
  Texts laid together: Pa2, Pa4, Pa5, Rb3, Tx6, Tx11, Tx15, Tx17.
-/
import Derived.Test.YtdhpndnncmagiaaGreatDoorMa39
import Derived.Test.YtdhpndnncmagiaaGreatDoorMa40
namespace Go.Proofs.YtdhpndnncmagiaaGreatDoor
open _root_.Go.Proofs.Tryz
open Go.RowKit
theorem AJ (k:Nat)(hk:1≤k∧k≤8)(wy:Int)(hw:1≤wy∧wy≤5)(c fl:Int)(g:Bool)(t:ak)(ro:Option Addr)(rc:Nat)(w:World)(hc:c=2→t.n≠0∧sH t)(hr:Rd w .u32 (yT ro t.n rc) (Dg.dg 4294967296 t.n))(hT:Tab w):
  yC 66 #[dsk k wy,yOV c g t ro rc,yi fl] w (mM (m8 k wy c g t fl) w):=by
 unfold m8
 by_cases h2:c=2
 ·subst h2
  rw[if_pos rfl];obtain⟨h0,hn⟩:=hc rfl;obtain⟨p1,p2⟩:=VA k hk wy hw t h0 hn;refine El k wy (dK k) (rdN k) (dgN k) (lsI k) (gsI k) fl (decide (k≤3)) g t ro rc t.s (rtN t) (rtM t) (rtE t) (fY k wy t).s (fY k wy t).d (fY k wy t).p (fY k wy t).ex (fY k wy t).ov (fY k wy t).un _ _ _ _ _ _ _ _ _ w rfl (fun w1 b=>NV t ro rc w1 h0 hn (hr.l b) (hT.l b)) (fun no nc mo mc w1 b r1 r2=> ?_) (fun po pc w1 b r1=>Px k hk wy hw (fY k wy t) po pc w1 r1) (fun vo vc w1 b r1=>CZ k wy _ _ _ _ _ vo vc w1 r1 (hT.l b))
  have:=jM t.s no nc (Dg.dg 4294967296 (rtN t)) mo mc (Dg.dg 4294967296 (rtM t)) (rtE t) (rdN k) (dgN k) (lsI k) (gsI k) (decide (k≤3)) wy w1 r1 r2 (Dg.small_dg _ _ (by omega)) (Dg.small_dg _ _ (by omega));rw[p1,p2] at this;exact this.mono (fun z w' h=>by
   obtain⟨v,rfl,own,b2⟩:=h;obtain⟨po,pc,hv⟩:=own.rd.shape;subst hv;exact⟨po,pc,rfl,own.rd,b2⟩)
 ·rw[if_neg h2]
  have HE:=fun c' g' w1 (b:yB w w1)=>CZ k wy c' 0 fl g' 0 none 0 w1 (aN _ _) (hT.l b)
  by_cases h1:c=1
  ·subst h1
   rw[if_pos rfl]
   cases g
   ·exact VF _ _ _ _ _ _ _ _ _ _ _ _ _ _ _ w (fun w1 b=>HE 1 false w1 b)
   ·rcases qt hk with hf|hf
    ·rw[hf]
     unfold dsk;rw[hf];exact VG _ _ _ _ _ _ _ _ _ _ _ _ _ _ w (fun w1 b=>by have:=HE 1 true w1 b;unfold dsk at this;rw[hf] at this;exact this)
    ·rw[decide_eq_false (by omega)]
     exact VH _ _ _ _ _ _ _ _ _ _ _ _ _ _ _ w (by simp;omega) (fun w1 b=>HE 1 false w1 b)
  ·rw[if_neg h1]
   exact Rj c g _ _ _ _ _ _ _ _ _ _ _ _ _ _ _ w (by simpa using h2) (by simpa using h1) (fun w1 b=>HE c g w1 b)
theorem nQ (n way:Int)(ps:List ByteArray)(f:Int×Bool×ak×Int)(F pb:Nat)(w:World)(hm3:ps.length≤3)(hm0:1≤ps.length)(hp:au w pb 9 (ps.map Value.string))(hfn: ∀args W,(callFunc F args).run Tryz.prog W= .ok (.enter F args) W)(hT:Tab w)
  (HF: ∀k:Nat,1≤k∧k≤8→n=(k:Int)→fT n ps=0→ps.any (dO n)=false→(f.1=2→f.2.2.1.n≠0∧sH f.2.2.1)∧ ∀g cap w1,yB w w1→sF w1 n ps g cap→yC F #[dsk k way,.slice (some ⟨g,0,none⟩) ps.length cap] w1 (RE w1 f)):
  yC 33 #[yi n,yi way,.func (.func F) #[] #[],.slice (some ⟨pb,0,none⟩) ps.length ps.length] w (mM (jV n way ps f) w):=by
 unfold jV
 by_cases hf:dK n=0
 ·rw[if_pos hf]
  exact Rk n way 6 F ps.length pb w (by decide) (fun w1=>FM n 6 (by decide) w1 (fun w3=>vU n w3 hf))
 rw[if_neg hf];obtain⟨k1,k2,k3⟩:=fF hf;obtain⟨k,rfl⟩: ∃k:Nat,n=(k:Int):=⟨n.toNat,k3.symm⟩;rw[Int.toNat_natCast] at k1 k2;have hk:1≤k∧k≤8:=⟨k1,k2⟩;have HD:=fun w1=>mp k hk w1
 have HO:=fun w1 (b:yB w w1)=>vQ (k:Int) 0 (dK (k:Int)) (rdN k) (dgN k) (lsI k) (gsI k) (decide (k≤3)) ps pb w1 (hp.l b) hm3 (fun p w3 b3=>zj (k:Int) p w3 ((hT.l b).l b3))
 by_cases he:fT (k:Int) ps=0
 ·rw[if_neg (fun c=>c he)]
  have HO2: ∀w1,yB w w1→yC 64 #[dsk k 0,.slice (some ⟨pb,0,none⟩) ps.length ps.length] w1 fun z w'=> ∃g cap,z= .returned (.tuple #[.slice (some ⟨g,0,none⟩) ps.length cap,yi 0])∧sF w' (k:Int) ps g cap∧w1.heap.size≤g∧yB w1 w':=fun w1 b=>by
   refine(HO w1 b).mono (fun z w' hz=> ?_)
   obtain⟨-,v,cs,rfl,hown,hat,b2⟩:=hz.resolve_right (fun h=>h.1 he)
   obtain⟨g,cap,hv,hV⟩:=JF (fun h=>by subst h;simp at hm0) hown hat
   subst hv;exact⟨g,cap,rfl,hV,(World.ownsRow.lt hown g rfl).1,b2⟩
  by_cases hw1:way<1
  ·rw[if_pos (.inl hw1)]
   exact NX (k:Int) _ _ _ _ _ way _ F ps.length ps pb w hw1 HD HO2
  by_cases hw2:5<way
  ·rw[if_pos (.inr hw2)]
   exact NY (k:Int) _ _ _ _ _ way _ F ps.length ps pb w hw1 hw2 HD HO2
  rw[if_neg (by omega)];have hw:1≤way∧way≤5:=by omega
  rw[Int.toNat_natCast]
  by_cases hN:ps.any (dO (k:Int))=true
  ·rw[if_pos hN]
   have HX: ∀g cap w1,sF w1 (k:Int) ps g cap→yC 65 #[.slice (some ⟨g,0,none⟩) ps.length cap] w1 (yR w1 (.bool true)):=fun g cap w1 h=>by
    have:=wJ (k:Int) ps g cap w1 h hm3
    rwa [hN] at this
   have hc:AZ (dK (k:Int))=2→(⟨false,0,0⟩:ak).n≠0∧sH ⟨false,0,0⟩:=fun h=>(vN (k:=k) (fl:=0) h).elim
   by_cases h1:dK (k:Int)=1
   ·rw[if_pos h1]
    have HA:=fun w1 (b:yB w w1)=>AJ k hk way hw (AZ (dK (k:Int))) 0 false ⟨false,0,0⟩ none 0 w1 hc (aN _ _) (hT.l b)
    have HN:=fun w1=>lV k hk way 0 w1
    unfold dsk at HA HN HO2;rw[h1] at HD HO2 HA HN⊢;exact Rm _ _ _ _ (k:Int) _ _ _ _ way _ F ps.length ps pb w hw1 hw2 HD HO2 HX HN HA
   ·rw[if_neg h1]
    exact Rn _ _ _ _ (k:Int) _ _ _ _ _ way _ F ps.length ps pb w hw1 hw2 (by simpa using h1) HD HO2 HX (fun w1=>lV k hk way 16 w1) (fun w1 b=>AJ k hk way hw _ 16 false ⟨false,0,0⟩ none 0 w1 hc (aN _ _) (hT.l b))
  ·rw[if_neg hN]
   have hN':ps.any (dO (k:Int))=false:=by simpa using hN
   obtain⟨hc,HFc⟩:=HF k hk rfl he hN';exact IP (k:Int) _ _ _ _ _ way _ _ _ _ _ _ _ F ps.length ps pb _ w hw.1 hw.2 rfl hm3 hm0 he hN' hp hfn HD (fun w1 b _=>HO w1 b) (fun g cap w1 b h=>HFc g cap w1 b h) (fun ro rc w1 b r=>AJ k hk way hw _ _ _ _ ro rc w1 hc r (hT.l b))
 ·rw[if_pos he]
  refine Rl _ (k:Int) _ _ _ _ _ way _ F ps.length pb w (by simpa using he) HD (fun w1 b=>(HO w1 b).mono (fun z w' hz=> ?_))
  rcases hz with h|h
  ·exact absurd h.1 he
  ·exact h.2
theorem DI (n way:Int)(a b:ByteArray)(w:World)(hT:Tab w):yC 15 #[yi n,.string a,.string b,yi way] w (mM (jV n way [a,b] (OX n way a b)) w):=by
 refine acw n way _ _ a b _ w (fun pb w1 b1 hl=> ?_)
 refine nQ n way [a,b] _ _ pb w1 (by simp) (by simp) hl (enter_of func34 (by kernel_rfl) rfl) (hT.l b1) (fun k hk hn he hN=> ?_)
 subst hn;unfold OX;rw[Int.toNat_natCast];obtain⟨sa,-,-⟩:=ir hk (eU he a (by simp));obtain⟨sb,-,-⟩:=ir hk (eU he b (by simp));refine⟨fun h=>FU (rJ sa sb).1 h,fun g cap w2 b2 h=> ?_⟩
 obtain⟨xo,xc,r0,k0⟩:=h.each 0 a rfl;obtain⟨yo,yc,r1,k1⟩:=h.each 1 b rfl;exact X7 _ _ _ _ _ _ _ _ _ _ _ _ _ _ _ _ _ _ _ _ _ _ _ _ w2 r0 r1 (fun w3 b3=>GQ k hk way _ _ _ _ _ _ _ _ _ _ w3 (k0.l b3) (k1.l b3) (jB sa) (jB sb))
theorem AN (n way:Int)(a b:ByteArray)(w:World)(hT:Tab w):yC 98 #[yi n,.string a,.string b,yi way] w (mM (jV n way [a,b] (qL n a b)) w):=by
 refine aeR n way _ _ a b _ w (fun pb w1 b1 hl=> ?_)
 refine nQ n way [a,b] _ _ pb w1 (by simp) (by simp) hl (enter_of func169 (by kernel_rfl) rfl) (hT.l b1) (fun k hk hn he hN=> ?_)
 subst hn;unfold qL;rw[Int.toNat_natCast];obtain⟨sa,-,-⟩:=ir hk (eU he a (by simp));obtain⟨sb,-,-⟩:=ir hk (eU he b (by simp));refine⟨fun h=>I4 (rJ sa sb).2.1 h,fun g cap w2 b2 h=> ?_⟩
 obtain⟨xo,xc,r0,k0⟩:=h.each 0 a rfl;obtain⟨yo,yc,r1,k1⟩:=h.each 1 b rfl;exact adb _ _ _ _ _ _ _ _ _ _ _ _ _ _ _ _ _ _ _ _ _ _ _ _ w2 r0 r1 (fun w3 b3=>vZ k hk way _ _ _ _ _ _ _ _ _ _ w3 (k0.l b3) (k1.l b3) (jB sa) (jB sb))
theorem fit_any (k:Nat)(hk:1≤k∧k≤8)(way:Int)(qs:Bool)(ao:Option Addr)(ca:Nat)(xs:List Nat)(bo:Option Addr)(cb:Nat)(ys:List Nat)(E:Int)(w:World)(ha:Rd w .u32 (.slice ao xs.length ca) xs)(hb:Rd w .u32 (.slice bo ys.length cb) ys)(sa:Dg.Small 4294967296 xs)(sb:Dg.Small 4294967296 ys)(hT:Tab w):
  yC 32 #[yi k,yrV qs (.slice ao xs.length ca) (.slice bo ys.length cb) E,yi way] w (mM (fitT k way qs xs ys E) w):=by
 unfold fitT;have HR:=fun w1 (b:yB w w1)=>jM qs ao ca xs bo cb ys E (rdN k) (dgN k) (lsI k) (gsI k) (decide (k≤3)) way w1 (ha.l b) (hb.l b) sa sb
 have hway:eE xs ys E (rdN k) (dgN k) (lsI k) (gsI k) way=0→1≤way∧way≤5:=fun h=>way_is.1 (Nb h).2.2
 generalize hP:df xs ys E (rdN k) (dgN k) (lsI k) (gsI k) (decide (k≤3)) qs way=P at*;generalize hC:eE xs ys E (rdN k) (dgN k) (lsI k) (gsI k) way=rc at*;exact afx k way (dK k) (rdN k) (dgN k) (lsI k) (gsI k) rc (decide (k≤3)) qs ao xs.length ca bo ys.length cb E P.s P.d P.p P.ex P.ov P.un (pG k way P).1 (pG k way P).2.1 (pG k way P).2.2.1 (pG k way P).2.2.2.1 (pG k way P).2.2.2.2 (Dw k (pG k way P).1 (pG k way P).2.1 (pG k way P).2.2.1 (pG k way P).2.2.2.1 (pG k way P).2.2.2.2).1 (Dw k (pG k way P).1 (pG k way P).2.1 (pG k way P).2.2.1 (pG k way P).2.2.2.1 (pG k way P).2.2.2.2).2.1 (Dw k (pG k way P).1 (pG k way P).2.1 (pG k way P).2.2.1 (pG k way P).2.2.2.1 (pG k way P).2.2.2.2).2.2 _ w (fun h=>by rw[if_neg h]) (fun h=>by rw[if_pos h]) (fun w1=>mp k hk w1) (fun w1 b=>(HR w1 b).mono (fun z w' h=>by
   obtain⟨v,h1,h2,h3⟩:=h;obtain⟨po,pc,e⟩:=h2.rd.shape;subst e;exact⟨po,pc,h1,h2.rd,h3⟩)) (fun h po pc w1 _ r=>Px k hk way (hway h) P po pc w1 r) (fun _ vo vc w1 b r=>CZ k way _ _ _ _ _ vo vc w1 r (hT.l b))
theorem tParse_any (n:Int)(t:ByteArray)(way:Int)(w:World)(hT:TxW w):yC 14 #[yi n,.string t,yi way] w (mM (psV n t way) w):=by
 unfold psV
 by_cases fn:dK n=0
 ·rw[if_pos fn]
  exact tparse_none n way t w (fun w1=>by
   have:=fam_any n w1;rw[fn] at this;exact this)
 rw[if_neg fn];have hf0:(dK n==0)=false:=by simpa using fn
 have HF:=fun w1=>fam_any n w1
 by_cases he:raE t=0
 rotate_left
 ·rw[if_pos he]
  exact tparse_err _ n way _ t w hf0 he HF (fun w1 b=>(tRatio_any t w1 (hT.l b)).2 he)
 rw[if_neg (fun c=>c he)]
 obtain⟨k1,k2,k3⟩:=fF fn;obtain⟨k,rfl⟩: ∃i:Nat,n=(i:Int):=⟨n.toNat,k3.symm⟩;rw[Int.toNat_natCast] at k1 k2⊢;exact tparse_ok _ (k:Int) way _ _ _ _ _ _ t _ w hf0 HF (fun w1 b=>(tRatio_any t w1 (hT.l b)).1 he) (fun ao ac bo bc w1 b ha hb=>fit_any k ⟨k1,k2⟩ way _ ao ac _ bo bc _ _ w1 ha hb (Dg.small_dg _ _ (by omega)) (Dg.small_dg _ _ (by omega)) (hT.l b).1)
theorem makes_any (n:Int)(t md:ByteArray)(w:World)(hT:TxW w):yC 55 #[.string t,yi n,.string md] w (yR w (.bool (mkB n t md))):=by
 have HP:=fun w1 (b:yB w w1)=>tParse_any n t 1 w1 (hT.l b)
 unfold mM at HP;unfold mkB
 by_cases he:(psV n t 1).2.2=0
 rotate_left
 ·rw[decide_eq_false he,Bool.false_and]
  exact tmakes_err n _ _ t _ md w (by simpa using he) HP
 rw[decide_eq_true he,Bool.true_and];rw[he] at HP
 cases hb:(psV n t 1).1.toList==md.toList
 ·exact tmakes_no n _ t _ md w hb HP
 ·exact tmakes_yes n _ t _ md w hb HP
theorem tShortest_any n (s:ByteArray)(w:World)(hT:TxW w):yC 27 #[yi n,.string s] w (yR w (.tuple #[.string (shV n s).1,yi (shV n s).2])):=by
 have HR:=fun w1 (b:yB w w1)=>zj n s w1 (hT.l b).1
 unfold shV
 by_cases hp:dF n s=0
 rotate_left
 ·rw[if_pos hp]
  exact tShort_err _ n _ _ _ _ _ s w hp HR
 rw[if_neg (fun c=>c hp)]
 rw[hp] at HR;have HW:=fun vo vc w1=>wordOf_any ((bM n s:Nat):Int) (iF n s) (dz n s) vo (Dg.dg 4294967296 (gJ n s)).length vc w1
 cases hw:(wdV ((bM n s:Nat):Int)).2.2
 rotate_left
 ·rw[if_pos rfl]
  rw[hw] at HW;exact tShort_word _ n _ _ _ _ _ s w HR HW
 rw[if_neg (by decide)];rw[hw] at HW;have HE: ∀vo vc w1,yB w w1→Rd w1 .u32 (.slice vo (Dg.dg 4294967296 (gJ n s)).length vc) (Dg.dg 4294967296 (gJ n s))→yC 54 #[yi n,yvV ((bM n s:Nat):Int) (dz n s) (.slice vo (Dg.dg 4294967296 (gJ n s)).length vc) (iF n s)] w1 (yR w1 (.tuple #[.string (shM n s),yi (shE n s)])):=fun vo vc w1 b h=>jj n _ _ vo vc _ _ w1 h (Dg.small_dg _ _ (by omega)) (hT.l b).1
 by_cases he:shE n s=0
 rotate_left
 ·rw[if_pos he]
  exact tShort_enc _ _ _ n _ _ _ _ _ s w he HR HW HE
 rw[if_neg (fun c=>c he)]
 rw[he] at HE;obtain⟨x1,x2,x3,x4⟩:=num_of hp hw;obtain⟨a1,a2,a3,a4,a5⟩:=dc_all x1 x2 x3 x4;exact tShort_num _ (shM n s) _ _ _ _ (fun k=>ptS n s k) (fun k=>mkB n (ptS n s k) (shM n s)) n _ _ _ _ _ s w HR HW HE (fun xo xc w1 _ h=>decimalOf_any _ xo xc w1 h x1 x2 x3 x4) (fun k k1 k2 ho hc w1 b h=>tprint_any _ _ _ k _ ho hc w1 h (hT.l b) a1 a2 k1 k2 (by omega) a4 a5) (fun k w1 b=>makes_any n _ _ w1 (hT.l b))
theorem textBegun_any (w:World)(hT:TxW w):yC 11 #[] w (yR w (.bool true)):=by
 refine textBegun_W tenS w (fun w1 b=> ?_) (fun w1 b=> ?_)
 ·have:=tParse_any 2 ⟨#[48,46,49]⟩ 1 w1 (hT.l b)
  rw[begun_ps] at this;exact this
 ·have:=tShortest_any 2 tenS w1 (hT.l b)
  rw[begun_sh] at this;exact this
end Go.Proofs.YtdhpndnncmagiaaGreatDoor
