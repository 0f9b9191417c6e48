/-
  Texts laid together: Ar8, Pa3, As9, Pa4, Oq1, As10, Oq5, Pa5.
-/
import Derived.Test.YtnhackdjplppjaaGreatDoorSp33
import Derived.Test.YtnhackdjplppjaaGreatDoorSp31
set_option maxRecDepth 100000
namespace Go.Proofs.YtnhackdjplppjaaGreatDoor
open Go.RowKit
theorem cgrid_flat (k:Nat) (hk:1≤k∧k≤8) (w:World):Calls Tryz.prog 50 #[yi (k:Int)] w fun z w'=>z= .returned (.tuple #[ygV (rdN k:Int) (dgN k:Int) (lsI k) (gsI k) (decide (k≤3)),yi 0])∧Below w.heap.size w w':=by
 rcases eight hk with rfl|rfl|rfl|rfl|rfl|rfl|rfl|rfl
 ·exact cgrid_1 w
 ·exact cgrid_2 w
 ·exact cgrid_3 w
 ·exact cgrid_4 w
 ·exact cgrid_5 w
 ·exact cgrid_6 w
 ·exact cgrid_7 w
 ·exact cgrid_8 w
theorem refT_other {k:Nat} (hk:1≤k∧k≤8) {ng:Bool} {E F:Nat} (hc:clsN k ng E F≠2):refT k ng E F=⟨false,0,0⟩:=by
 by_cases h1:clsN k ng E F=1
 ·exact refT_zero hk h1
 have h2:2^exN k=onesN k+1:=by
  rcases eight hk with rfl|rfl|rfl|rfl|rfl|rfl|rfl|rfl<;>decide
 have h63:k=3→2^ (dgN k-1)=2^63:=fun h=>by subst h;rfl
 unfold clsN at hc h1;unfold refT
 by_cases h3:k≤3
 ·rw[if_pos h3] at hc h1
  by_cases he:E=0
  ·rw[if_pos he] at hc h1
   by_cases hf:F=0
   ·rw[if_pos hf] at h1
    exact absurd rfl h1
   ·rw[if_neg hf] at hc
    exact absurd rfl hc
  ·rw[if_neg he] at hc
   by_cases ho:E=onesN k
   ·by_cases h4:k=3
    ·rw[if_pos h4,if_pos (.inl (by omega))]
    ·rw[if_neg h4,if_pos (by omega),if_pos (by omega)]
   ·rw[if_neg ho] at hc
    by_cases h4:k=3∧F<2^63
    ·rw[if_pos h4.1,if_pos (.inr ⟨by omega,by rw[h63 h4.1];exact h4.2⟩)]
    ·rw[if_neg h4] at hc
     exact absurd rfl hc
 ·rw[if_neg h3] at hc h1
  rw[if_neg (show¬k=3 by omega),if_neg (show¬k≤2 by omega)]
  by_cases h5:k≤5
  ·rw[if_pos h5] at hc h1
   by_cases hf:F=0
   ·rw[if_pos hf] at h1
    exact absurd rfl h1
   ·rw[if_neg hf] at hc
    exact absurd rfl hc
  ·rw[if_neg h5] at hc⊢
   by_cases he:E=0
   ·rw[if_pos he]
   ·rw[if_neg he] at hc
    exact absurd rfl hc
theorem opnum_is {k:Nat} (hk:1≤k∧k≤8) (s:ByteArray):
  dbothR (placeC (Dg.dg 4294967296 (valM k (fldN k s) (fldE k s) (fldF k s))) (valP k (fldN k s) (fldE k s) (fldF k s)) (rdN k:Int) (dgN k:Int) (lsI k) (gsI k)) ⟨valG k (fldN k s) (fldE k s) (fldF k s),Dg.vl 4294967296 (Dg.dg 4294967296 (valM k (fldN k s) (fldE k s) (fldF k s))),(widthN (rdN k:Int):Int)*valP k (fldN k s) (fldE k s) (fldF k s)⟩=(nxT k s,0):=by
 by_cases hc:clsN k (fldN k s) (fldE k s) (fldF k s)=2
 ·exact num_is hk s (.inr hc)
 ·have hgr:=(fmt_fit hk).2.2.2.2.2.2.2.2.2.2.2
  have hM:valM k (fldN k s) (fldE k s) (fldF k s)=0:=if_neg hc;have hP:valP k (fldN k s) (fldE k s) (fldF k s)=0:=if_neg hc;have hnil:Dg.dg 4294967296 0=[]:=(Dg.dg_nil_iff _ _ (by omega)).2 rfl;rw[hM,hP,hnil,placeC_fine (by decide) hgr (by decide)];unfold nxT;rw[refT_other hk hc];exact shortT_nil _ _
theorem wread_any (n:Int) (s:ByteArray) (w:World) (hT:Tab w):Calls Tryz.prog 137 #[yi n,.string s] w (WRes w ((decC n s:Nat):Int) (decG n s) (decM n s) (decP n s) (opT n s) (patC n s)):=by
 have HD:=fun w1=>decode_any n s w1
 by_cases hp:patC n s=0
 ·have hf:famC n≠0:=fun hf=>by
   unfold patC at hp;rw[if_pos hf] at hp;omega
  obtain⟨k1,k2,k3⟩:=famC_in hf;obtain⟨k,rfl⟩: ∃k:Nat,n=(k:Int):=⟨n.toNat,k3.symm⟩;rw[Int.toNat_natCast] at k1 k2;have hk:1≤k∧k≤8:=⟨k1,k2⟩;have hG:decG (k:Int) s=valG k (fldN k s) (fldE k s) (fldF k s):=by
   unfold decG;rw[if_pos hp,Int.toNat_natCast]
  have hM:decM (k:Int) s=valM k (fldN k s) (fldE k s) (fldF k s):=by
   unfold decM;rw[if_pos hp,Int.toNat_natCast]
  have hP:decP (k:Int) s=valP k (fldN k s) (fldE k s) (fldF k s):=by
   unfold decP;rw[if_pos hp,Int.toNat_natCast]
  have hO:opT (k:Int) s=nxT k s:=by
   unfold opT;rw[if_pos hp,Int.toNat_natCast]
  rw[hp] at HD⊢;rw[hO];refine wread_W (k:Int) _ _ _ _ _ _ _ _ _ (nxT k s) s w (fun w1=>cgrid_flat k hk w1) HD (fun vo vc w1 b r=> ?_)
  have hn:=opnum_is hk s;have hN:=fun w2 (b2:Below w1.heap.size w1 w2)=>gNumber_any (rdN k:Int) (dgN k:Int) (lsI k) (gsI k) (decide (k≤3)) (decG (k:Int) s) vo vc _ (decP (k:Int) s) false false false w2 (r.later b2) (Dg.small_dg 4294967296 _ (by omega)) (hT.later (below_trans b b2))
  rw[hG,hM,hP] at hN⊢;rw[hn] at hN;exact wnumber_W _ _ _ _ _ _ 0 _ _ vo _ vc (nxT k s) w1 hN
 ·have hC:decC n s=0:=if_neg hp
  have hG:decG n s=false:=if_neg hp;have hM:decM n s=0:=if_neg hp;have hP:decP n s=0:=if_neg hp;have hO:opT n s=⟨false,0,0⟩:=if_neg hp;rw[hC,hG,hM,hP,hO]
  by_cases hf:famC n=0
  ·have h6:patC n s=6:=by
    unfold patC;rw[if_pos hf]
   rw[h6];exact wrd1 n 6 (by decide) s w (fun w1=>cgrid_none n w1 hf)
  ·obtain⟨k1,k2,k3⟩:=famC_in hf
   obtain⟨k,rfl⟩: ∃k:Nat,n=(k:Int):=⟨n.toNat,k3.symm⟩;rw[Int.toNat_natCast] at k1 k2;exact wrd2 (k:Int) _ hp _ _ _ _ _ _ _ _ _ s w (fun w1=>cgrid_flat k ⟨k1,k2⟩ w1) HD
theorem deskOf_any (k:Nat) (hk:1≤k∧k≤8) (w:World):Calls Tryz.prog 80 #[yi (k:Int)] w fun z w'=>z= .returned (.tuple #[ykV (k:Int) 0 (famC (k:Int)) (rdN k:Int) (dgN k:Int) (lsI k) (gsI k) (decide (k≤3)),yi 0])∧Below w.heap.size w w':=
 deskOf_W (k:Int) _ _ _ _ _ _ w (fun w1=>cgrid_flat k hk w1) (fun w1=>family_any (k:Int) w1)
theorem acompare_num (k:Nat) (hk:1≤k∧k≤8) (a b:ByteArray) (w:World) (hT:Tab w) (ha:patC (k:Int) a=0) (hb:patC (k:Int) b=0) (ca:decC (k:Int) a=1∨decC (k:Int) a=2) (cb:decC (k:Int) b=1∨decC (k:Int) b=2)
  (da:dchk (Dg.dg 4294967296 (opT (k:Int) a).n) (opT (k:Int) a).e=0) (db:dchk (Dg.dg 4294967296 (opT (k:Int) b).n) (opT (k:Int) b).e=0):
  Calls Tryz.prog 32 #[yi (k:Int),.string a,.string b] w fun z w'=>z= .returned (.tuple #[yi (signT (plusT (opT (k:Int) a) (negT (opT (k:Int) b)))),.bool true,yi 0])∧Below w.heap.size w w':=by
 have hE:errL (k:Int) [a,b]=0:=by
  unfold errL errL errL;rw[if_pos ha,if_pos hb]
 have hN:(noNum (k:Int) a||noNum (k:Int) b)=false:=by
  unfold noNum;rw[decide_eq_false (by omega),decide_eq_false (by omega)];rfl
 obtain⟨a1,a2,a3⟩:=dchk_zero da;obtain⟨b1,b2,b3⟩:=dchk_zero db;have la:=(chk_zero a1).2;have lb:=(chk_zero b1).2;exact acompare_W (k:Int) _ _ _ _ _ _ _ a b _ w (fun h=>absurd hE h) (fun h=>absurd hE h) (fun _ h=>by rw[hN] at h;cases h) (fun _ _=>rfl) (fun w2=>deskOf_any k hk w2)
  (fun pb w2 b2' hl=>operands_W (k:Int) 0 _ _ _ _ _ _ [a,b] pb w2 hl (by simp) (fun p w3 b3'=>wread_any (k:Int) p w3 (hT.later (below_trans b2' b3'))))
  (fun _ _ xo xc yo yc w2 rx ry=>compareN_W _ _ _ _ _ _ _ _ _ _ _ _ _ _ _ w2 (by rcases ca with h|h<;>rw[h]<;>rfl) (by rcases cb with h|h<;>rw[h]<;>rfl)
   (fun w3 b3'=>dcompareL_any _ _ (opT (k:Int) a) (opT (k:Int) b) w3 ⟨_,rfl,rx.later b3'⟩ ⟨_,rfl,ry.later b3'⟩ (by omega) (by omega) (by omega) (by omega) (by omega) (by omega)))
end Go.Proofs.YtnhackdjplppjaaGreatDoor
namespace Go.Proofs.YtnhackdjplppjaaGreatDoor
open Go.RowKit
def Small64 (t:Trip):Prop:=t.n<2^64∧ -16500≤t.e∧t.e≤16500
theorem small_bits {t:Trip} (h:Small64 t):bitLen t.n≤64:=bitLen_le_of _ _ h.1
theorem num_small {k:Nat} (hk:1≤k∧k≤8) (s:ByteArray) (hc:clsN k (fldN k s) (fldE k s) (fldF k s)=2):(refT k (fldN k s) (fldE k s) (fldF k s)).n<2^64∧ -16445≤(refT k (fldN k s) (fldE k s) (fldF k s)).e∧(refT k (fldN k s) (fldE k s) (fldF k s)).e≤16464∧(refT k (fldN k s) (fldE k s) (fldF k s)).n≠0:=by
 obtain⟨s1,s2⟩:=fld_lt k s;have h64:=frN_64 hk s2;obtain⟨v1,v2,-,-⟩:=valP_in hk s1 s2 hc;have hb:=back_value hk s1 s2 h64 hc (Nat.ne_of_gt (plcN_pos hc));have hT:=refT_num hk s1 s2 hc;rw[wdI_is hk] at hT;refine⟨?_,v1,v2, ?_⟩
 ·rw[hT,←hb]
  exact Nat.lt_of_le_of_lt (bare_n_le _) (valM_lt hk _ _ h64)
 ·rw[hT]
  exact(bare_top (t:=⟨_,_,_⟩) (Nat.ne_of_gt (plcN_pos hc))).1
theorem op_small {k:Nat} (hk:1≤k∧k≤8) {p:ByteArray} (h:patC (k:Int) p=0):Small64 (opT (k:Int) p)∧(decC (k:Int) p≠2→opT (k:Int) p=⟨false,0,0⟩)∧(decC (k:Int) p=2→(opT (k:Int) p).n≠0):=by
 have e:opT (k:Int) p=refT k (fldN k p) (fldE k p) (fldF k p):=by
  unfold opT nxT;rw[if_pos h,Int.toNat_natCast]
 have ec:decC (k:Int) p=clsN k (fldN k p) (fldE k p) (fldF k p):=by
  unfold decC;rw[if_pos h,Int.toNat_natCast]
 rw[e,ec]
 by_cases hc:clsN k (fldN k p) (fldE k p) (fldF k p)=2
 ·obtain⟨s1,s2,s3,s4⟩:=num_small hk p hc
  exact⟨⟨s1,by omega,by omega⟩,fun c=>absurd hc c,fun _=>s4⟩
 ·have:=refT_other hk (ng:=fldN k p) (E:=fldE k p) (F:=fldF k p) hc
  rw[this];exact⟨⟨by show(0:Nat)<2^64;exact Nat.two_pow_pos 64,by show(-16500:Int)≤0;omega,by show(0:Int)≤16500;omega⟩,fun _=>rfl,fun c=>absurd c hc⟩
def noV (k:Nat) (fl:Int):Int×Bool×Trip×Int:=(notC (famC (k:Int)),false,⟨false,0,0⟩,fl)
def numV (t:Trip) (sg:Bool):Int×Bool×Trip×Int:=(numC t,numG t sg,numT t,0)
def sumV (k:Nat) (wy cx:Int) (gx:Bool) (x:Trip) (cy:Int) (gy:Bool) (y:Trip):Int×Bool×Trip×Int:=
 if cx=3∧cy=3∧gx≠gy then noV k 16 else if cx=3 then(3,gx,x,0) else if cy=3 then(3,gy,y,0) else numV (plusT x y) (if gx=gy then gx else decide (wy=5))
def prodV (k:Nat) (cx:Int) (gx:Bool) (x:Trip) (cy:Int) (gy:Bool) (y:Trip):Int×Bool×Trip×Int:=
 if cx=3∧cy=1∨cx=1∧cy=3 then noV k 16 else if cx=3∨cy=3 then(3,gx != gy,⟨false,0,0⟩,0) else numV (timesT x y) (gx != gy)
abbrev opV (c:Int) (g:Bool) (t:Trip) (o:Option Addr) (k:Nat):Value:=(yOV c g t o k)
abbrev rdT (w:World) (t:Trip) (o:Option Addr) (k:Nat):Prop:=Rd w .u32 (.slice o (Dg.dg 4294967296 t.n).length k) (Dg.dg 4294967296 t.n)
abbrev resV (w:World) (f:Int×Bool×Trip×Int):Ending→World→Prop:=OpRes2 w f.1 f.2.1 f.2.2.1 f.2.2.2
theorem noth_any (k:Nat) (hk:1≤k∧k≤8) (wy fl:Int) (w:World):Calls Tryz.prog 108 #[dsk k wy,yi fl] w fun z w'=>z= .returned (.tuple #[yoV (notC (famC (k:Int))) false false (.slice none 0 0) 0,yi fl])∧Below w.heap.size w w':=
 dnothing_W _ _ _ _ _ _ _ _ _ _ w (fun w1=>fnothing_any _ (fam_cases hk) w1)
def Mid (t:Trip):Prop:=(Dg.dg 4294967296 t.n).length≤100000∧ -100000≤t.e∧t.e≤100000
theorem ne3 {c:Int} (h:c≠3):(c==3)=false:=by simpa using h
theorem ne1 {c:Int} (h:c≠1):(c==1)=false:=by simpa using h
theorem dsum_any (k:Nat) (hk:1≤k∧k≤8) (wy cx cy:Int) (gx gy:Bool) (x y:Trip) (xo yo:Option Addr) (xc yc:Nat) (w:World) (rx:rdT w x xo xc) (ry:rdT w y yo yc) (mx:Mid x) (my:Mid y):
  Calls Tryz.prog 55 #[dsk k wy,opV cx gx x xo xc,opV cy gy y yo yc] w (resV w (sumV k wy cx gx x cy gy y)):=by
 unfold sumV
 by_cases hx:cx=3
 ·subst hx
  by_cases hy:cy=3
  ·subst hy
   cases gx<;>cases gy
   ·rw[if_neg (by simp),if_pos rfl]
    exact dsum_xx _ _ _ _ _ _ _ _ _ _ _ _ _ _ _ w rx
   ·rw[if_pos (by simp)]
    exact dsum_no_ft _ _ _ _ _ _ _ _ _ _ _ _ _ _ _ w (fun w1=>noth_any k hk wy 16 w1)
   ·rw[if_pos (by simp)]
    exact dsum_no_tf _ _ _ _ _ _ _ _ _ _ _ _ _ _ _ w (fun w1=>noth_any k hk wy 16 w1)
   ·rw[if_neg (by simp),if_pos rfl]
    exact dsum_xx _ _ _ _ _ _ _ _ _ _ _ _ _ _ _ w rx
  ·rw[if_neg (fun c=>hy c.2.1),if_pos rfl]
   exact dsum_x _ _ _ _ _ _ _ _ _ _ _ _ _ _ _ _ _ w (ne3 hy) rx
 ·rw[if_neg (fun c=>hx c.1),if_neg hx]
  by_cases hy:cy=3
  ·subst hy
   rw[if_pos rfl];exact dsum_y _ _ _ _ _ _ _ _ _ _ _ _ _ _ _ _ _ w (ne3 hx) ry
  ·rw[if_neg hy]
   exact dsum_num _ _ _ _ _ _ _ _ _ _ _ _ _ _ _ _ _ _ _ w rfl (ne3 hx) (ne3 hy) (fun w1 b=>dplus_any _ _ x y w1 ⟨_,rfl,rx.later b⟩ ⟨_,rfl,ry.later b⟩ mx.1 my.1 mx.2.1 mx.2.2 my.2.1 my.2.2)
theorem dproduct_any (k:Nat) (hk:1≤k∧k≤8) (wy cx cy:Int) (gx gy:Bool) (x y:Trip) (xo yo:Option Addr) (xc yc:Nat) (w:World) (rx:rdT w x xo xc) (ry:rdT w y yo yc) (mx:Mid x) (my:Mid y):
  Calls Tryz.prog 65 #[dsk k wy,opV cx gx x xo xc,opV cy gy y yo yc] w (resV w (prodV k cx gx x cy gy y)):=by
 have HT:=fun w1 (b:Below w.heap.size w w1)=>dtimes_any _ _ x y w1 ⟨_,rfl,rx.later b⟩ ⟨_,rfl,ry.later b⟩ mx.1 my.1 mx.2.1 mx.2.2 my.2.1 my.2.2
 have HM:=fun uo uc w1 h=>numberOf_any (timesT x y) (gx != gy) uo uc w1 h
 unfold prodV
 by_cases hx:cx=3
 ·subst hx
  by_cases hy:cy=1
  ·subst hy
   rw[if_pos (.inl ⟨rfl,rfl⟩)];exact dproduct_31 _ _ _ _ _ _ _ _ _ _ _ _ _ _ _ _ _ w (fun w1=>noth_any k hk wy 16 w1)
  ·rw[if_neg (by omega),if_pos (.inl rfl)]
   exact dproduct_3y _ _ _ _ _ _ _ _ _ _ _ _ _ _ _ _ _ w (ne1 hy)
 ·by_cases hy:cy=3
  ·subst hy
   by_cases h1:cx=1
   ·subst h1
    rw[if_pos (.inr ⟨rfl,rfl⟩)];exact dproduct_13 _ _ _ _ _ _ _ _ _ _ _ _ _ _ _ _ _ w (fun w1=>noth_any k hk wy 16 w1)
   ·rw[if_neg (by omega),if_pos (.inr rfl)]
    exact dproduct_x3 _ _ _ _ _ _ _ _ _ _ _ _ _ _ _ _ _ w (ne3 hx) (ne1 h1)
  ·rw[if_neg (by omega),if_neg (by omega)]
   by_cases h1:cx=1
   ·subst h1
    exact dproduct_n1 _ _ _ _ _ _ _ _ _ _ _ _ _ _ _ _ _ _ _ _ _ w (ne3 hy) HT HM
   ·exact dproduct_num _ _ _ _ _ _ _ _ _ _ _ _ _ _ _ _ _ _ _ _ _ _ w (ne3 hx) (ne1 h1) (ne3 hy) HT HM
end Go.Proofs.YtnhackdjplppjaaGreatDoor
namespace Go.Proofs.YtnhackdjplppjaaGreatDoor
open Go.RowKit
set_option maxHeartbeats 3200000 in
theorem add_W (n way f1 e1:Int) (a b st:ByteArray) (w:World)
  (HR: ∀pb w1,Below w.heap.size w w1→LocE w1 pb 9 [.string a,.string b]→Calls Tryz.prog 53 #[yi n,yi way,.func (.func 54) #[] #[],.slice (some ⟨pb,0,none⟩) 2 2] w1 fun z w'=>z= .returned (.tuple #[.string st,yi f1,yi e1])∧Below w1.heap.size w1 w'):
  Calls Tryz.prog 17 #[yi n,.string a,.string b,yi way] w fun z w'=>z= .returned (.tuple #[.string st,yi f1,yi e1])∧Below w.heap.size w w':=by
 replace HR:Hid _:=HR;have al:=below_alloc w (.cells #[.string a,.string b] 9);have ln:=locE_new w [.string a,.string b] 9
 go_enter Tryz.func17,Tryz.ntmps17
 go_wp2_with fail
 refine(HR.out _ _ al ln).mono ?_;rintro z w1 ⟨rfl,b1⟩;have b2:=below_trans al b1
 go_wp2
 go_ret3
 exact⟨rfl,b2⟩
def patOne:ByteArray:=strOf [63,128,0,0]
def patTwo:ByteArray:=strOf [64,0,0,0]
theorem patOne_ok:patC 1 patOne=0∧decC 1 patOne=2∧decG 1 patOne=false∧opT 1 patOne=⟨false,1,0⟩:=by
 refine⟨?_, ?_, ?_, ?_⟩<;>kernel_rfl
theorem one_plus:plusT ⟨false,1,0⟩ ⟨false,1,0⟩=⟨false,2,0⟩:=by kernel_rfl
theorem two_round:roundC [2] [1] 0 2 24 (-149) 104 1=0∧roundP [2] [1] 0 2 24 (-149) 104 true false 1=⟨false,8388608,-22,true,false,false⟩:=by
 refine⟨?_, ?_⟩<;>kernel_rfl
theorem two_enc:encE 1 2 false [8388608] (-22)=0∧encS 1 2 false [8388608] (-22)=patTwo:=by
 refine⟨?_, ?_⟩<;>kernel_rfl
end Go.Proofs.YtnhackdjplppjaaGreatDoor
namespace Go.Proofs.YtnhackdjplppjaaGreatDoor
open Go.RowKit
theorem pow_le_of {a b x:Nat} (h:x<2^a) (hab:a≤b):x<2^b:=Nat.lt_of_lt_of_le h (Nat.pow_le_pow_right (by omega) hab)
theorem plus_near {a b:Trip} {A B:Nat} {H:Int} (ha:a.n<2^A) (hb:b.n<2^B) (h1:a.e+A≤H) (h2:b.e+B≤H):(plusT a b).e=min a.e b.e∧(plusT a b).e+(bitLen (plusT a b).n:Int)≤H+1:=by
 obtain⟨e,he⟩: ∃e,min a.e b.e=e:=⟨_,rfl⟩;have x1:a.n*2^ (a.e-e).toNat<2^ (H-e).toNat:=by
  refine pow_le_of (a:=A+(a.e-e).toNat) ?_ (by omega);rw[Nat.pow_add];exact Nat.mul_lt_mul_of_pos_right ha (two_pos _)
 have y1:b.n*2^ (b.e-e).toNat<2^ (H-e).toNat:=by
  refine pow_le_of (a:=B+(b.e-e).toNat) ?_ (by omega);rw[Nat.pow_add];exact Nat.mul_lt_mul_of_pos_right hb (two_pos _)
 have key:(plusT a b).e=e∧(plusT a b).n<2^ ((H-e).toNat+1):=by
  unfold plusT;simp only;rw[he,Nat.pow_succ]
  split
  ·exact⟨rfl,by show _+_<_;omega⟩
  ·split
   ·exact⟨rfl,by show _-_<_;omega⟩
   ·exact⟨rfl,by show _-_<_;omega⟩
 have:=bitLen_le_of _ _ key.2;refine⟨key.1.trans he.symm, ?_⟩;rw[key.1];omega
theorem num_near {t:Trip} {sg:Bool} (hn:Near t) (h:(numV t sg).1=2):(numV t sg).2.2.1.n≠0∧Near (numV t sg).2.2.1:=by
 have h0:t.n≠0:=fun c=>by
  have:numC t=2:=h;unfold numC at this;rw[if_pos c] at this;omega
 have e:(numV t sg).2.2.1=t:=if_neg h0;rw[e];exact⟨h0,hn⟩
theorem no_near {k:Nat} {fl:Int} (h:(noV k fl).1=2):False:=by
 have:notC (famC (k:Int))=2:=h;unfold notC at this
 split at this
 ·omega
 ·split at this<;>omega
theorem sum_near {k:Nat} {wy cx cy:Int} {gx gy:Bool} {x y:Trip} (hn:Near (plusT x y)) (h:(sumV k wy cx gx x cy gy y).1=2):(sumV k wy cx gx x cy gy y).2.2.1.n≠0∧Near (sumV k wy cx gx x cy gy y).2.2.1:=by
 unfold sumV at h⊢
 by_cases c1:cx=3∧cy=3∧gx≠gy
 ·rw[if_pos c1] at h
  exact(no_near h).elim
 rw[if_neg c1] at h⊢
 by_cases c2:cx=3
 ·rw[if_pos c2] at h
  simp at h
 rw[if_neg c2] at h⊢
 by_cases c3:cy=3
 ·rw[if_pos c3] at h
  simp at h
 rw[if_neg c3] at h⊢;exact num_near hn h
theorem prod_near {k:Nat} {cx cy:Int} {gx gy:Bool} {x y:Trip} (hn:Near (timesT x y)) (h:(prodV k cx gx x cy gy y).1=2):(prodV k cx gx x cy gy y).2.2.1.n≠0∧Near (prodV k cx gx x cy gy y).2.2.1:=by
 unfold prodV at h⊢
 by_cases c1:cx=3∧cy=1∨cx=1∧cy=3
 ·rw[if_pos c1] at h
  exact(no_near h).elim
 rw[if_neg c1] at h⊢
 by_cases c2:cx=3∨cy=3
 ·rw[if_pos c2] at h
  simp at h
 rw[if_neg c2] at h⊢;exact num_near hn h
theorem small_mid {t:Trip} (h:Small64 t):Mid t:=⟨two_len h.1 (by omega),by have:=h.2;omega,by have:=h.2;omega⟩
theorem small_near {x y:Trip} (hx:Small64 x) (hy:Small64 y):Near (plusT x y)∧Near (timesT x y)∧(timesT x y).n<2^128∧ -33000≤(timesT x y).e∧(timesT x y).e≤33000:=by
 obtain⟨x1,x2,x3⟩:=hx;obtain⟨y1,y2,y3⟩:=hy;have hp:=plus_near (H:=16564) x1 y1 (by omega) (by omega);have ht:(timesT x y).n<2^128:=by
  show x.n*y.n<_
  rw[show(128:Nat)=64+64 from rfl,Nat.pow_add]
  exact Nat.mul_lt_mul'' x1 y1
 have hb:=bitLen_le_of _ _ ht;have he:(timesT x y).e=x.e+y.e:=rfl;refine⟨⟨by omega,by omega⟩,⟨by omega,by omega⟩,ht,by omega,by omega⟩
def recT (n way:Int) (ps:List ByteArray) (f:Int×Bool×Trip×Int):ByteArray×Int×Int:=
 if famC n=0 then(⟨#[]⟩,0,6) else if errL n ps≠0 then(⟨#[]⟩,0,errL n ps) else if way<1∨5<way then(⟨#[]⟩,0,6)
 else if ps.any (noNum n)=true then ansT n.toNat way (notC (famC n)) false ⟨false,0,0⟩ (if famC n=1 then 0 else 16) else ansT n.toNat way f.1 f.2.1 f.2.2.1 f.2.2.2
theorem reckon_any (n way:Int) (ps:List ByteArray) (f:Int×Bool×Trip×Int) (F pb:Nat) (w:World) (hm3:ps.length≤3) (hm0:1≤ps.length) (hp:LocE w pb 9 (ps.map Value.string)) (hfn: ∀args W,(callFunc F args).run Tryz.prog W= .ok (.enter F args) W) (hT:Tab w)
  (HF: ∀k:Nat,1≤k∧k≤8→n=(k:Int)→errL n ps=0→ps.any (noNum n)=false→(f.1=2→f.2.2.1.n≠0∧Near f.2.2.1)∧ ∀g cap w1,Below w.heap.size w w1→OpsV w1 n ps g cap→Calls Tryz.prog F #[dsk k way,.slice (some ⟨g,0,none⟩) ps.length cap] w1 (resV w1 f)):
  Calls Tryz.prog 53 #[yi n,yi way,.func (.func F) #[] #[],.slice (some ⟨pb,0,none⟩) ps.length ps.length] w (ans3 (recT n way ps f) w):=by
 unfold recT
 by_cases hf:famC n=0
 ·rw[if_pos hf]
  exact reckon_err n way 6 F ps.length pb w (by decide) (fun w1=>deskOf_err n 6 (by decide) w1 (fun w3=>cgrid_none n w3 hf))
 rw[if_neg hf];obtain⟨k1,k2,k3⟩:=famC_in hf;obtain⟨k,rfl⟩: ∃k:Nat,n=(k:Int):=⟨n.toNat,k3.symm⟩;rw[Int.toNat_natCast] at k1 k2;have hk:1≤k∧k≤8:=⟨k1,k2⟩;have HD:=fun w1=>deskOf_any k hk w1
 have HO:=fun w1 (b:Below w.heap.size w w1)=>operands_W (k:Int) 0 (famC (k:Int)) (rdN k:Int) (dgN k:Int) (lsI k) (gsI k) (decide (k≤3)) ps pb w1 (hp.later b) hm3 (fun p w3 b3=>wread_any (k:Int) p w3 ((hT.later b).later b3))
 by_cases he:errL (k:Int) ps=0
 ·rw[if_neg (fun c=>c he)]
  have HO2: ∀w1,Below w.heap.size w w1→Calls Tryz.prog 81 #[dsk k 0,.slice (some ⟨pb,0,none⟩) ps.length ps.length] w1 fun z w'=> ∃g cap,z= .returned (.tuple #[.slice (some ⟨g,0,none⟩) ps.length cap,yi 0])∧OpsV w' (k:Int) ps g cap∧w1.heap.size≤g∧Below w1.heap.size w1 w':=fun w1 b=>by
   refine(HO w1 b).mono (fun z w' hz=> ?_)
   obtain⟨-,v,cs,rfl,hown,hat,b2⟩:=hz.resolve_right (fun h=>h.1 he)
   obtain⟨g,cap,hv,hV⟩:=opsV_of (fun h=>by subst h;simp at hm0) hown hat
   subst hv;exact⟨g,cap,rfl,hV,(World.ownsRow.lt hown g rfl).1,b2⟩
  by_cases hw1:way<1
  ·rw[if_pos (.inl hw1)]
   exact reckon_wayl (k:Int) _ _ _ _ _ way _ F ps.length ps pb w hw1 HD HO2
  by_cases hw2:5<way
  ·rw[if_pos (.inr hw2)]
   exact reckon_wayg (k:Int) _ _ _ _ _ way _ F ps.length ps pb w hw1 hw2 HD HO2
  rw[if_neg (by omega)];have hw:1≤way∧way≤5:=by omega
  rw[Int.toNat_natCast]
  by_cases hN:ps.any (noNum (k:Int))=true
  ·rw[if_pos hN]
   have HX: ∀g cap w1,OpsV w1 (k:Int) ps g cap→Calls Tryz.prog 82 #[.slice (some ⟨g,0,none⟩) ps.length cap] w1 fun z w'=>z= .returned (.bool true)∧Below w1.heap.size w1 w':=fun g cap w1 h=>by
    have:=noNumbers_W (k:Int) ps g cap w1 h hm3
    rwa [hN] at this
   have hc:notC (famC (k:Int))=2→(⟨false,0,0⟩:Trip).n≠0∧Near ⟨false,0,0⟩:=fun h=>(no_near (k:=k) (fl:=0) h).elim
   by_cases h1:famC (k:Int)=1
   ·rw[if_pos h1]
    have HA:=fun w1 (b:Below w.heap.size w w1)=>answer_any k hk way hw (notC (famC (k:Int))) 0 false ⟨false,0,0⟩ none 0 w1 hc (rd_nil _ _) (hT.later b)
    have HN:=fun w1=>noth_any k hk way 0 w1
    unfold dsk at HA HN HO2;rw[h1] at HD HO2 HA HN⊢;exact reckon_no1 _ _ _ _ (k:Int) _ _ _ _ way _ F ps.length ps pb w hw1 hw2 HD HO2 HX HN HA
   ·rw[if_neg h1]
    exact reckon_no2 _ _ _ _ (k:Int) _ _ _ _ _ way _ F ps.length ps pb w hw1 hw2 (by simpa using h1) HD HO2 HX (fun w1=>noth_any k hk way 16 w1) (fun w1 b=>answer_any k hk way hw _ 16 false ⟨false,0,0⟩ none 0 w1 hc (rd_nil _ _) (hT.later b))
  ·rw[if_neg hN]
   have hN':ps.any (noNum (k:Int))=false:=by simpa using hN
   obtain⟨hc,HFc⟩:=HF k hk rfl he hN';exact reckon_ok (k:Int) _ _ _ _ _ way _ _ _ _ _ _ _ F ps.length ps pb _ w hw.1 hw.2 rfl hm3 hm0 he hN' hp hfn HD (fun w1 b _=>HO w1 b) (fun g cap w1 b h=>HFc g cap w1 b h) (fun ro rc w1 b r=>answer_any k hk way hw _ _ _ _ ro rc w1 hc r (hT.later b))
 ·rw[if_pos he]
  refine reckon_ops _ (k:Int) _ _ _ _ _ way _ F ps.length pb w (by simpa using he) HD (fun w1 b=>(HO w1 b).mono (fun z w' hz=> ?_))
  rcases hz with h|h
  ·exact absurd h.1 he
  ·exact h.2
end Go.Proofs.YtnhackdjplppjaaGreatDoor
namespace Go.Proofs.YtnhackdjplppjaaGreatDoor
open Go.RowKit
def rfG (n:Int) (p:ByteArray):Bool:=refG n.toNat (fldN n.toNat p) (fldE n.toNat p) (fldF n.toNat p)
def rfT (n:Int) (p:ByteArray):Trip:=refT n.toNat (fldN n.toNat p) (fldE n.toNat p) (fldF n.toNat p)
def rfC (n:Int) (p:ByteArray) (v:Value):List Value:=[yi ((decC n p:Nat):Int),.bool (rfG n p),.bool (rfT n p).s,v,yi (rfT n p).e]
def RfAt (w:World) (n:Int) (g:Option Nat) (p:ByteArray) (v:Value):Prop:=
 (∃so sc,v= .slice so (Dg.dg 65536 (rfT n p).n).length sc)∧Rd w .i64 v (Dg.dg 65536 (rfT n p).n)∧ ∀b,g=some b→OffB b v (Dg.dg 65536 (rfT n p).n)
def RfsAt (w:World) (n:Int) (g:Option Nat):List ByteArray→List Value→Prop
 | [],cs=>cs=[]
 |p::ps,cs=> ∃v rest,cs=rfC n p v++rest∧RfAt w n g p v∧RfsAt w n g ps rest
theorem RfsAt.mono {w w':World} {n:Int} {g g':Option Nat} (h: ∀p v,RfAt w n g p v→RfAt w' n g' p v): ∀{ps:List ByteArray} {cs:List Value},RfsAt w n g ps cs→RfsAt w' n g' ps cs
 | [],_,hc=>hc
 |p::_,_,hc=>by
  obtain⟨v,rest,h1,h2,h3⟩:=hc;exact⟨v,rest,h1,h p v h2,RfsAt.mono h h3⟩
theorem RfsAt.snoc {w:World} {n:Int} {g:Option Nat} {p:ByteArray} {v:Value} (hv:RfAt w n g p v): ∀{ps:List ByteArray} {cs:List Value},RfsAt w n g ps cs→RfsAt w n g (ps++[p]) (cs++rfC n p v)
 | [],cs,hc=>by
  have:cs=[]:=hc;subst this;exact⟨v,[],by simp,hv,rfl⟩
 |q::_,_,hc=>by
  obtain⟨u,rest,h1,h2,h3⟩:=hc;subst h1;exact⟨u,rest++rfC n p v,by simp,h2,RfsAt.snoc hv h3⟩
def RfsI (w:World) (n:Int) (ps:List ByteArray) (i:Nat) (lv:Value) (wr:World):Prop:=
 ∃cs,wr.ownsRow w.heap.size 32 5 lv i cs∧RfsAt wr n lv.ownBlock (ps.take i) cs∧errL n ps=errL n (ps.drop i)
theorem RfAt.later {w w':World} {n:Int} {g:Option Nat} {p:ByteArray} {v:Value} (h:RfAt w n g p v) (hb:Below w.heap.size w w'):RfAt w' n g p v:=⟨h.1,h.2.1.later hb,h.2.2⟩
theorem RfsI.later {w wr w':World} {n:Int} {ps:List ByteArray} {i:Nat} {lv:Value} (h:RfsI w n ps i lv wr) (hb:Below wr.heap.size wr w'):RfsI w n ps i lv w':=by
 obtain⟨cs,h1,h2,h3⟩:=h;exact⟨cs,own_row_later h1 hb,h2.mono (fun p v k=>k.later hb),h3⟩
structure RfsV (w:World) (n:Int) (ps:List ByteArray) (g cap:Nat):Prop where
 fit:ps.length≤cap
 most:cap≤maxLen
 each: ∀(i:Nat) p,ps[i]? =some p→ ∃so sc,w.rangeAt g (i*5) (rfC n p (.slice so (Dg.dg 65536 (rfT n p).n).length sc))∧Rd w .i64 (.slice so (Dg.dg 65536 (rfT n p).n).length sc) (Dg.dg 65536 (rfT n p).n)
theorem RfsV.later {w w':World} {n:Int} {ps:List ByteArray} {g cap:Nat} (h:RfsV w n ps g cap) (hb:Below w.heap.size w w'):RfsV w' n ps g cap:=
 ⟨h.fit,h.most,fun i p hp=>by
  obtain⟨so,sc,h1,h2⟩:=h.each i p hp;exact⟨so,sc,range_later h1 hb,h2.later hb⟩⟩
end Go.Proofs.YtnhackdjplppjaaGreatDoor
namespace Go.Proofs.YtnhackdjplppjaaGreatDoor
open Go.RowKit
set_option maxHeartbeats 3200000 in
theorem begun_sum (w:World) (g cap:Nat) (h:OpsV w 1 [patOne,patOne] g cap):
  Calls Tryz.prog 54 #[ykV 1 1 1 2 24 (-149) 104 true,.slice (some ⟨g,0,none⟩) 2 cap] w (OpRes2 w 2 false ⟨false,2,0⟩ 0):=by
 obtain⟨o1,o2,o3,o4⟩:=patOne_ok;obtain⟨xo,xc,hx,rx⟩:=h.each 0 patOne rfl;obtain⟨yo,yc,hy,ry⟩:=h.each 1 patOne rfl;unfold opC at hx hy;rw[o2,o3,o4] at hx hy;rw[o4] at rx ry;have hs:=fun w1 (b:Below w.heap.size w w1)=>dsum_num 1 1 1 2 24 (-149) 104 2 2 true false false ⟨false,1,0⟩ ⟨false,1,0⟩ xo yo xc yc false w1 rfl rfl rfl (fun w2 b2=>dplus_any _ _ ⟨false,1,0⟩ ⟨false,1,0⟩ w2 ⟨_,rfl,(rx.later b).later b2⟩ ⟨_,rfl,(ry.later b).later b2⟩ (by decide) (by decide) (by decide) (by decide) (by decide) (by decide))
 rw[one_plus,show numC ⟨false,2,0⟩=2 from rfl,show numG ⟨false,2,0⟩ false=false from rfl,show numT ⟨false,2,0⟩=⟨false,2,0⟩ from rfl] at hs
 exact add1_W 1 1 1 2 24 (-149) 104 2 2 2 0 true false false false ⟨false,1,0⟩ ⟨false,1,0⟩ ⟨false,2,0⟩ xo yo xc yc g cap w hx hy hs
set_option maxHeartbeats 3200000 in
theorem begun_answer (w:World) (ro:Option Addr) (rc:Nat) (hr:Rd w .u32 (.slice ro (Dg.dg 4294967296 2).length rc) (Dg.dg 4294967296 2)) (hT:Tab w):
  Calls Tryz.prog 107 #[ykV 1 1 1 2 24 (-149) 104 true,yoV 2 false false (.slice ro (Dg.dg 4294967296 2).length rc) 0,yi 0] w fun z w'=>z= .returned (.tuple #[.string patTwo,yi 0,yi 0])∧Below w.heap.size w w':=by
 refine answer_num 1 1 1 2 24 (-149) 104 0 true false ⟨false,2,0⟩ ro rc false 2 1 0 false 8388608 (-22) true false false 2 false 8388608 (-22) 0 0 patTwo 0 0 w (by kernel_rfl) ?_ ?_ ?_ ?_
 ·intro w1 b1
  refine ratioOf_W ⟨false,2,0⟩ ⟨false,2,0⟩ ro rc 0 0 2 1 w1 rfl ?_ (fun h=>absurd h (by decide)) (fun _=>⟨rfl,rfl, ?_⟩)
  ·intro w2 b2
   exact(kept_short ⟨false,2,0⟩ ro rc w2 ((hr.later b1).later b2) (by decide) (by decide)).mono (fun z w' h=>⟨_,h.1,((hr.later b1).later b2).later h.2,h.2⟩)
  ·intro q w2 hq
   have:=shifted_any (.slice (some ⟨q,0,none⟩) 1 1) [1] 0 w2 (rd_one hq) (fun i=>by
    match i with
    |0=>decide
    |i+1=>simp) (by simp) (by decide) (by decide)
   rw[show shN (Dg.vl 4294967296 [1]) 0=1 from rfl] at this
   exact this
 ·intro no nc mo mc w1 b1 h1 h2
  have:=gRound_any false no nc [2] mo mc [1] 0 2 24 (-149) 104 true 1 w1 h1 h2 (fun i=>by
    match i with
    |0=>decide
    |i+1=>simp) (fun i=>by
    match i with
    |0=>decide
    |i+1=>simp)
  rw[two_round.1,two_round.2] at this;exact this.mono (fun z w' h=>by
   obtain⟨v,rfl,own,b2⟩:=h;obtain⟨po,pc,hv⟩:=own.rd.shape;subst hv;exact⟨po,pc,rfl,own.rd,b2⟩)
 ·intro po pc w1 b1 h1
  exact settle_in 1 1 1 2 24 (-149) 104 (-22) true false true false po _ pc 8388608 w1 rfl h1 (fun h=>by cases h) 2 0 rfl rfl
 ·intro vo vc w1 b1 h1
  have:=dencode_W 1 1 1 2 24 (-149) 104 2 (-22) 0 0 true false vo (Dg.dg 4294967296 8388608).length vc patTwo w1 (fun w2 b2=>by
   have:=encode_any 1 2 false vo vc [8388608] (-22) w2 (h1.later b2) (fun i=>by
    match i with
    |0=>decide
    |i+1=>simp) ((hT.later b1).later b2)
   rw[two_enc.1,two_enc.2] at this;exact this)
  rw[if_pos rfl] at this;exact this
set_option maxHeartbeats 3200000 in
theorem begun_add (w:World) (hT:Tab w):
  Calls Tryz.prog 17 #[yi 1,.string patOne,.string patOne,yi 1] w fun z w'=>z= .returned (.tuple #[.string patTwo,yi 0,yi 0])∧Below w.heap.size w w':=by
 obtain⟨o1,o2,o3,o4⟩:=patOne_ok;refine add_W 1 1 0 0 patOne patOne patTwo w (fun pb w1 b1 hl=> ?_)
 refine reckon_ok 1 2 24 (-149) 104 1 1 2 0 0 0 true false ⟨false,2,0⟩ _ 2 [patOne,patOne] pb patTwo w1 (by decide) (by decide) rfl (by decide) (by decide) (by unfold errL errL errL;rw[if_pos o1,if_pos o1]) (by simp[noNum,o2]) hl (fun args W=>by kernel_rfl) (fun w2=>deskOf_any 1 (by decide) w2) (fun w2 b2 h2=> ?_) (fun g cap w2 _ hV=>begun_sum w2 g cap hV) (fun ro rc w2 b2 h2=>begun_answer w2 ro rc h2 ((hT.later b1).later b2))
 exact operands_W 1 0 _ _ _ _ _ _ [patOne,patOne] pb w2 h2 (by simp) (fun p w3 b3=>wread_any 1 p w3 (((hT.later b1).later b2).later b3))
theorem made_run2 {P:Program} (W:World) (e src dst:TypeId) (zs:List Nat) (hs:P.underlying src=some (.slice e)) (he:P.underlying e=some (.int .u8)) (hd:P.underlying dst=some .string) (hm:zs.length≤maxLen):
  (convert src dst (.slice (some ⟨W.heap.size,0,none⟩) zs.length zs.length)).run P (W.alloc (.cells (zs.map (fun n:Nat=>Value.int .u8 (n:Int))).toArray e))= .ok (.string (strOf zs)) (W.alloc (.cells (zs.map (fun n:Nat=>Value.int .u8 (n:Int))).toArray e)):=
 convert_bytes src dst hs he hd (own_of_heap (base:=W.heap.size) (heap_alloc_new _ _) (Nat.le_refl _) hm)
set_option maxHeartbeats 3200000 in
theorem arithBegun_any (w:World) (hT:Tab w):Calls Tryz.prog 20 #[] w fun z w'=>z= .returned (.bool true)∧Below w.heap.size w w':=by
 have hcA: ∀W:World,(convert 110 9 (.slice (some ⟨W.heap.size,0,none⟩) 4 4)).run Tryz.prog (W.alloc (.cells #[.int .u8 63,.int .u8 128,.int .u8 0,.int .u8 0] 5))= .ok (.string patOne) (W.alloc (.cells #[.int .u8 63,.int .u8 128,.int .u8 0,.int .u8 0] 5)):=fun W=>made_run2 W 5 110 9 [63,128,0,0] Tryz.underlying110 Tryz.underlying5 Tryz.underlying9 (by unfold maxLen;simp)
 have hcB: ∀W:World,(convert 110 9 (.slice (some ⟨W.heap.size,0,none⟩) 4 4)).run Tryz.prog (W.alloc (.cells #[.int .u8 64,.int .u8 0,.int .u8 0,.int .u8 0] 5))= .ok (.string patTwo) (W.alloc (.cells #[.int .u8 64,.int .u8 0,.int .u8 0,.int .u8 0] 5)):=fun W=>made_run2 W 5 110 9 [64,0,0,0] Tryz.underlying110 Tryz.underlying5 Tryz.underlying9 (by unfold maxLen;simp)
 have HA:Hid (∀w1,Below w.heap.size w w1→Calls Tryz.prog 17 #[yi 1,.string patOne,.string patOne,yi 1] w1 fun z w'=>z= .returned (.tuple #[.string patTwo,yi 0,yi 0])∧Below w1.heap.size w1 w'):=fun w1 b=>begun_add w1 (hT.later b)
 generalize patOne=pA at*;generalize patTwo=pB at*;have b1:=below_alloc w (.cells #[.int .u8 63,.int .u8 128,.int .u8 0,.int .u8 0] 5);clear hT
 go_enter Tryz.func20,Tryz.ntmps20
 go_wp2_with fail
 refine(HA.out _ b1).mono ?_;rintro z w2 ⟨rfl,b2⟩;have b02:=below_trans b1 b2;have b3:=below_trans b02 (below_alloc w2 (.cells #[.int .u8 64,.int .u8 0,.int .u8 0,.int .u8 0] 5));clear b1 b2
 go_wp2
 go_ret
 exact⟨rfl,b3⟩
end Go.Proofs.YtnhackdjplppjaaGreatDoor
namespace Go.Proofs.YtnhackdjplppjaaGreatDoor
open Go.RowKit
theorem errL_zero {n:Int}: ∀{ps:List ByteArray},errL n ps=0→ ∀p∈ps,patC n p=0
 | [],_,p,hp=>by simp at hp
 |q::ps,h,p,hp=>by
  unfold errL at h
  by_cases c:patC n q=0
  ·rw[if_pos c] at h
   rcases List.mem_cons.1 hp with rfl|h2
   ·exact c
   ·exact errL_zero h p h2
  ·rw[if_neg c] at h
   exact absurd h c
theorem decC_in {n:Int} {p:ByteArray} (h:patC n p=0):1≤decC n p∧decC n p≤5:=by
 unfold decC;rw[if_pos h];have:=clsN_in n.toNat (fldN n.toNat p) (fldE n.toNat p) (fldF n.toNat p);omega
end Go.Proofs.YtnhackdjplppjaaGreatDoor
namespace Go.Proofs.YtnhackdjplppjaaGreatDoor
open Go.RowKit
def addF (n way:Int) (a b:ByteArray):Int×Bool×Trip×Int:=sumV n.toNat way ((decC n a:Nat):Int) (decG n a) (opT n a) ((decC n b:Nat):Int) (decG n b) (opT n b)
def mulF (n:Int) (a b:ByteArray):Int×Bool×Trip×Int:=prodV n.toNat ((decC n a:Nat):Int) (decG n a) (opT n a) ((decC n b:Nat):Int) (decG n b) (opT n b)
def fusF (n way:Int) (a b c:ByteArray):Int×Bool×Trip×Int:=
 if(mulF n a b).2.2.2=0 then sumV n.toNat way (mulF n a b).1 (mulF n a b).2.1 (mulF n a b).2.2.1 ((decC n c:Nat):Int) (decG n c) (opT n c) else mulF n a b
theorem add_any (n way:Int) (a b:ByteArray) (w:World) (hT:Tab w):Calls Tryz.prog 17 #[yi n,.string a,.string b,yi way] w (ans3 (recT n way [a,b] (addF n way a b)) w):=by
 refine add_W n way _ _ a b _ w (fun pb w1 b1 hl=> ?_)
 refine reckon_any n way [a,b] _ _ pb w1 (by simp) (by simp) hl (enter_of Tryz.func54 (by kernel_rfl) rfl) (hT.later b1) (fun k hk hn he hN=> ?_)
 subst hn;unfold addF;rw[Int.toNat_natCast];obtain⟨sa,-,-⟩:=op_small hk (errL_zero he a (by simp));obtain⟨sb,-,-⟩:=op_small hk (errL_zero he b (by simp));refine⟨fun h=>sum_near (small_near sa sb).1 h,fun g cap w2 b2 h=> ?_⟩
 obtain⟨xo,xc,r0,k0⟩:=h.each 0 a rfl;obtain⟨yo,yc,r1,k1⟩:=h.each 1 b rfl;exact add1_W _ _ _ _ _ _ _ _ _ _ _ _ _ _ _ _ _ _ _ _ _ _ _ _ w2 r0 r1 (fun w3 b3=>dsum_any k hk way _ _ _ _ _ _ _ _ _ _ w3 (k0.later b3) (k1.later b3) (small_mid sa) (small_mid sb))
theorem mul_any (n way:Int) (a b:ByteArray) (w:World) (hT:Tab w):Calls Tryz.prog 24 #[yi n,.string a,.string b,yi way] w (ans3 (recT n way [a,b] (mulF n a b)) w):=by
 refine mul_W n way _ _ a b _ w (fun pb w1 b1 hl=> ?_)
 refine reckon_any n way [a,b] _ _ pb w1 (by simp) (by simp) hl (enter_of Tryz.func64 (by kernel_rfl) rfl) (hT.later b1) (fun k hk hn he hN=> ?_)
 subst hn;unfold mulF;rw[Int.toNat_natCast];obtain⟨sa,-,-⟩:=op_small hk (errL_zero he a (by simp));obtain⟨sb,-,-⟩:=op_small hk (errL_zero he b (by simp));refine⟨fun h=>prod_near (small_near sa sb).2.1 h,fun g cap w2 b2 h=> ?_⟩
 obtain⟨xo,xc,r0,k0⟩:=h.each 0 a rfl;obtain⟨yo,yc,r1,k1⟩:=h.each 1 b rfl;exact mul1_W _ _ _ _ _ _ _ _ _ _ _ _ _ _ _ _ _ _ _ _ _ _ _ _ w2 r0 r1 (fun w3 b3=>dproduct_any k hk way _ _ _ _ _ _ _ _ _ _ w3 (k0.later b3) (k1.later b3) (small_mid sa) (small_mid sb))
theorem prod_mid {k:Nat} {cx cy:Int} {gx gy:Bool} {x y z:Trip} (hx:Small64 x) (hy:Small64 y) (hz:Small64 z):Mid (prodV k cx gx x cy gy y).2.2.1∧Near (plusT (prodV k cx gx x cy gy y).2.2.1 z):=by
 obtain⟨-,-,t1,t2,t3⟩:=small_near hx hy;have key:(prodV k cx gx x cy gy y).2.2.1.n<2^128∧ -33000≤(prodV k cx gx x cy gy y).2.2.1.e∧(prodV k cx gx x cy gy y).2.2.1.e≤33000:=by
  have h0:(0:Nat)<2^128:=two_pos _;unfold prodV
  split
  ·exact⟨h0,by show(-33000:Int)≤0;omega,by show(0:Int)≤33000;omega⟩
  ·split
   ·exact⟨h0,by show(-33000:Int)≤0;omega,by show(0:Int)≤33000;omega⟩
   ·show(numT _).n<_∧_≤(numT _).e∧(numT _).e≤_
    unfold numT
    split
    ·exact⟨h0,by show(-33000:Int)≤0;omega,by show(0:Int)≤33000;omega⟩
    ·exact⟨t1,t2,t3⟩
 obtain⟨k1,k2,k3⟩:=key;obtain⟨z1,z2,z3⟩:=hz;have hp:=plus_near (H:=33128) k1 z1 (by omega) (by omega);exact⟨⟨two_len k1 (by omega),by omega,by omega⟩,⟨by omega,by omega⟩⟩
theorem fused_any (n way:Int) (a b c:ByteArray) (w:World) (hT:Tab w):Calls Tryz.prog 28 #[yi n,.string a,.string b,.string c,yi way] w (ans3 (recT n way [a,b,c] (fusF n way a b c)) w):=by
 refine fused_W n way _ _ a b c _ w (fun pb w1 b1 hl=> ?_)
 refine reckon_any n way [a,b,c] _ _ pb w1 (by simp) (by simp) hl (enter_of Tryz.func71 (by kernel_rfl) rfl) (hT.later b1) (fun k hk hn he hN=> ?_)
 subst hn;obtain⟨sa,-,-⟩:=op_small hk (errL_zero he a (by simp));obtain⟨sb,-,-⟩:=op_small hk (errL_zero he b (by simp));obtain⟨sc,-,-⟩:=op_small hk (errL_zero he c (by simp));have hm:mulF (k:Int) a b=prodV k ((decC (k:Int) a:Nat):Int) (decG (k:Int) a) (opT (k:Int) a) ((decC (k:Int) b:Nat):Int) (decG (k:Int) b) (opT (k:Int) b):=by unfold mulF;rw[Int.toNat_natCast]
 obtain⟨m1,m2⟩:=prod_mid (k:=k) (cx:=((decC (k:Int) a:Nat):Int)) (cy:=((decC (k:Int) b:Nat):Int)) (gx:=decG (k:Int) a) (gy:=decG (k:Int) b) sa sb sc;rw[←hm] at m1 m2;unfold fusF;rw[Int.toNat_natCast]
 by_cases h0:(mulF (k:Int) a b).2.2.2=0
 ·rw[if_pos h0]
  refine⟨fun h=>sum_near m2 h,fun g cap w2 b2 h=> ?_⟩
  obtain⟨xo,xc,r0,k0⟩:=h.each 0 a rfl;obtain⟨yo,yc,r1,k1⟩:=h.each 1 b rfl;obtain⟨zo,zc,r2,k2⟩:=h.each 2 c rfl;refine fused1_W _ _ _ _ _ _ _ _ _ _ _ _ _ _ _ _ _ _ _ _ _ _ _ _ _ _ _ _ _ _ _ _ w2 r0 r1 r2 (fun w3 b3=> ?_) (fun po pc w3 b3 hp=>dsum_any k hk way _ _ _ _ _ _ _ _ _ _ w3 hp (k2.later b3) m1 (small_mid sc))
  have:=dproduct_any k hk way ((decC (k:Int) a:Nat):Int) ((decC (k:Int) b:Nat):Int) (decG (k:Int) a) (decG (k:Int) b) (opT (k:Int) a) (opT (k:Int) b) xo yo xc yc w3 (k0.later b3) (k1.later b3) (small_mid sa) (small_mid sb);rw[←hm] at this;unfold resV at this;rw[h0] at this;exact this
 ·rw[if_neg h0]
  refine⟨fun h=>by rw[hm] at h⊢;exact prod_near (small_near sa sb).2.1 h,fun g cap w2 b2 h=> ?_⟩
  obtain⟨xo,xc,r0,k0⟩:=h.each 0 a rfl;obtain⟨yo,yc,r1,k1⟩:=h.each 1 b rfl;obtain⟨zo,zc,r2,k2⟩:=h.each 2 c rfl;refine fused1_flag _ _ _ _ _ _ _ _ _ _ _ _ _ _ _ _ _ _ _ _ _ _ _ _ _ _ _ _ _ w2 (by simpa using h0) r0 r1 r2 (fun w3 b3=> ?_)
  have:=dproduct_any k hk way ((decC (k:Int) a:Nat):Int) ((decC (k:Int) b:Nat):Int) (decG (k:Int) a) (decG (k:Int) b) (opT (k:Int) a) (opT (k:Int) b) xo yo xc yc w3 (k0.later b3) (k1.later b3) (small_mid sa) (small_mid sb);rw[←hm] at this;exact this
theorem num_turn (x y:Trip) (sg:Bool):numV (plusT x y) sg=numV (plusT y x) sg:=by
 have hn:(plusT x y).n=(plusT y x).n∧(plusT x y).e=(plusT y x).e∧((plusT x y).n≠0→(plusT x y).s=(plusT y x).s):=by
  unfold plusT;simp only;rw[Int.min_comm y.e x.e];generalize x.n*2^ (x.e-min x.e y.e).toNat=u;generalize y.n*2^ (y.e-min x.e y.e).toNat=v
  by_cases hs:x.s=y.s
  ·rw[if_pos hs,if_pos hs.symm]
   exact⟨Nat.add_comm _ _,rfl,fun _=>hs⟩
  ·rw[if_neg hs,if_neg (show¬y.s=x.s from fun c=>hs c.symm)]
   by_cases h1:u<v
   ·rw[if_pos h1,if_neg (by omega)]
    exact⟨rfl,rfl,fun _=>rfl⟩
   ·rw[if_neg h1]
    by_cases h2:v<u
    ·rw[if_pos h2]
     exact⟨rfl,rfl,fun _=>rfl⟩
    ·rw[if_neg h2]
     have:u=v:=by omega
     subst this;exact⟨rfl,rfl,fun c=>absurd (Nat.sub_self u) c⟩
 obtain⟨h1,h2,h3⟩:=hn;unfold numV numC numG numT
 by_cases h0:(plusT x y).n=0
 ·rw[if_pos h0,if_pos h0,if_pos h0,if_pos (h1▸h0),if_pos (h1▸h0),if_pos (h1▸h0)]
 ·have h0': ¬(plusT y x).n=0:=h1▸h0
  have e:plusT x y=plusT y x:=by
   have:=h3 h0;generalize plusT x y=p at*;generalize plusT y x=q at*
   cases p
   cases q
   simp_all
  rw[if_neg h0,if_neg h0,if_neg h0,if_neg h0',if_neg h0',if_neg h0',e]
theorem sumV_no {k:Nat} {wy cx cy:Int} {gx gy:Bool} {x y:Trip} (h:cx=3∧cy=3∧gx≠gy):sumV k wy cx gx x cy gy y=noV k 16:=if_pos h
theorem sumV_x {k:Nat} {wy cx cy:Int} {gx gy:Bool} {x y:Trip} (h1:cx=3) (h: ¬(cy=3∧gx≠gy)):sumV k wy cx gx x cy gy y=(3,gx,x,0):=by
 unfold sumV;rw[if_neg (show¬(cx=3∧cy=3∧gx≠gy) from fun c=>h c.2),if_pos h1]
theorem sumV_y {k:Nat} {wy cx cy:Int} {gx gy:Bool} {x y:Trip} (h1:cx≠3) (h2:cy=3):sumV k wy cx gx x cy gy y=(3,gy,y,0):=by
 unfold sumV;rw[if_neg (show¬(cx=3∧cy=3∧gx≠gy) from fun c=>h1 c.1),if_neg h1,if_pos h2]
theorem sumV_n {k:Nat} {wy cx cy:Int} {gx gy:Bool} {x y:Trip} (h1:cx≠3) (h2:cy≠3):sumV k wy cx gx x cy gy y=numV (plusT x y) (if gx=gy then gx else decide (wy=5)):=by
 unfold sumV;rw[if_neg (show¬(cx=3∧cy=3∧gx≠gy) from fun c=>h1 c.1),if_neg h1,if_neg h2]
theorem sum_turn (k:Nat) (wy cx cy:Int) (gx gy:Bool) (x y:Trip) (hx:cx=3→x=⟨false,0,0⟩) (hy:cy=3→y=⟨false,0,0⟩):sumV k wy cx gx x cy gy y=sumV k wy cy gy y cx gx x:=by
 by_cases h1:cx=3
 ·by_cases h2:cy=3
  ·by_cases h3:gx=gy
   ·rw[sumV_x h1 (fun c=>c.2 h3),sumV_x h2 (fun c=>c.2 h3.symm),h3,hx h1,hy h2]
   ·rw[sumV_no ⟨h1,h2,h3⟩,sumV_no ⟨h2,h1,fun c=>h3 c.symm⟩]
  ·rw[sumV_x h1 (fun c=>h2 c.1),sumV_y h2 h1]
 ·by_cases h2:cy=3
  ·rw[sumV_y h1 h2,sumV_x h2 (fun c=>h1 c.1)]
  ·rw[sumV_n h1 h2,sumV_n h2 h1,num_turn x y]
   by_cases h3:gx=gy
   ·rw[if_pos h3,if_pos h3.symm,h3]
   ·rw[if_neg h3,if_neg (fun c=>h3 c.symm)]
theorem bne_turn (a b:Bool):(a != b)=(b != a):=by cases a<;>cases b<;>rfl
theorem prod_turn (k:Nat) (cx cy:Int) (gx gy:Bool) (x y:Trip):prodV k cx gx x cy gy y=prodV k cy gy y cx gx x:=by
 have ht:timesT x y=timesT y x:=by
  unfold timesT;rw[bne_turn x.s,Nat.mul_comm,Int.add_comm]
 unfold prodV;rw[ht,bne_turn gx]
 by_cases h1:cx=3∧cy=1∨cx=1∧cy=3
 ·rw[if_pos h1,if_pos (show cy=3∧cx=1∨cy=1∧cx=3 by omega)]
 ·rw[if_neg h1,if_neg (show¬(cy=3∧cx=1∨cy=1∧cx=3) by omega)]
  by_cases h2:cx=3∨cy=3
  ·rw[if_pos h2,if_pos (show cy=3∨cx=3 by omega)]
  ·rw[if_neg h2,if_neg (show¬(cy=3∨cx=3) by omega)]
end Go.Proofs.YtnhackdjplppjaaGreatDoor
