/-
  Texts laid together: Ar8, Pa3, As9, Pa4, Oq1, As10, Oq5, Pa5.
-/
import Derived.Test.YtbdokgamhinajaaGreatDoorSo28
import Derived.Test.YtbdokgamhinajaaGreatDoorSo32
set_option maxRecDepth 100000
set_option maxHeartbeats 3200000
namespace Go.Proofs.YtbdokgamhinajaaGreatDoor
open _root_.Go.Proofs.Tryz
open Go.RowKit
theorem vj (k:Nat)(hk:1≤k∧k≤8)(w:World):yC 83 #[yi k] w (yR w (.tuple #[ygV (rdN k) (dgN k) (lsI k) (gsI k) (decide (k≤3)),yi 0])):=by
 rcases bO hk with rfl|rfl|rfl|rfl|rfl|rfl|rfl|rfl
 ·exact SN w
 ·exact SO w
 ·exact SP w
 ·exact SQ w
 ·exact SR w
 ·exact SS w
 ·exact ST w
 ·exact SU w
theorem Fm {k:Nat}(hk:1≤k∧k≤8){ng:Bool}{E F:Nat}(hc:dh k ng E F≠2):ji k ng E F=⟨false,0,0⟩:=by
 by_cases h1:dh k ng E F=1
 ·exact zd hk h1
 have h2:2^exN k=kp k+1:=by
  rcases bO hk with rfl|rfl|rfl|rfl|rfl|rfl|rfl|rfl<;>decide
 have h63:k=3→2^ (dgN k-1)=2^63:=fun h=>by subst h;rfl
 unfold dh at hc h1;unfold ji
 by_cases h3:k≤3
 ·rw[if_pos h3] at hc h1
  by_cases he:E=0
  ·rw[if_pos he] at hc h1
   by_cases hf:F=0
   ·rw[if_pos hf] at h1
    exact absurd rfl h1
   ·rw[if_neg hf] at hc
    exact absurd rfl hc
  ·rw[if_neg he] at hc
   by_cases ho:E=kp k
   ·by_cases h4:k=3
    ·rw[if_pos h4,if_pos (.inl (by omega))]
    ·rw[if_neg h4,if_pos (by omega),if_pos (by omega)]
   ·rw[if_neg ho] at hc
    by_cases h4:k=3∧F<2^63
    ·rw[if_pos h4.1,if_pos (.inr ⟨by omega,by rw[h63 h4.1];exact h4.2⟩)]
    ·rw[if_neg h4] at hc
     exact absurd rfl hc
 ·rw[if_neg h3] at hc h1
  rw[if_neg (show¬k=3 by omega),if_neg (show¬k≤2 by omega)]
  by_cases h5:k≤5
  ·rw[if_pos h5] at hc h1
   by_cases hf:F=0
   ·rw[if_pos hf] at h1
    exact absurd rfl h1
   ·rw[if_neg hf] at hc
    exact absurd rfl hc
  ·rw[if_neg h5] at hc⊢
   by_cases he:E=0
   ·rw[if_pos he]
   ·rw[if_neg he] at hc
    exact absurd rfl hc
theorem XP {k:Nat}(hk:1≤k∧k≤8)(s:ByteArray):
  cC (ix (Dg.dg 4294967296 (ge k (aZ k s) (aR k s) (aU k s))) (gw k (aZ k s) (aR k s) (aU k s)) (rdN k) (dgN k) (lsI k) (gsI k)) ⟨kt k (aZ k s) (aR k s) (aU k s),Dg.vl 4294967296 (Dg.dg 4294967296 (ge k (aZ k s) (aR k s) (aU k s))),(ai (rdN k):Int)*gw k (aZ k s) (aR k s) (aU k s)⟩=(nxT k s,0):=by
 by_cases hc:dh k (aZ k s) (aR k s) (aU k s)=2
 ·exact EX hk s (.inr hc)
 ·have hgr:=(eR hk).2.2.2.2.2.2.2.2.2.2.2
  have hM:ge k (aZ k s) (aR k s) (aU k s)=0:=if_neg hc;have hP:gw k (aZ k s) (aR k s) (aU k s)=0:=if_neg hc;have hnil:Dg.dg 4294967296 0=[]:=(Dg.dg_nil_iff _ _ (by omega)).2 rfl;rw[hM,hP,hnil,kA (by decide) hgr (by decide)];unfold nxT;rw[Fm hk hc];exact uR _ _
theorem zj n (s:ByteArray)(w:World)(hT:Tab w):yC 97 #[yi n,.string s] w (Ys w ((bM n s:Nat):Int) (dz n s) (gJ n s) (iF n s) (opT n s) (dF n s)):=by
 have HD:=fun w1=>fR n s w1
 by_cases hp:dF n s=0
 ·have hf:dK n≠0:=fun hf=>by
   unfold dF at hp;rw[if_pos hf] at hp;omega
  obtain⟨k1,k2,k3⟩:=fF hf;obtain⟨k,rfl⟩: ∃k:Nat,n=(k:Int):=⟨n.toNat,k3.symm⟩;rw[Int.toNat_natCast] at k1 k2;have hk:1≤k∧k≤8:=⟨k1,k2⟩;have hG:dz (k:Int) s=kt k (aZ k s) (aR k s) (aU k s):=by
   unfold dz;rw[if_pos hp,Int.toNat_natCast]
  have hM:gJ (k:Int) s=ge k (aZ k s) (aR k s) (aU k s):=by
   unfold gJ;rw[if_pos hp,Int.toNat_natCast]
  have hP:iF (k:Int) s=gw k (aZ k s) (aR k s) (aU k s):=by
   unfold iF;rw[if_pos hp,Int.toNat_natCast]
  have hO:opT (k:Int) s=nxT k s:=by
   unfold opT;rw[if_pos hp,Int.toNat_natCast]
  rw[hp] at HD⊢;rw[hO];refine abe (k:Int) _ _ _ _ _ _ _ _ _ (nxT k s) s w (fun w1=>vj k hk w1) HD (fun vo vc w1 b r=> ?_)
  have hn:=XP hk s;have hN:=fun w2 (b2:yB w1 w2)=>kB (rdN k) (dgN k) (lsI k) (gsI k) (decide (k≤3)) (dz (k:Int) s) vo vc _ (iF (k:Int) s) false false false w2 (r.l b2) (Dg.small_dg 4294967296 _ (by omega)) (hT.l (aa b b2))
  rw[hG,hM,hP] at hN⊢;rw[hn] at hN;exact IY _ _ _ _ _ _ 0 _ _ vo _ vc (nxT k s) w1 hN
 ·have hC:bM n s=0:=if_neg hp
  have hG:dz n s=false:=if_neg hp;have hM:gJ n s=0:=if_neg hp;have hP:iF n s=0:=if_neg hp;have hO:opT n s=⟨false,0,0⟩:=if_neg hp;rw[hC,hG,hM,hP,hO]
  by_cases hf:dK n=0
  ·have h6:dF n s=6:=by
    unfold dF;rw[if_pos hf]
   rw[h6];exact afp n 6 (by decide) s w (fun w1=>vU n w1 hf)
  ·obtain⟨k1,k2,k3⟩:=fF hf
   obtain⟨k,rfl⟩: ∃k:Nat,n=(k:Int):=⟨n.toNat,k3.symm⟩;rw[Int.toNat_natCast] at k1 k2;exact afq (k:Int) _ hp _ _ _ _ _ _ _ _ _ s w (fun w1=>vj k ⟨k1,k2⟩ w1) HD
theorem mp (k:Nat)(hk:1≤k∧k≤8)(w:World):yC 43 #[yi k] w (yR w (.tuple #[ykV k 0 (dK k) (rdN k) (dgN k) (lsI k) (gsI k) (decide (k≤3)),yi 0])):=
 Yr k _ _ _ _ _ _ w (fun w1=>vj k hk w1) (fun w1=>jk k w1)
theorem Kp (k:Nat)(hk:1≤k∧k≤8)(a b:ByteArray)(w:World)(hT:Tab w)(ha:dF k a=0)(hb:dF k b=0)(ca:bM k a=1∨bM k a=2)(cb:bM k b=1∨bM k b=2)
  (da:aS (Dg.dg 4294967296 (opT k a).n) (opT k a).e=0) (db:aS (Dg.dg 4294967296 (opT k b).n) (opT k b).e=0):
  yC 28 #[yi k,.string a,.string b] w (yR w (.tuple #[yi (dJ (aG (opT k a) (dV (opT k b)))),.bool true,yi 0])):=by
 have hE:fT k [a,b]=0:=by
  unfold fT fT fT;rw[if_pos ha,if_pos hb]
 have hN:(dO k a||dO k b)=false:=by
  unfold dO;rw[decide_eq_false (by omega),decide_eq_false (by omega)];rfl
 obtain⟨a1,a2,a3⟩:=bL da;obtain⟨b1,b2,b3⟩:=bL db;have la:=(aF a1).2;have lb:=(aF b1).2;exact qQ k _ _ _ _ _ _ _ a b _ w (fun h=>absurd hE h) (fun h=>absurd hE h) (fun _ h=>by rw[hN] at h;cases h) (fun _ _=>rfl) (fun w2=>mp k hk w2)
  (fun pb w2 b2' hl=>vQ k 0 _ _ _ _ _ _ [a,b] pb w2 hl (by simp) (fun p w3 b3'=>zj k p w3 (hT.l (aa b2' b3'))))
  (fun _ _ xo xc yo yc w2 rx ry=>D9 _ _ _ _ _ _ _ _ _ _ _ _ _ _ _ w2 (by rcases ca with h|h<;>rw[h]<;>rfl) (by rcases cb with h|h<;>rw[h]<;>rfl)
   (fun w3 b3'=>iE _ _ (opT k a) (opT k b) w3 ⟨_,rfl,rx.l b3'⟩ ⟨_,rfl,ry.l b3'⟩ (by omega) (by omega) (by omega) (by omega) (by omega) (by omega)))
def iZ (t:ak):Prop:=t.n<2^64∧ -16500≤t.e∧t.e≤16500
theorem VZ {k:Nat}(hk:1≤k∧k≤8)(s:ByteArray)(hc:dh k (aZ k s) (aR k s) (aU k s)=2):(ji k (aZ k s) (aR k s) (aU k s)).n<2^64∧ -16445≤(ji k (aZ k s) (aR k s) (aU k s)).e∧(ji k (aZ k s) (aR k s) (aU k s)).e≤16464∧(ji k (aZ k s) (aR k s) (aU k s)).n≠0:=by
 obtain⟨s1,s2⟩:=Cu k s;have h64:=mZ hk s2;obtain⟨v1,v2,-,-⟩:=J9 hk s1 s2 hc;have hb:=rT hk s1 s2 h64 hc (Nat.ne_of_gt (jX hc));have hT:=iq hk s1 s2 hc;rw[wQ hk] at hT;refine⟨?_,v1,v2, ?_⟩
 ·rw[hT,←hb]
  exact Nat.lt_of_le_of_lt (kR _) (J8 hk _ _ h64)
 ·rw[hT]
  exact(gN (t:=⟨_,_,_⟩) (Nat.ne_of_gt (jX hc))).1
theorem ir {k:Nat}(hk:1≤k∧k≤8){p:ByteArray}(h:dF k p=0):iZ (opT k p)∧(bM k p≠2→opT k p=⟨false,0,0⟩)∧(bM k p=2→(opT k p).n≠0):=by
 have e:opT k p=ji k (aZ k p) (aR k p) (aU k p):=by
  unfold opT nxT;rw[if_pos h,Int.toNat_natCast]
 have ec:bM k p=dh k (aZ k p) (aR k p) (aU k p):=by
  unfold bM;rw[if_pos h,Int.toNat_natCast]
 rw[e,ec]
 by_cases hc:dh k (aZ k p) (aR k p) (aU k p)=2
 ·obtain⟨s1,s2,s3,s4⟩:=VZ hk p hc
  exact⟨⟨s1,by omega,by omega⟩,fun c=>absurd hc c,fun _=>s4⟩
 ·have:=Fm hk (ng:=aZ k p) (E:=aR k p) (F:=aU k p) hc
  rw[this];exact⟨⟨by show(0:Nat)<2^64;exact Nat.two_pow_pos 64,by show(-16500:Int)≤0;omega,by show 0≤16500;omega⟩,fun _=>rfl,fun c=>absurd c hc⟩
def noV (k:Nat)(fl:Int):Int×Bool×ak×Int:=(AZ (dK k),false,⟨false,0,0⟩,fl)
def nu (t:ak)(sg:Bool):Int×Bool×ak×Int:=(vI t,xr t sg,tF t,0)
def vY (k:Nat)(wy cx:Int)(gx:Bool)(x:ak)(cy:Int)(gy:Bool)(y:ak):Int×Bool×ak×Int:=
 if cx=3∧cy=3∧gx≠gy then noV k 16 else if cx=3 then(3,gx,x,0) else if cy=3 then(3,gy,y,0) else nu (aG x y) (if gx=gy then gx else decide (wy=5))
def mK (k:Nat)(cx:Int)(gx:Bool)(x:ak)(cy:Int)(gy:Bool)(y:ak):Int×Bool×ak×Int:=
 if cx=3∧cy=1∨cx=1∧cy=3 then noV k 16 else if cx=3∨cy=3 then(3,gx != gy,⟨false,0,0⟩,0) else nu (aK x y) (gx != gy)
abbrev opV (c:Int)(g:Bool)(t:ak)(o:Option Addr)(k:Nat):Value:=(yOV c g t o k)
abbrev rdT (w:World)(t:ak)(o:Option Addr)(k:Nat):Prop:=Rd w .u32 (yT o t.n k) (Dg.dg 4294967296 t.n)
abbrev RE (w:World)(f:Int×Bool×ak×Int):Ending→World→Prop:=dU w f.1 f.2.1 f.2.2.1 f.2.2.2
theorem lV (k:Nat)(hk:1≤k∧k≤8)(wy fl:Int)(w:World):yC 59 #[dsk k wy,yi fl] w (yR w (.tuple #[yoV (AZ (dK k)) false false yN 0,yi fl])):=
 Pb _ _ _ _ _ _ _ _ _ _ w (fun w1=>A5 _ (qt hk) w1)
def Mid (t:ak):Prop:=(Dg.dg 4294967296 t.n).length≤100000∧ -100000≤t.e∧t.e≤100000
theorem ne3 {c:Int}(h:c≠3):(c==3)=false:=by simpa using h
theorem ne1 {c:Int}(h:c≠1):(c==1)=false:=by simpa using h
theorem GQ (k:Nat)(hk:1≤k∧k≤8)(wy cx cy:Int)(gx gy:Bool)(x y:ak)(xo yo:Option Addr)(xc yc:Nat)(w:World)(rx:rdT w x xo xc)(ry:rdT w y yo yc)(mx:Mid x)(my:Mid y):
  yC 31 #[dsk k wy,opV cx gx x xo xc,opV cy gy y yo yc] w (RE w (vY k wy cx gx x cy gy y)):=by
 unfold vY
 by_cases hx:cx=3
 ·subst hx
  by_cases hy:cy=3
  ·subst hy
   cases gx<;>cases gy
   ·rw[if_neg (by simp),if_pos rfl]
    exact S4 _ _ _ _ _ _ _ _ _ _ _ _ _ _ _ w rx
   ·rw[if_pos (by simp)]
    exact RC _ _ _ _ _ _ _ _ _ _ _ _ _ _ _ w (fun w1=>lV k hk wy 16 w1)
   ·rw[if_pos (by simp)]
    exact Rz _ _ _ _ _ _ _ _ _ _ _ _ _ _ _ w (fun w1=>lV k hk wy 16 w1)
   ·rw[if_neg (by simp),if_pos rfl]
    exact S4 _ _ _ _ _ _ _ _ _ _ _ _ _ _ _ w rx
  ·rw[if_neg (fun c=>hy c.2.1),if_pos rfl]
   exact adM _ _ _ _ _ _ _ _ _ _ _ _ _ _ _ _ _ w (ne3 hy) rx
 ·rw[if_neg (fun c=>hx c.1),if_neg hx]
  by_cases hy:cy=3
  ·subst hy
   rw[if_pos rfl];exact adN _ _ _ _ _ _ _ _ _ _ _ _ _ _ _ _ _ w (ne3 hx) ry
  ·rw[if_neg hy]
   exact Ng _ _ _ _ _ _ _ _ _ _ _ _ _ _ _ _ _ _ _ w rfl (ne3 hx) (ne3 hy) (fun w1 b=>uj _ _ x y w1 ⟨_,rfl,rx.l b⟩ ⟨_,rfl,ry.l b⟩ mx.1 my.1 mx.2.1 mx.2.2 my.2.1 my.2.2)
theorem vZ (k:Nat)(hk:1≤k∧k≤8)(wy cx cy:Int)(gx gy:Bool)(x y:ak)(xo yo:Option Addr)(xc yc:Nat)(w:World)(rx:rdT w x xo xc)(ry:rdT w y yo yc)(mx:Mid x)(my:Mid y):
  yC 41 #[dsk k wy,opV cx gx x xo xc,opV cy gy y yo yc] w (RE w (mK k cx gx x cy gy y)):=by
 have HT:=fun w1 (b:yB w w1)=>Ac _ _ x y w1 ⟨_,rfl,rx.l b⟩ ⟨_,rfl,ry.l b⟩ mx.1 my.1 mx.2.1 mx.2.2 my.2.1 my.2.2
 have HM:=fun uo uc w1 h=>mT (aK x y) (gx != gy) uo uc w1 h
 unfold mK
 by_cases hx:cx=3
 ·subst hx
  by_cases hy:cy=1
  ·subst hy
   rw[if_pos (.inl ⟨rfl,rfl⟩)];exact Oh _ _ _ _ _ _ _ _ _ _ _ _ _ _ _ _ _ w (fun w1=>lV k hk wy 16 w1)
  ·rw[if_neg (by omega),if_pos (.inl rfl)]
   exact Oj _ _ _ _ _ _ _ _ _ _ _ _ _ _ _ _ _ w (ne1 hy)
 ·by_cases hy:cy=3
  ·subst hy
   by_cases h1:cx=1
   ·subst h1
    rw[if_pos (.inr ⟨rfl,rfl⟩)];exact Oi _ _ _ _ _ _ _ _ _ _ _ _ _ _ _ _ _ w (fun w1=>lV k hk wy 16 w1)
   ·rw[if_neg (by omega),if_pos (.inr rfl)]
    exact Ok _ _ _ _ _ _ _ _ _ _ _ _ _ _ _ _ _ w (ne3 hx) (ne1 h1)
  ·rw[if_neg (by omega),if_neg (by omega)]
   by_cases h1:cx=1
   ·subst h1
    exact Ol _ _ _ _ _ _ _ _ _ _ _ _ _ _ _ _ _ _ _ _ _ w (ne3 hy) HT HM
   ·exact K5 _ _ _ _ _ _ _ _ _ _ _ _ _ _ _ _ _ _ _ _ _ _ w (ne3 hx) (ne1 h1) (ne3 hy) HT HM
theorem acw (n way f1 e1:Int)(a b st:ByteArray)(w:World)
  (HR: ∀pb w1,yB w w1→au w1 pb 9 [.string a,.string b]→yC 29 #[yi n,yi way,.func (.func 30) #[] #[],.slice (some ⟨pb,0,none⟩) 2 2] w1 (yR w1 (.tuple #[.string st,yi f1,yi e1]))):
  yC 8 #[yi n,.string a,.string b,yi way] w (yR w (.tuple #[.string st,yi f1,yi e1])):=by
 replace HR:Hid _:=HR;have al:=af w (.cells #[.string a,.string b] 9);have ln:=ah w [.string a,.string b] 9
 go_enter func8,ntmps8
 go_wp2_with fail
 refine(HR.out _ _ al ln).mono ?_;rintro z w1 ⟨rfl,b1⟩;have b2:=aa al b1
 go_wp2
 go_ret3
 exact⟨rfl,b2⟩
def jA:ByteArray:=cF [63,128,0,0]
def tE:ByteArray:=cF [64,0,0,0]
theorem IQ:dF 1 jA=0∧bM 1 jA=2∧dz 1 jA=false∧opT 1 jA=⟨false,1,0⟩:=by
 refine⟨?_, ?_, ?_, ?_⟩<;>kernel_rfl
theorem X8:aG ⟨false,1,0⟩ ⟨false,1,0⟩=⟨false,2,0⟩:=by kernel_rfl
theorem IR:eE [2] [1] 0 2 24 (-149) 104 1=0∧df [2] [1] 0 2 24 (-149) 104 true false 1=⟨false,8388608,-22,true,false,false⟩:=by
 refine⟨?_, ?_⟩<;>kernel_rfl
theorem Su:gI 1 2 false [8388608] (-22)=0∧fq 1 2 false [8388608] (-22)=tE:=by
 refine⟨?_, ?_⟩<;>kernel_rfl
theorem zw {a b x:Nat}(h:x<2^a)(hab:a≤b):x<2^b:=Nat.lt_of_lt_of_le h (Nat.pow_le_pow_right (by omega) hab)
theorem I3 {a b:ak}{A B:Nat}{H:Int}(ha:a.n<2^A)(hb:b.n<2^B)(h1:a.e+A≤H)(h2:b.e+B≤H):(aG a b).e=min a.e b.e∧(aG a b).e+(bitLen (aG a b).n:Int)≤H+1:=by
 obtain⟨e,he⟩: ∃e,min a.e b.e=e:=⟨_,rfl⟩;have x1:a.n*2^ (a.e-e).toNat<2^ (H-e).toNat:=by
  refine zw (a:=A+(a.e-e).toNat) ?_ (by omega);rw[Nat.pow_add];exact Nat.mul_lt_mul_of_pos_right ha (bG _)
 have y1:b.n*2^ (b.e-e).toNat<2^ (H-e).toNat:=by
  refine zw (a:=B+(b.e-e).toNat) ?_ (by omega);rw[Nat.pow_add];exact Nat.mul_lt_mul_of_pos_right hb (bG _)
 have key:(aG a b).e=e∧(aG a b).n<2^ ((H-e).toNat+1):=by
  unfold aG;simp only;rw[he,Nat.pow_succ]
  split
  ·exact⟨rfl,by show _+_<_;omega⟩
  ·split
   ·exact⟨rfl,by show _-_<_;omega⟩
   ·exact⟨rfl,by show _-_<_;omega⟩
 have:=bF _ _ key.2;refine⟨key.1.trans he.symm, ?_⟩;rw[key.1];omega
theorem xt {t:ak}{sg:Bool}(hn:sH t)(h:(nu t sg).1=2):(nu t sg).2.2.1.n≠0∧sH (nu t sg).2.2.1:=by
 have h0:t.n≠0:=fun c=>by
  have:vI t=2:=h;unfold vI at this;rw[if_pos c] at this;omega
 have e:(nu t sg).2.2.1=t:=if_neg h0;rw[e];exact⟨h0,hn⟩
theorem vN {k:Nat}{fl:Int}(h:(noV k fl).1=2):False:=by
 have:AZ (dK k)=2:=h;unfold AZ at this
 split at this
 ·omega
 ·split at this<;>omega
theorem FU {k:Nat}{wy cx cy:Int}{gx gy:Bool}{x y:ak}(hn:sH (aG x y))(h:(vY k wy cx gx x cy gy y).1=2):(vY k wy cx gx x cy gy y).2.2.1.n≠0∧sH (vY k wy cx gx x cy gy y).2.2.1:=by
 unfold vY at h⊢
 by_cases c1:cx=3∧cy=3∧gx≠gy
 ·rw[if_pos c1] at h
  exact(vN h).elim
 rw[if_neg c1] at h⊢
 by_cases c2:cx=3
 ·rw[if_pos c2] at h
  simp at h
 rw[if_neg c2] at h⊢
 by_cases c3:cy=3
 ·rw[if_pos c3] at h
  simp at h
 rw[if_neg c3] at h⊢;exact xt hn h
theorem I4 {k:Nat}{cx cy:Int}{gx gy:Bool}{x y:ak}(hn:sH (aK x y))(h:(mK k cx gx x cy gy y).1=2):(mK k cx gx x cy gy y).2.2.1.n≠0∧sH (mK k cx gx x cy gy y).2.2.1:=by
 unfold mK at h⊢
 by_cases c1:cx=3∧cy=1∨cx=1∧cy=3
 ·rw[if_pos c1] at h
  exact(vN h).elim
 rw[if_neg c1] at h⊢
 by_cases c2:cx=3∨cy=3
 ·rw[if_pos c2] at h
  simp at h
 rw[if_neg c2] at h⊢;exact xt hn h
theorem jB {t:ak}(h:iZ t):Mid t:=⟨jq h.1 (by omega),by have:=h.2;omega,by have:=h.2;omega⟩
theorem rJ {x y:ak}(hx:iZ x)(hy:iZ y):sH (aG x y)∧sH (aK x y)∧(aK x y).n<2^128∧ -33000≤(aK x y).e∧(aK x y).e≤33000:=by
 obtain⟨x1,x2,x3⟩:=hx;obtain⟨y1,y2,y3⟩:=hy;have hp:=I3 (H:=16564) x1 y1 (by omega) (by omega);have ht:(aK x y).n<2^128:=by
  show x.n*y.n<_
  rw[show(128:Nat)=64+64 from rfl,Nat.pow_add]
  exact Nat.mul_lt_mul'' x1 y1
 have hb:=bF _ _ ht;have he:(aK x y).e=x.e+y.e:=rfl;refine⟨⟨by omega,by omega⟩,⟨by omega,by omega⟩,ht,by omega,by omega⟩
def jV (n way:Int)(ps:List ByteArray)(f:Int×Bool×ak×Int):ByteArray×Int×Int:=
 if dK n=0 then(⟨#[]⟩,0,6) else if fT n ps≠0 then(⟨#[]⟩,0,fT n ps) else if way<1∨5<way then(⟨#[]⟩,0,6)
 else if ps.any (dO n)=true then m8 n.toNat way (AZ (dK n)) false ⟨false,0,0⟩ (if dK n=1 then 0 else 16) else m8 n.toNat way f.1 f.2.1 f.2.2.1 f.2.2.2
theorem nQ (n way:Int)(ps:List ByteArray)(f:Int×Bool×ak×Int)(F pb:Nat)(w:World)(hm3:ps.length≤3)(hm0:1≤ps.length)(hp:au w pb 9 (ps.map Value.string))(hfn: ∀args W,(callFunc F args).run Tryz.prog W= .ok (.enter F args) W)(hT:Tab w)
  (HF: ∀k:Nat,1≤k∧k≤8→n=(k:Int)→fT n ps=0→ps.any (dO n)=false→(f.1=2→f.2.2.1.n≠0∧sH f.2.2.1)∧ ∀g cap w1,yB w w1→sF w1 n ps g cap→yC F #[dsk k way,.slice (some ⟨g,0,none⟩) ps.length cap] w1 (RE w1 f)):
  yC 29 #[yi n,yi way,.func (.func F) #[] #[],.slice (some ⟨pb,0,none⟩) ps.length ps.length] w (mM (jV n way ps f) w):=by
 unfold jV
 by_cases hf:dK n=0
 ·rw[if_pos hf]
  exact Rk n way 6 F ps.length pb w (by decide) (fun w1=>FM n 6 (by decide) w1 (fun w3=>vU n w3 hf))
 rw[if_neg hf];obtain⟨k1,k2,k3⟩:=fF hf;obtain⟨k,rfl⟩: ∃k:Nat,n=(k:Int):=⟨n.toNat,k3.symm⟩;rw[Int.toNat_natCast] at k1 k2;have hk:1≤k∧k≤8:=⟨k1,k2⟩;have HD:=fun w1=>mp k hk w1
 have HO:=fun w1 (b:yB w w1)=>vQ (k:Int) 0 (dK (k:Int)) (rdN k) (dgN k) (lsI k) (gsI k) (decide (k≤3)) ps pb w1 (hp.l b) hm3 (fun p w3 b3=>zj (k:Int) p w3 ((hT.l b).l b3))
 by_cases he:fT (k:Int) ps=0
 ·rw[if_neg (fun c=>c he)]
  have HO2: ∀w1,yB w w1→yC 55 #[dsk k 0,.slice (some ⟨pb,0,none⟩) ps.length ps.length] w1 fun z w'=> ∃g cap,z= .returned (.tuple #[.slice (some ⟨g,0,none⟩) ps.length cap,yi 0])∧sF w' (k:Int) ps g cap∧w1.heap.size≤g∧yB w1 w':=fun w1 b=>by
   refine(HO w1 b).mono (fun z w' hz=> ?_)
   obtain⟨-,v,cs,rfl,hown,hat,b2⟩:=hz.resolve_right (fun h=>h.1 he)
   obtain⟨g,cap,hv,hV⟩:=JF (fun h=>by subst h;simp at hm0) hown hat
   subst hv;exact⟨g,cap,rfl,hV,(World.ownsRow.lt hown g rfl).1,b2⟩
  by_cases hw1:way<1
  ·rw[if_pos (.inl hw1)]
   exact NX (k:Int) _ _ _ _ _ way _ F ps.length ps pb w hw1 HD HO2
  by_cases hw2:5<way
  ·rw[if_pos (.inr hw2)]
   exact NY (k:Int) _ _ _ _ _ way _ F ps.length ps pb w hw1 hw2 HD HO2
  rw[if_neg (by omega)];have hw:1≤way∧way≤5:=by omega
  rw[Int.toNat_natCast]
  by_cases hN:ps.any (dO (k:Int))=true
  ·rw[if_pos hN]
   have HX: ∀g cap w1,sF w1 (k:Int) ps g cap→yC 56 #[.slice (some ⟨g,0,none⟩) ps.length cap] w1 (yR w1 (.bool true)):=fun g cap w1 h=>by
    have:=wJ (k:Int) ps g cap w1 h hm3
    rwa [hN] at this
   have hc:AZ (dK (k:Int))=2→(⟨false,0,0⟩:ak).n≠0∧sH ⟨false,0,0⟩:=fun h=>(vN (k:=k) (fl:=0) h).elim
   by_cases h1:dK (k:Int)=1
   ·rw[if_pos h1]
    have HA:=fun w1 (b:yB w w1)=>AJ k hk way hw (AZ (dK (k:Int))) 0 false ⟨false,0,0⟩ none 0 w1 hc (aN _ _) (hT.l b)
    have HN:=fun w1=>lV k hk way 0 w1
    unfold dsk at HA HN HO2;rw[h1] at HD HO2 HA HN⊢;exact Rm _ _ _ _ (k:Int) _ _ _ _ way _ F ps.length ps pb w hw1 hw2 HD HO2 HX HN HA
   ·rw[if_neg h1]
    exact Rn _ _ _ _ (k:Int) _ _ _ _ _ way _ F ps.length ps pb w hw1 hw2 (by simpa using h1) HD HO2 HX (fun w1=>lV k hk way 16 w1) (fun w1 b=>AJ k hk way hw _ 16 false ⟨false,0,0⟩ none 0 w1 hc (aN _ _) (hT.l b))
  ·rw[if_neg hN]
   have hN':ps.any (dO (k:Int))=false:=by simpa using hN
   obtain⟨hc,HFc⟩:=HF k hk rfl he hN';exact IP (k:Int) _ _ _ _ _ way _ _ _ _ _ _ _ F ps.length ps pb _ w hw.1 hw.2 rfl hm3 hm0 he hN' hp hfn HD (fun w1 b _=>HO w1 b) (fun g cap w1 b h=>HFc g cap w1 b h) (fun ro rc w1 b r=>AJ k hk way hw _ _ _ _ ro rc w1 hc r (hT.l b))
 ·rw[if_pos he]
  refine Rl _ (k:Int) _ _ _ _ _ way _ F ps.length pb w (by simpa using he) HD (fun w1 b=>(HO w1 b).mono (fun z w' hz=> ?_))
  rcases hz with h|h
  ·exact absurd h.1 he
  ·exact h.2
def rfG (n:Int)(p:ByteArray):Bool:=zR n.toNat (aZ n.toNat p) (aR n.toNat p) (aU n.toNat p)
def rfT (n:Int)(p:ByteArray):ak:=ji n.toNat (aZ n.toNat p) (aR n.toNat p) (aU n.toNat p)
def CK (n way:Int)(ps:List ByteArray):Int:=if dK n=0 then 6 else if fT n ps=0 then(if iC way then 0 else 6) else fT n ps
def rfC (n : Int) (p : ByteArray) (v : Value) : List Value := [.int .i64 ((bM n p : Nat) : Int), .bool (rfG n p), .bool (rfT n p).s, v, .int .i64 (rfT n p).e]
def Gw (w:World)(n:Int)(g:Option Nat)(p:ByteArray)(v:Value):Prop:=
 (∃so sc,v= .slice so (Dg.dg 65536 (rfT n p).n).length sc)∧Rd w .i64 v (Dg.dg 65536 (rfT n p).n)∧ ∀b,g=some b→wF b v (Dg.dg 65536 (rfT n p).n)
def tg (w:World)(n:Int)(g:Option Nat):List ByteArray→List Value→Prop
 | [],cs=>cs=[]
 |p::ps,cs=> ∃v rest,cs=rfC n p v++rest∧Gw w n g p v∧tg w n g ps rest
theorem tg.mono {w w':World}{n:Int}{g g':Option Nat}(h: ∀p v,Gw w n g p v→Gw w' n g' p v): ∀{ps:List ByteArray} {cs:List Value},tg w n g ps cs→tg w' n g' ps cs
 | [],_,hc=>hc
 |p::_,_,hc=>by
  obtain⟨v,rest,h1,h2,h3⟩:=hc;exact⟨v,rest,h1,h p v h2,tg.mono h h3⟩
theorem tg.snoc {w:World}{n:Int}{g:Option Nat}{p:ByteArray}{v:Value}(hv:Gw w n g p v): ∀{ps:List ByteArray} {cs:List Value},tg w n g ps cs→tg w n g (ps++[p]) (cs++rfC n p v)
 | [],cs,hc=>by
  have:cs=[]:=hc;subst this;exact⟨v,[],by simp,hv,rfl⟩
 |q::_,_,hc=>by
  obtain⟨u,rest,h1,h2,h3⟩:=hc;subst h1;exact⟨u,rest++rfC n p v,by simp,h2,tg.snoc hv h3⟩
def Vz (w:World)(n:Int)(ps:List ByteArray)(i:Nat)(lv:Value)(wr:World):Prop:=
 ∃cs,wr.ownsRow w.heap.size 32 5 lv i cs∧tg wr n lv.ownBlock (ps.take i) cs∧fT n ps=fT n (ps.drop i)
theorem Gw.l {w w':World}{n:Int}{g:Option Nat}{p:ByteArray}{v:Value}(h:Gw w n g p v)(hb:yB w w'):Gw w' n g p v:=⟨h.1,h.2.1.l hb,h.2.2⟩
theorem Vz.l {w wr w':World}{n:Int}{ps:List ByteArray}{i:Nat}{lv:Value}(h:Vz w n ps i lv wr)(hb:yB wr w'):Vz w n ps i lv w':=by
 obtain⟨cs,h1,h2,h3⟩:=h;exact⟨cs,zZ h1 hb,h2.mono (fun p v k=>k.l hb),h3⟩
structure ab5 (w:World) (n:Int) (ps:List ByteArray) (g cap:Nat):Prop where
 fit:ps.length≤cap
 most:cap≤maxLen
 each: ∀(i:Nat) p,ps[i]? =some p→ ∃so sc,w.rangeAt g (i*5) (rfC n p (.slice so (Dg.dg 65536 (rfT n p).n).length sc))∧Rd w .i64 (.slice so (Dg.dg 65536 (rfT n p).n).length sc) (Dg.dg 65536 (rfT n p).n)
theorem ab5.l {w w':World}{n:Int}{ps:List ByteArray}{g cap:Nat}(h:ab5 w n ps g cap)(hb:yB w w'):ab5 w' n ps g cap:=
 ⟨h.fit,h.most,fun i p hp=>by
  obtain⟨so,sc,h1,h2⟩:=h.each i p hp;exact⟨so,sc,aC h1 hb,h2.l hb⟩⟩
theorem Tm (w:World)(g cap:Nat)(h:sF w 1 [jA,jA] g cap):
  yC 30 #[ykV 1 1 1 2 24 (-149) 104 true,.slice (some ⟨g,0,none⟩) 2 cap] w (dU w 2 false ⟨false,2,0⟩ 0):=by
 obtain⟨o1,o2,o3,o4⟩:=IQ;obtain⟨xo,xc,hx,rx⟩:=h.each 0 jA rfl;obtain⟨yo,yc,hy,ry⟩:=h.each 1 jA rfl;unfold opC at hx hy;rw[o2,o3,o4] at hx hy;rw[o4] at rx ry;have hs:=fun w1 (b:yB w w1)=>Ng 1 1 1 2 24 (-149) 104 2 2 true false false ⟨false,1,0⟩ ⟨false,1,0⟩ xo yo xc yc false w1 rfl rfl rfl (fun w2 b2=>uj _ _ ⟨false,1,0⟩ ⟨false,1,0⟩ w2 ⟨_,rfl,(rx.l b).l b2⟩ ⟨_,rfl,(ry.l b).l b2⟩ (by decide) (by decide) (by decide) (by decide) (by decide) (by decide))
 rw[X8,show vI ⟨false,2,0⟩=2 from rfl,show xr ⟨false,2,0⟩ false=false from rfl,show tF ⟨false,2,0⟩=⟨false,2,0⟩ from rfl] at hs
 exact X7 1 1 1 2 24 (-149) 104 2 2 2 0 true false false false ⟨false,1,0⟩ ⟨false,1,0⟩ ⟨false,2,0⟩ xo yo xc yc g cap w hx hy hs
theorem Jy (w:World)(ro:Option Addr)(rc:Nat)(hr:Rd w .u32 (yT ro 2 rc) (Dg.dg 4294967296 2))(hT:Tab w):
  yC 58 #[ykV 1 1 1 2 24 (-149) 104 true,yoV 2 false false (yT ro 2 rc) 0,yi 0] w (yR w (.tuple #[.string tE,yi 0,yi 0])):=by
 refine El 1 1 1 2 24 (-149) 104 0 true false ⟨false,2,0⟩ ro rc false 2 1 0 false 8388608 (-22) true false false 2 false 8388608 (-22) 0 0 tE 0 0 w (by kernel_rfl) ?_ ?_ ?_ ?_
 ·intro w1 b1
  refine Ct ⟨false,2,0⟩ ⟨false,2,0⟩ ro rc 0 0 2 1 w1 rfl ?_ (fun h=>absurd h (by decide)) (fun _=>⟨rfl,rfl, ?_⟩)
  ·intro w2 b2
   exact(EQ ⟨false,2,0⟩ ro rc w2 ((hr.l b1).l b2) (by decide) (by decide)).mono (fun z w' h=>⟨_,h.1,((hr.l b1).l b2).l h.2,h.2⟩)
  ·intro q w2 hq
   have:=eO (.slice (some ⟨q,0,none⟩) 1 1) [1] 0 w2 (xD hq) (fun i=>by
    match i with
    |0=>decide
    |i+1=>simp) (by simp) (by decide) (by decide)
   rw[show shN (Dg.vl 4294967296 [1]) 0=1 from rfl] at this
   exact this
 ·intro no nc mo mc w1 b1 h1 h2
  have:=jM false no nc [2] mo mc [1] 0 2 24 (-149) 104 true 1 w1 h1 h2 (fun i=>by
    match i with
    |0=>decide
    |i+1=>simp) (fun i=>by
    match i with
    |0=>decide
    |i+1=>simp)
  rw[IR.1,IR.2] at this;exact this.mono (fun z w' h=>by
   obtain⟨v,rfl,own,b2⟩:=h;obtain⟨po,pc,hv⟩:=own.rd.shape;subst hv;exact⟨po,pc,rfl,own.rd,b2⟩)
 ·intro po pc w1 b1 h1
  exact Id 1 1 1 2 24 (-149) 104 (-22) true false true false po _ pc 8388608 w1 rfl h1 (fun h=>by cases h) 2 0 rfl rfl
 ·intro vo vc w1 b1 h1
  have:=It 1 1 1 2 24 (-149) 104 2 (-22) 0 0 true false vo (Dg.dg 4294967296 8388608).length vc tE w1 (fun w2 b2=>by
   have:=jj 1 2 false vo vc [8388608] (-22) w2 (h1.l b2) (fun i=>by
    match i with
    |0=>decide
    |i+1=>simp) ((hT.l b1).l b2)
   rw[Su.1,Su.2] at this;exact this)
  rw[if_pos rfl] at this;exact this
theorem Tn (w:World)(hT:Tab w):
  yC 8 #[yi 1,.string jA,.string jA,yi 1] w (yR w (.tuple #[.string tE,yi 0,yi 0])):=by
 obtain⟨o1,o2,o3,o4⟩:=IQ;refine acw 1 1 0 0 jA jA tE w (fun pb w1 b1 hl=> ?_)
 refine IP 1 2 24 (-149) 104 1 1 2 0 0 0 true false ⟨false,2,0⟩ _ 2 [jA,jA] pb tE w1 (by decide) (by decide) rfl (by decide) (by decide) (by unfold fT fT fT;rw[if_pos o1,if_pos o1]) (by simp[dO,o2]) hl (fun args W=>by kernel_rfl) (fun w2=>mp 1 (by decide) w2) (fun w2 b2 h2=> ?_) (fun g cap w2 _ hV=>Tm w2 g cap hV) (fun ro rc w2 b2 h2=>Jy w2 ro rc h2 ((hT.l b1).l b2))
 exact vQ 1 0 _ _ _ _ _ _ [jA,jA] pb w2 h2 (by simp) (fun p w3 b3=>zj 1 p w3 (((hT.l b1).l b2).l b3))
theorem Ig {P:Program}(W:World)(e src dst:TypeId)(zs:List Nat)(hs:P.underlying src=some (.slice e))(he:P.underlying e=some (.int .u8))(hd:P.underlying dst=some .string)(hm:zs.length≤maxLen):
  (convert src dst (.slice (some ⟨W.heap.size,0,none⟩) zs.length zs.length)).run P (W.alloc (.cells (zs.map (fun n:Nat=>Value.int .u8 (n:Int))).toArray e))= .ok (.string (cF zs)) (W.alloc (.cells (zs.map (fun n:Nat=>Value.int .u8 (n:Int))).toArray e)):=
 lQ src dst hs he hd (pr (base:=W.heap.size) (heap_alloc_new _ _) (Nat.le_refl _) hm)
theorem jx (w:World)(hT:Tab w):yC 11 #[] w (yR w (.bool true)):=by
 have hcA: ∀W:World,(convert 88 9 (.slice (some ⟨W.heap.size,0,none⟩) 4 4)).run Tryz.prog (W.alloc (.cells #[.int .u8 63,.int .u8 128,.int .u8 0,.int .u8 0] 5))= .ok (.string jA) (W.alloc (.cells #[.int .u8 63,.int .u8 128,.int .u8 0,.int .u8 0] 5)):=fun W=>Ig W 5 88 9 [63,128,0,0] underlying88 underlying5 underlying9 (by unfold maxLen;simp)
 have hcB: ∀W:World,(convert 88 9 (.slice (some ⟨W.heap.size,0,none⟩) 4 4)).run Tryz.prog (W.alloc (.cells #[.int .u8 64,.int .u8 0,.int .u8 0,.int .u8 0] 5))= .ok (.string tE) (W.alloc (.cells #[.int .u8 64,.int .u8 0,.int .u8 0,.int .u8 0] 5)):=fun W=>Ig W 5 88 9 [64,0,0,0] underlying88 underlying5 underlying9 (by unfold maxLen;simp)
 have HA:Hid (yH w 8 #[yi 1,.string jA,.string jA,yi 1] (.tuple #[.string tE,yi 0,yi 0])):=fun w1 b=>Tn w1 (hT.l b)
 generalize jA=pA at*;generalize tE=pB at*;have b1:=af w (.cells #[.int .u8 63,.int .u8 128,.int .u8 0,.int .u8 0] 5);clear hT
 go_enter func11,ntmps11
 go_wp2_with fail
 refine(HA.out _ b1).mono ?_;rintro z w2 ⟨rfl,b2⟩;have b02:=aa b1 b2;have b3:=aa b02 (af w2 (.cells #[.int .u8 64,.int .u8 0,.int .u8 0,.int .u8 0] 5));clear b1 b2
 go_wp2
 go_ret
 exact⟨rfl,b3⟩
theorem eU {n:Int}: ∀{ps:List ByteArray},fT n ps=0→ ∀p∈ps,dF n p=0
 | [],_,p,hp=>by simp at hp
 |q::ps,h,p,hp=>by
  unfold fT at h
  by_cases c:dF n q=0
  ·rw[if_pos c] at h
   rcases List.mem_cons.1 hp with rfl|h2
   ·exact c
   ·exact eU h p h2
  ·rw[if_neg c] at h
   exact absurd h c
theorem acu {k:Nat}(hk:1≤k∧k≤8){p:ByteArray}(h:dF k p=0):
  opT k p=rfT k p∧dz k p=rfG k p∧bM k p=dh k (aZ k p) (aR k p) (aU k p)∧rfT k p=nxT k p:=by
 unfold opT rfT dz rfG bM nxT;rw[if_pos h,if_pos h,if_pos h,Int.toNat_natCast,Nu hk];exact⟨rfl,rfl,rfl,rfl⟩
theorem zl {n:Int}{p:ByteArray}(h:dF n p=0):1≤bM n p∧bM n p≤5:=by
 unfold bM;rw[if_pos h];have:=DV n.toNat (aZ n.toNat p) (aR n.toNat p) (aU n.toNat p);omega
theorem XW {k:Nat}(hk:1≤k∧k≤8)(s:ByteArray)(hc:dh k (aZ k s) (aR k s) (aU k s)=1∨dh k (aZ k s) (aR k s) (aU k s)=2):aS (Dg.dg 4294967296 (nxT k s).n) (nxT k s).e=0∧bare (nxT k s)=nxT k s:=by
 obtain⟨h1,h2⟩:=wI (EX hk s hc);refine⟨h2, ?_⟩;rw[h1];exact iH _
def OX (n way:Int)(a b:ByteArray):Int×Bool×ak×Int:=vY n.toNat way ((bM n a:Nat):Int) (dz n a) (opT n a) ((bM n b:Nat):Int) (dz n b) (opT n b)
def qL (n : Int) (a b : ByteArray) : Int × Bool × ak × Int := mK n.toNat ((bM n a : Nat) : Int) (dz n a) (opT n a) ((bM n b : Nat) : Int) (dz n b) (opT n b)
theorem DI (n way:Int)(a b:ByteArray)(w:World)(hT:Tab w):yC 8 #[yi n,.string a,.string b,yi way] w (mM (jV n way [a,b] (OX n way a b)) w):=by
 refine acw n way _ _ a b _ w (fun pb w1 b1 hl=> ?_)
 refine nQ n way [a,b] _ _ pb w1 (by simp) (by simp) hl (enter_of func30 (by kernel_rfl) rfl) (hT.l b1) (fun k hk hn he hN=> ?_)
 subst hn;unfold OX;rw[Int.toNat_natCast];obtain⟨sa,-,-⟩:=ir hk (eU he a (by simp));obtain⟨sb,-,-⟩:=ir hk (eU he b (by simp));refine⟨fun h=>FU (rJ sa sb).1 h,fun g cap w2 b2 h=> ?_⟩
 obtain⟨xo,xc,r0,k0⟩:=h.each 0 a rfl;obtain⟨yo,yc,r1,k1⟩:=h.each 1 b rfl;exact X7 _ _ _ _ _ _ _ _ _ _ _ _ _ _ _ _ _ _ _ _ _ _ _ _ w2 r0 r1 (fun w3 b3=>GQ k hk way _ _ _ _ _ _ _ _ _ _ w3 (k0.l b3) (k1.l b3) (jB sa) (jB sb))
theorem AN (n way:Int)(a b:ByteArray)(w:World)(hT:Tab w):yC 26 #[yi n,.string a,.string b,yi way] w (mM (jV n way [a,b] (qL n a b)) w):=by
 refine aeR n way _ _ a b _ w (fun pb w1 b1 hl=> ?_)
 refine nQ n way [a,b] _ _ pb w1 (by simp) (by simp) hl (enter_of func52 (by kernel_rfl) rfl) (hT.l b1) (fun k hk hn he hN=> ?_)
 subst hn;unfold qL;rw[Int.toNat_natCast];obtain⟨sa,-,-⟩:=ir hk (eU he a (by simp));obtain⟨sb,-,-⟩:=ir hk (eU he b (by simp));refine⟨fun h=>I4 (rJ sa sb).2.1 h,fun g cap w2 b2 h=> ?_⟩
 obtain⟨xo,xc,r0,k0⟩:=h.each 0 a rfl;obtain⟨yo,yc,r1,k1⟩:=h.each 1 b rfl;exact adb _ _ _ _ _ _ _ _ _ _ _ _ _ _ _ _ _ _ _ _ _ _ _ _ w2 r0 r1 (fun w3 b3=>vZ k hk way _ _ _ _ _ _ _ _ _ _ w3 (k0.l b3) (k1.l b3) (jB sa) (jB sb))
theorem Jz {k:Nat}{wy cx cy:Int}{gx gy:Bool}{x y:ak}(h:cx=3∧cy=3∧gx≠gy):vY k wy cx gx x cy gy y=noV k 16:=if_pos h
theorem JA {k:Nat}{wy cx cy:Int}{gx gy:Bool}{x y:ak}(h1:cx=3)(h: ¬(cy=3∧gx≠gy)):vY k wy cx gx x cy gy y=(3,gx,x,0):=by
 unfold vY;rw[if_neg (show¬(cx=3∧cy=3∧gx≠gy) from fun c=>h c.2),if_pos h1]
theorem Wy {k:Nat}{wy cx cy:Int}{gx gy:Bool}{x y:ak}(h1:cx≠3)(h2:cy=3):vY k wy cx gx x cy gy y=(3,gy,y,0):=by
 unfold vY;rw[if_neg (show¬(cx=3∧cy=3∧gx≠gy) from fun c=>h1 c.1),if_neg h1,if_pos h2]
theorem OZ {k:Nat}{wy cx cy:Int}{gx gy:Bool}{x y:ak}(h1:cx≠3)(h2:cy≠3):vY k wy cx gx x cy gy y=nu (aG x y) (if gx=gy then gx else decide (wy=5)):=by
 unfold vY;rw[if_neg (show¬(cx=3∧cy=3∧gx≠gy) from fun c=>h1 c.1),if_neg h1,if_neg h2]
end Go.Proofs.YtbdokgamhinajaaGreatDoor
