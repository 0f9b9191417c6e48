/-
  Texts laid together: Ar8, As9, As10, Fi2.
-/
import Derived.Test.YtnhackdjplppjaaGreatDoorSh40
set_option maxRecDepth 100000
set_option maxHeartbeats 3200000
namespace Go.Proofs.YtnhackdjplppjaaGreatDoor
open _root_.Go.Proofs.Tryz
open Go.RowKit
theorem vj (k:Nat)(hk:1≤k∧k≤8)(w:World):yC 50 #[yi (k:Int)] w (yR w (.tuple #[ygV (rdN k:Int) (dgN k:Int) (lsI k) (gsI k) (decide (k≤3)),yi 0])):=by
 rcases bO hk with rfl|rfl|rfl|rfl|rfl|rfl|rfl|rfl
 ·exact SN w
 ·exact SO w
 ·exact SP w
 ·exact SQ w
 ·exact SR w
 ·exact SS w
 ·exact ST w
 ·exact SU w
theorem Fm {k:Nat}(hk:1≤k∧k≤8){ng:Bool}{E F:Nat}(hc:dh k ng E F≠2):ji k ng E F=⟨false,0,0⟩:=by
 by_cases h1:dh k ng E F=1
 ·exact zd hk h1
 have h2:2^exN k=kp k+1:=by
  rcases bO hk with rfl|rfl|rfl|rfl|rfl|rfl|rfl|rfl<;>decide
 have h63:k=3→2^ (dgN k-1)=2^63:=fun h=>by subst h;rfl
 unfold dh at hc h1;unfold ji
 by_cases h3:k≤3
 ·rw[if_pos h3] at hc h1
  by_cases he:E=0
  ·rw[if_pos he] at hc h1
   by_cases hf:F=0
   ·rw[if_pos hf] at h1
    exact absurd rfl h1
   ·rw[if_neg hf] at hc
    exact absurd rfl hc
  ·rw[if_neg he] at hc
   by_cases ho:E=kp k
   ·by_cases h4:k=3
    ·rw[if_pos h4,if_pos (.inl (by omega))]
    ·rw[if_neg h4,if_pos (by omega),if_pos (by omega)]
   ·rw[if_neg ho] at hc
    by_cases h4:k=3∧F<2^63
    ·rw[if_pos h4.1,if_pos (.inr ⟨by omega,by rw[h63 h4.1];exact h4.2⟩)]
    ·rw[if_neg h4] at hc
     exact absurd rfl hc
 ·rw[if_neg h3] at hc h1
  rw[if_neg (show¬k=3 by omega),if_neg (show¬k≤2 by omega)]
  by_cases h5:k≤5
  ·rw[if_pos h5] at hc h1
   by_cases hf:F=0
   ·rw[if_pos hf] at h1
    exact absurd rfl h1
   ·rw[if_neg hf] at hc
    exact absurd rfl hc
  ·rw[if_neg h5] at hc⊢
   by_cases he:E=0
   ·rw[if_pos he]
   ·rw[if_neg he] at hc
    exact absurd rfl hc
theorem XP {k:Nat}(hk:1≤k∧k≤8)(s:ByteArray):
  cC (ix (Dg.dg 4294967296 (ge k (aZ k s) (aR k s) (aU k s))) (gw k (aZ k s) (aR k s) (aU k s)) (rdN k:Int) (dgN k:Int) (lsI k) (gsI k)) ⟨kt k (aZ k s) (aR k s) (aU k s),Dg.vl 4294967296 (Dg.dg 4294967296 (ge k (aZ k s) (aR k s) (aU k s))),(ai (rdN k:Int):Int)*gw k (aZ k s) (aR k s) (aU k s)⟩=(nxT k s,0):=by
 by_cases hc:dh k (aZ k s) (aR k s) (aU k s)=2
 ·exact EX hk s (.inr hc)
 ·have hgr:=(eR hk).2.2.2.2.2.2.2.2.2.2.2
  have hM:ge k (aZ k s) (aR k s) (aU k s)=0:=if_neg hc;have hP:gw k (aZ k s) (aR k s) (aU k s)=0:=if_neg hc;have hnil:Dg.dg 4294967296 0=[]:=(Dg.dg_nil_iff _ _ (by omega)).2 rfl;rw[hM,hP,hnil,kA (by decide) hgr (by decide)];unfold nxT;rw[Fm hk hc];exact uR _ _
theorem zj (n:Int)(s:ByteArray)(w:World)(hT:Tab w):yC 137 #[yi n,.string s] w (Ys w ((bM n s:Nat):Int) (dz n s) (gJ n s) (iF n s) (opT n s) (dF n s)):=by
 have HD:=fun w1=>fR n s w1
 by_cases hp:dF n s=0
 ·have hf:dK n≠0:=fun hf=>by
   unfold dF at hp;rw[if_pos hf] at hp;omega
  obtain⟨k1,k2,k3⟩:=fF hf;obtain⟨k,rfl⟩: ∃k:Nat,n=(k:Int):=⟨n.toNat,k3.symm⟩;rw[Int.toNat_natCast] at k1 k2;have hk:1≤k∧k≤8:=⟨k1,k2⟩;have hG:dz (k:Int) s=kt k (aZ k s) (aR k s) (aU k s):=by
   unfold dz;rw[if_pos hp,Int.toNat_natCast]
  have hM:gJ (k:Int) s=ge k (aZ k s) (aR k s) (aU k s):=by
   unfold gJ;rw[if_pos hp,Int.toNat_natCast]
  have hP:iF (k:Int) s=gw k (aZ k s) (aR k s) (aU k s):=by
   unfold iF;rw[if_pos hp,Int.toNat_natCast]
  have hO:opT (k:Int) s=nxT k s:=by
   unfold opT;rw[if_pos hp,Int.toNat_natCast]
  rw[hp] at HD⊢;rw[hO];refine abe (k:Int) _ _ _ _ _ _ _ _ _ (nxT k s) s w (fun w1=>vj k hk w1) HD (fun vo vc w1 b r=> ?_)
  have hn:=XP hk s;have hN:=fun w2 (b2:yB w1 w2)=>kB (rdN k:Int) (dgN k:Int) (lsI k) (gsI k) (decide (k≤3)) (dz (k:Int) s) vo vc _ (iF (k:Int) s) false false false w2 (r.l b2) (Dg.small_dg 4294967296 _ (by omega)) (hT.l (aa b b2))
  rw[hG,hM,hP] at hN⊢;rw[hn] at hN;exact IY _ _ _ _ _ _ 0 _ _ vo _ vc (nxT k s) w1 hN
 ·have hC:bM n s=0:=if_neg hp
  have hG:dz n s=false:=if_neg hp;have hM:gJ n s=0:=if_neg hp;have hP:iF n s=0:=if_neg hp;have hO:opT n s=⟨false,0,0⟩:=if_neg hp;rw[hC,hG,hM,hP,hO]
  by_cases hf:dK n=0
  ·have h6:dF n s=6:=by
    unfold dF;rw[if_pos hf]
   rw[h6];exact afp n 6 (by decide) s w (fun w1=>vU n w1 hf)
  ·obtain⟨k1,k2,k3⟩:=fF hf
   obtain⟨k,rfl⟩: ∃k:Nat,n=(k:Int):=⟨n.toNat,k3.symm⟩;rw[Int.toNat_natCast] at k1 k2;exact afq (k:Int) _ hp _ _ _ _ _ _ _ _ _ s w (fun w1=>vj k ⟨k1,k2⟩ w1) HD
theorem mp (k:Nat)(hk:1≤k∧k≤8)(w:World):yC 80 #[yi (k:Int)] w (yR w (.tuple #[ykV (k:Int) 0 (dK (k:Int)) (rdN k:Int) (dgN k:Int) (lsI k) (gsI k) (decide (k≤3)),yi 0])):=
 Yr (k:Int) _ _ _ _ _ _ w (fun w1=>vj k hk w1) (fun w1=>jk (k:Int) w1)
theorem acw (n way f1 e1:Int)(a b st:ByteArray)(w:World)
  (HR: ∀pb w1,yB w w1→au w1 pb 9 [.string a,.string b]→yC 53 #[yi n,yi way,.func (.func 54) #[] #[],.slice (some ⟨pb,0,none⟩) 2 2] w1 (yR w1 (.tuple #[.string st,yi f1,yi e1]))):
  yC 17 #[yi n,.string a,.string b,yi way] w (yR w (.tuple #[.string st,yi f1,yi e1])):=by
 replace HR:Hid _:=HR;have al:=af w (.cells #[.string a,.string b] 9);have ln:=ah w [.string a,.string b] 9
 go_enter func17,ntmps17
 go_wp2_with fail
 refine(HR.out _ _ al ln).mono ?_;rintro z w1 ⟨rfl,b1⟩;have b2:=aa al b1
 go_wp2
 go_ret3
 exact⟨rfl,b2⟩
def jA:ByteArray:=cF [63,128,0,0]
def tE:ByteArray:=cF [64,0,0,0]
theorem IQ:dF 1 jA=0∧bM 1 jA=2∧dz 1 jA=false∧opT 1 jA=⟨false,1,0⟩:=by
 refine⟨?_, ?_, ?_, ?_⟩<;>kernel_rfl
theorem X8:aG ⟨false,1,0⟩ ⟨false,1,0⟩=⟨false,2,0⟩:=by kernel_rfl
theorem IR:eE [2] [1] 0 2 24 (-149) 104 1=0∧df [2] [1] 0 2 24 (-149) 104 true false 1=⟨false,8388608,-22,true,false,false⟩:=by
 refine⟨?_, ?_⟩<;>kernel_rfl
theorem Su:gI 1 2 false [8388608] (-22)=0∧fq 1 2 false [8388608] (-22)=tE:=by
 refine⟨?_, ?_⟩<;>kernel_rfl
theorem Tm (w:World)(g cap:Nat)(h:sF w 1 [jA,jA] g cap):
  yC 54 #[ykV 1 1 1 2 24 (-149) 104 true,.slice (some ⟨g,0,none⟩) 2 cap] w (dU w 2 false ⟨false,2,0⟩ 0):=by
 obtain⟨o1,o2,o3,o4⟩:=IQ;obtain⟨xo,xc,hx,rx⟩:=h.each 0 jA rfl;obtain⟨yo,yc,hy,ry⟩:=h.each 1 jA rfl;unfold opC at hx hy;rw[o2,o3,o4] at hx hy;rw[o4] at rx ry;have hs:=fun w1 (b:yB w w1)=>Ng 1 1 1 2 24 (-149) 104 2 2 true false false ⟨false,1,0⟩ ⟨false,1,0⟩ xo yo xc yc false w1 rfl rfl rfl (fun w2 b2=>uj _ _ ⟨false,1,0⟩ ⟨false,1,0⟩ w2 ⟨_,rfl,(rx.l b).l b2⟩ ⟨_,rfl,(ry.l b).l b2⟩ (by decide) (by decide) (by decide) (by decide) (by decide) (by decide))
 rw[X8,show vI ⟨false,2,0⟩=2 from rfl,show xr ⟨false,2,0⟩ false=false from rfl,show tF ⟨false,2,0⟩=⟨false,2,0⟩ from rfl] at hs
 exact X7 1 1 1 2 24 (-149) 104 2 2 2 0 true false false false ⟨false,1,0⟩ ⟨false,1,0⟩ ⟨false,2,0⟩ xo yo xc yc g cap w hx hy hs
theorem Jy (w:World)(ro:Option Addr)(rc:Nat)(hr:Rd w .u32 (.slice ro (Dg.dg 4294967296 2).length rc) (Dg.dg 4294967296 2))(hT:Tab w):
  yC 107 #[ykV 1 1 1 2 24 (-149) 104 true,yoV 2 false false (.slice ro (Dg.dg 4294967296 2).length rc) 0,yi 0] w (yR w (.tuple #[.string tE,yi 0,yi 0])):=by
 refine El 1 1 1 2 24 (-149) 104 0 true false ⟨false,2,0⟩ ro rc false 2 1 0 false 8388608 (-22) true false false 2 false 8388608 (-22) 0 0 tE 0 0 w (by kernel_rfl) ?_ ?_ ?_ ?_
 ·intro w1 b1
  refine Ct ⟨false,2,0⟩ ⟨false,2,0⟩ ro rc 0 0 2 1 w1 rfl ?_ (fun h=>absurd h (by decide)) (fun _=>⟨rfl,rfl, ?_⟩)
  ·intro w2 b2
   exact(EQ ⟨false,2,0⟩ ro rc w2 ((hr.l b1).l b2) (by decide) (by decide)).mono (fun z w' h=>⟨_,h.1,((hr.l b1).l b2).l h.2,h.2⟩)
  ·intro q w2 hq
   have:=eO (.slice (some ⟨q,0,none⟩) 1 1) [1] 0 w2 (xD hq) (fun i=>by
    match i with
    |0=>decide
    |i+1=>simp) (by simp) (by decide) (by decide)
   rw[show shN (Dg.vl 4294967296 [1]) 0=1 from rfl] at this
   exact this
 ·intro no nc mo mc w1 b1 h1 h2
  have:=jM false no nc [2] mo mc [1] 0 2 24 (-149) 104 true 1 w1 h1 h2 (fun i=>by
    match i with
    |0=>decide
    |i+1=>simp) (fun i=>by
    match i with
    |0=>decide
    |i+1=>simp)
  rw[IR.1,IR.2] at this;exact this.mono (fun z w' h=>by
   obtain⟨v,rfl,own,b2⟩:=h;obtain⟨po,pc,hv⟩:=own.rd.shape;subst hv;exact⟨po,pc,rfl,own.rd,b2⟩)
 ·intro po pc w1 b1 h1
  exact Id 1 1 1 2 24 (-149) 104 (-22) true false true false po _ pc 8388608 w1 rfl h1 (fun h=>by cases h) 2 0 rfl rfl
 ·intro vo vc w1 b1 h1
  have:=It 1 1 1 2 24 (-149) 104 2 (-22) 0 0 true false vo (Dg.dg 4294967296 8388608).length vc tE w1 (fun w2 b2=>by
   have:=jj 1 2 false vo vc [8388608] (-22) w2 (h1.l b2) (fun i=>by
    match i with
    |0=>decide
    |i+1=>simp) ((hT.l b1).l b2)
   rw[Su.1,Su.2] at this;exact this)
  rw[if_pos rfl] at this;exact this
theorem Tn (w:World)(hT:Tab w):
  yC 17 #[yi 1,.string jA,.string jA,yi 1] w (yR w (.tuple #[.string tE,yi 0,yi 0])):=by
 obtain⟨o1,o2,o3,o4⟩:=IQ;refine acw 1 1 0 0 jA jA tE w (fun pb w1 b1 hl=> ?_)
 refine IP 1 2 24 (-149) 104 1 1 2 0 0 0 true false ⟨false,2,0⟩ _ 2 [jA,jA] pb tE w1 (by decide) (by decide) rfl (by decide) (by decide) (by unfold fT fT fT;rw[if_pos o1,if_pos o1]) (by simp[dO,o2]) hl (fun args W=>by kernel_rfl) (fun w2=>mp 1 (by decide) w2) (fun w2 b2 h2=> ?_) (fun g cap w2 _ hV=>Tm w2 g cap hV) (fun ro rc w2 b2 h2=>Jy w2 ro rc h2 ((hT.l b1).l b2))
 exact vQ 1 0 _ _ _ _ _ _ [jA,jA] pb w2 h2 (by simp) (fun p w3 b3=>zj 1 p w3 (((hT.l b1).l b2).l b3))
theorem Ig {P:Program}(W:World)(e src dst:TypeId)(zs:List Nat)(hs:P.underlying src=some (.slice e))(he:P.underlying e=some (.int .u8))(hd:P.underlying dst=some .string)(hm:zs.length≤maxLen):
  (convert src dst (.slice (some ⟨W.heap.size,0,none⟩) zs.length zs.length)).run P (W.alloc (.cells (zs.map (fun n:Nat=>Value.int .u8 (n:Int))).toArray e))= .ok (.string (cF zs)) (W.alloc (.cells (zs.map (fun n:Nat=>Value.int .u8 (n:Int))).toArray e)):=
 lQ src dst hs he hd (pr (base:=W.heap.size) (heap_alloc_new _ _) (Nat.le_refl _) hm)
theorem jx (w:World)(hT:Tab w):yC 20 #[] w (yR w (.bool true)):=by
 have hcA: ∀W:World,(convert 110 9 (.slice (some ⟨W.heap.size,0,none⟩) 4 4)).run Tryz.prog (W.alloc (.cells #[.int .u8 63,.int .u8 128,.int .u8 0,.int .u8 0] 5))= .ok (.string jA) (W.alloc (.cells #[.int .u8 63,.int .u8 128,.int .u8 0,.int .u8 0] 5)):=fun W=>Ig W 5 110 9 [63,128,0,0] underlying110 underlying5 underlying9 (by unfold maxLen;simp)
 have hcB: ∀W:World,(convert 110 9 (.slice (some ⟨W.heap.size,0,none⟩) 4 4)).run Tryz.prog (W.alloc (.cells #[.int .u8 64,.int .u8 0,.int .u8 0,.int .u8 0] 5))= .ok (.string tE) (W.alloc (.cells #[.int .u8 64,.int .u8 0,.int .u8 0,.int .u8 0] 5)):=fun W=>Ig W 5 110 9 [64,0,0,0] underlying110 underlying5 underlying9 (by unfold maxLen;simp)
 have HA:Hid (yH w 17 #[yi 1,.string jA,.string jA,yi 1] (.tuple #[.string tE,yi 0,yi 0])):=fun w1 b=>Tn w1 (hT.l b)
 generalize jA=pA at*;generalize tE=pB at*;have b1:=af w (.cells #[.int .u8 63,.int .u8 128,.int .u8 0,.int .u8 0] 5);clear hT
 go_enter func20,ntmps20
 go_wp2_with fail
 refine(HA.out _ b1).mono ?_;rintro z w2 ⟨rfl,b2⟩;have b02:=aa b1 b2;have b3:=aa b02 (af w2 (.cells #[.int .u8 64,.int .u8 0,.int .u8 0,.int .u8 0] 5));clear b1 b2
 go_wp2
 go_ret
 exact⟨rfl,b3⟩
theorem aej (n f0 f1 f2 R D L G fam:Int)(gr ok ng:Bool)(w:World)(HF:yJ 35 #[yi n] (.tuple #[.agg #[yi f0,yi f1,yi f2,yi R,yi D,yi L,yi G,.bool gr,yi fam],.bool ok])):
  yC 38 #[yi n,.bool ng] w (yR w (yoV 1 (ng&&decide (fam=1)) false (.slice none 0 0) 0)):=by
 replace HF:Hid _:=HF
 cases ng
 ·rw[Bool.false_and]
  have a0:=af w (.cells (yoA 0 false false (.slice none 0 0) 0) 32);have q0:=ah w (yoL 0 false false (.slice none 0 0) 0) 32
  go_enter func38,ntmps38
  go_wp2_with fail
  refine(HF.out _).mono ?_;rintro z w1 ⟨rfl,b1⟩;have al:=af w1 (.cells #[yi f0,yi f1,yi f2,yi R,yi D,yi L,yi G,.bool gr,yi fam] 58);have d2:=ah w1 [yi f0,yi f1,yi f2,yi R,yi D,yi L,yi G,.bool gr,yi fam] 58;have q2:=(q0.l b1).l al;have b2:=aa (aa a0 b1) al;have hne:w.heap.size≠w1.heap.size:=Nat.ne_of_lt (q0.l b1).lt;clear a0 q0 b1 al HF
  go_upto_region 2 with fail
  generalize w1.alloc (.cells #[yi f0,yi f1,yi f2,yi R,yi D,yi L,yi G,.bool gr,yi fam] 58)=W2 at d2 q2 b2⊢;generalize w1.heap.size=PF at d2 hne⊢;have xf:=d2.c 8 rfl;have cR:au (((((W2.setCell ⟨w.heap.size,0,none⟩ (yi 1)).setCell ⟨w.heap.size,1,none⟩ (.bool false)).setCell ⟨w.heap.size,2,none⟩ (.bool false)).setCell ⟨w.heap.size,3,none⟩ (.slice none 0 0)).setCell ⟨w.heap.size,4,none⟩ (yi 0)) (w.heap.size) 32 (yoL 1 false false (.slice none 0 0) 0):=(((((q2.set 0 (yi 1)).set 1 (.bool false)).set 2 (.bool false)).set 3 (.slice none 0 0)).set 4 (yi 0));have bu:=((((ag W2 (w.heap.size) 0 (yi 1)).trans (ag _ (w.heap.size) 1 (.bool false))).trans (ag _ (w.heap.size) 2 (.bool false))).trans (ag _ (w.heap.size) 3 (.slice none 0 0))).trans (ag _ (w.heap.size) 4 (yi 0));have bR:=bu.below b2 (by omega);have hl:=run_loadVar_mid (P:=Tryz.prog) _ (w.heap.size) 0 32 (yoL 1 false false (.slice none 0 0) 0) _ cR.range underlying32 rfl (by kernel_rfl);have HH:Hid (_∧_):=⟨hl,bR⟩;obtain⟨z0,z1,z2,z3,z4⟩:=q2.cs5;have fz0:=q2.f 0;have fz1:=q2.f 1;have fz2:=q2.f 2;have fz3:=q2.f 3;have fz4:=q2.f 4;clear hl bR bu cR;clear q2 b2
  go_wp2
  obtain⟨hl,bR⟩:=HH.out;exact bodyPost_ret (br results38 rfl hl) rfl ⟨rfl,bR⟩
 ·rw[Bool.true_and]
  obtain⟨b,hb⟩: ∃b,(fam==1)=b:=⟨_,rfl⟩;have hd:decide (fam=1)=b:=by rw[←hb];rfl
  rw[hd];clear hd;have a0:=af w (.cells (yoA 0 false false (.slice none 0 0) 0) 32);have q0:=ah w (yoL 0 false false (.slice none 0 0) 0) 32
  go_enter func38,ntmps38
  go_wp2_with fail
  refine(HF.out _).mono ?_;rintro z w1 ⟨rfl,b1⟩;have al:=af w1 (.cells #[yi f0,yi f1,yi f2,yi R,yi D,yi L,yi G,.bool gr,yi fam] 58);have d2:=ah w1 [yi f0,yi f1,yi f2,yi R,yi D,yi L,yi G,.bool gr,yi fam] 58;have q2:=(q0.l b1).l al;have b2:=aa (aa a0 b1) al;have hne:w.heap.size≠w1.heap.size:=Nat.ne_of_lt (q0.l b1).lt;clear a0 q0 b1 al HF
  go_upto_region 2 with fail
  generalize w1.alloc (.cells #[yi f0,yi f1,yi f2,yi R,yi D,yi L,yi G,.bool gr,yi fam] 58)=W2 at d2 q2 b2⊢;generalize w1.heap.size=PF at d2 hne⊢;have xf:=d2.c 8 rfl;have cR:au (((((W2.setCell ⟨w.heap.size,0,none⟩ (yi 1)).setCell ⟨w.heap.size,1,none⟩ (.bool b)).setCell ⟨w.heap.size,2,none⟩ (.bool false)).setCell ⟨w.heap.size,3,none⟩ (.slice none 0 0)).setCell ⟨w.heap.size,4,none⟩ (yi 0)) (w.heap.size) 32 (yoL 1 b false (.slice none 0 0) 0):=(((((q2.set 0 (yi 1)).set 1 (.bool b)).set 2 (.bool false)).set 3 (.slice none 0 0)).set 4 (yi 0));have bu:=((((ag W2 (w.heap.size) 0 (yi 1)).trans (ag _ (w.heap.size) 1 (.bool b))).trans (ag _ (w.heap.size) 2 (.bool false))).trans (ag _ (w.heap.size) 3 (.slice none 0 0))).trans (ag _ (w.heap.size) 4 (yi 0));have bR:=bu.below b2 (by omega);have hl:=run_loadVar_mid (P:=Tryz.prog) _ (w.heap.size) 0 32 (yoL 1 b false (.slice none 0 0) 0) _ cR.range underlying32 rfl (by kernel_rfl);have HH:Hid (_∧_):=⟨hl,bR⟩;obtain⟨z0,z1,z2,z3,z4⟩:=q2.cs5;have fz0:=q2.f 0;have fz1:=q2.f 1;have fz2:=q2.f 2;have fz3:=q2.f 3;have fz4:=q2.f 4;clear hl bR bu cR;clear q2 b2
  go_wp2
  obtain⟨hl,bR⟩:=HH.out;exact bodyPost_ret (br results38 rfl hl) rfl ⟨rfl,bR⟩
theorem aa4 (n f0 f1 f2 R D L G:Int)(gr ok:Bool)(w:World)(HF:yJ 35 #[yi n] (.tuple #[.agg #[yi f0,yi f1,yi f2,yi R,yi D,yi L,yi G,.bool gr,yi 1],.bool ok])):
  yC 117 #[yi n] w (yR w (yoV 4 false false (.slice none 0 0) 0)):=by
 replace HF:Hid _:=HF;have a0:=af w (.cells (yoA 0 false false (.slice none 0 0) 0) 32);have q0:=ah w (yoL 0 false false (.slice none 0 0) 0) 32
 go_enter func117,ntmps117
 go_wp2_with fail
 refine(HF.out _).mono ?_;rintro z w1 ⟨rfl,b1⟩;have al:=af w1 (.cells #[yi f0,yi f1,yi f2,yi R,yi D,yi L,yi G,.bool gr,yi 1] 58);have d2:=ah w1 [yi f0,yi f1,yi f2,yi R,yi D,yi L,yi G,.bool gr,yi 1] 58;have q2:=(q0.l b1).l al;have b2:=aa (aa a0 b1) al;have hne:w.heap.size≠w1.heap.size:=Nat.ne_of_lt (q0.l b1).lt;clear a0 q0 b1 al HF
 go_upto_region 2 with fail
 generalize w1.alloc (.cells #[yi f0,yi f1,yi f2,yi R,yi D,yi L,yi G,.bool gr,yi 1] 58)=W2 at d2 q2 b2⊢;generalize w1.heap.size=PF at d2 hne⊢;have xf:=d2.c 8 rfl;have al:=af W2 (.cells #[yi 0,yi 4,yi 1,yi 5] 3);have s3:=ah W2 [yi 0,yi 4,yi 1,yi 5] 3;have q3:=q2.l al;have d3:=d2.l al;have b3:=aa b2 al;have xf3:=d3.c 8 rfl;obtain⟨u0,u1,u2,u3⟩:=s3.cs4;have cR:au ((((((W2.alloc (.cells #[yi 0,yi 4,yi 1,yi 5] 3)).setCell ⟨w.heap.size,0,none⟩ (yi 4)).setCell ⟨w.heap.size,1,none⟩ (.bool false)).setCell ⟨w.heap.size,2,none⟩ (.bool false)).setCell ⟨w.heap.size,3,none⟩ (.slice none 0 0)).setCell ⟨w.heap.size,4,none⟩ (yi 0)) (w.heap.size) 32 (yoL 4 false false (.slice none 0 0) 0):=(((((q3.set 0 (yi 4)).set 1 (.bool false)).set 2 (.bool false)).set 3 (.slice none 0 0)).set 4 (yi 0));have bu:=((((ag (W2.alloc (.cells #[yi 0,yi 4,yi 1,yi 5] 3)) (w.heap.size) 0 (yi 4)).trans (ag _ (w.heap.size) 1 (.bool false))).trans (ag _ (w.heap.size) 2 (.bool false))).trans (ag _ (w.heap.size) 3 (.slice none 0 0))).trans (ag _ (w.heap.size) 4 (yi 0));have bR:=bu.below b3 (by omega);have hl:=run_loadVar_mid (P:=Tryz.prog) _ (w.heap.size) 0 32 (yoL 4 false false (.slice none 0 0) 0) _ cR.range underlying32 rfl (by kernel_rfl);have HH:Hid (_∧_):=⟨hl,bR⟩;obtain⟨z0,z1,z2,z3,z4⟩:=q3.cs5;have fz0:=q3.f 0;have fz1:=q3.f 1;have fz2:=q3.f 2;have fz3:=q3.f 3;have fz4:=q3.f 4;clear hl bR bu cR;clear q2 b2 q3 b3 al s3
 go_wp2
 obtain⟨hl,bR⟩:=HH.out;exact bodyPost_ret (br results117 rfl hl) rfl ⟨rfl,bR⟩
theorem aa5 (n f0 f1 f2 R D L G:Int)(gr ok:Bool)(w:World)(HF:yJ 35 #[yi n] (.tuple #[.agg #[yi f0,yi f1,yi f2,yi R,yi D,yi L,yi G,.bool gr,yi 2],.bool ok])):
  yC 117 #[yi n] w (yR w (yoV 1 false false (.slice none 0 0) 0)):=by
 replace HF:Hid _:=HF;have a0:=af w (.cells (yoA 0 false false (.slice none 0 0) 0) 32);have q0:=ah w (yoL 0 false false (.slice none 0 0) 0) 32
 go_enter func117,ntmps117
 go_wp2_with fail
 refine(HF.out _).mono ?_;rintro z w1 ⟨rfl,b1⟩;have al:=af w1 (.cells #[yi f0,yi f1,yi f2,yi R,yi D,yi L,yi G,.bool gr,yi 2] 58);have d2:=ah w1 [yi f0,yi f1,yi f2,yi R,yi D,yi L,yi G,.bool gr,yi 2] 58;have q2:=(q0.l b1).l al;have b2:=aa (aa a0 b1) al;have hne:w.heap.size≠w1.heap.size:=Nat.ne_of_lt (q0.l b1).lt;clear a0 q0 b1 al HF
 go_upto_region 2 with fail
 generalize w1.alloc (.cells #[yi f0,yi f1,yi f2,yi R,yi D,yi L,yi G,.bool gr,yi 2] 58)=W2 at d2 q2 b2⊢;generalize w1.heap.size=PF at d2 hne⊢;have xf:=d2.c 8 rfl;have al:=af W2 (.cells #[yi 0,yi 4,yi 1,yi 5] 3);have s3:=ah W2 [yi 0,yi 4,yi 1,yi 5] 3;have q3:=q2.l al;have d3:=d2.l al;have b3:=aa b2 al;have xf3:=d3.c 8 rfl;obtain⟨u0,u1,u2,u3⟩:=s3.cs4;have cR:au ((((((W2.alloc (.cells #[yi 0,yi 4,yi 1,yi 5] 3)).setCell ⟨w.heap.size,0,none⟩ (yi 1)).setCell ⟨w.heap.size,1,none⟩ (.bool false)).setCell ⟨w.heap.size,2,none⟩ (.bool false)).setCell ⟨w.heap.size,3,none⟩ (.slice none 0 0)).setCell ⟨w.heap.size,4,none⟩ (yi 0)) (w.heap.size) 32 (yoL 1 false false (.slice none 0 0) 0):=(((((q3.set 0 (yi 1)).set 1 (.bool false)).set 2 (.bool false)).set 3 (.slice none 0 0)).set 4 (yi 0));have bu:=((((ag (W2.alloc (.cells #[yi 0,yi 4,yi 1,yi 5] 3)) (w.heap.size) 0 (yi 1)).trans (ag _ (w.heap.size) 1 (.bool false))).trans (ag _ (w.heap.size) 2 (.bool false))).trans (ag _ (w.heap.size) 3 (.slice none 0 0))).trans (ag _ (w.heap.size) 4 (yi 0));have bR:=bu.below b3 (by omega);have hl:=run_loadVar_mid (P:=Tryz.prog) _ (w.heap.size) 0 32 (yoL 1 false false (.slice none 0 0) 0) _ cR.range underlying32 rfl (by kernel_rfl);have HH:Hid (_∧_):=⟨hl,bR⟩;obtain⟨z0,z1,z2,z3,z4⟩:=q3.cs5;have fz0:=q3.f 0;have fz1:=q3.f 1;have fz2:=q3.f 2;have fz3:=q3.f 3;have fz4:=q3.f 4;clear hl bR bu cR;clear q2 b2 q3 b3 al s3
 go_wp2
 obtain⟨hl,bR⟩:=HH.out;exact bodyPost_ret (br results117 rfl hl) rfl ⟨rfl,bR⟩
theorem aa6 (n f0 f1 f2 R D L G:Int)(gr ok:Bool)(w:World)(HF:yJ 35 #[yi n] (.tuple #[.agg #[yi f0,yi f1,yi f2,yi R,yi D,yi L,yi G,.bool gr,yi 3],.bool ok])):
  yC 117 #[yi n] w (yR w (yoV 5 false false (.slice none 0 0) 0)):=by
 replace HF:Hid _:=HF;have a0:=af w (.cells (yoA 0 false false (.slice none 0 0) 0) 32);have q0:=ah w (yoL 0 false false (.slice none 0 0) 0) 32
 go_enter func117,ntmps117
 go_wp2_with fail
 refine(HF.out _).mono ?_;rintro z w1 ⟨rfl,b1⟩;have al:=af w1 (.cells #[yi f0,yi f1,yi f2,yi R,yi D,yi L,yi G,.bool gr,yi 3] 58);have d2:=ah w1 [yi f0,yi f1,yi f2,yi R,yi D,yi L,yi G,.bool gr,yi 3] 58;have q2:=(q0.l b1).l al;have b2:=aa (aa a0 b1) al;have hne:w.heap.size≠w1.heap.size:=Nat.ne_of_lt (q0.l b1).lt;clear a0 q0 b1 al HF
 go_upto_region 2 with fail
 generalize w1.alloc (.cells #[yi f0,yi f1,yi f2,yi R,yi D,yi L,yi G,.bool gr,yi 3] 58)=W2 at d2 q2 b2⊢;generalize w1.heap.size=PF at d2 hne⊢;have xf:=d2.c 8 rfl;have al:=af W2 (.cells #[yi 0,yi 4,yi 1,yi 5] 3);have s3:=ah W2 [yi 0,yi 4,yi 1,yi 5] 3;have q3:=q2.l al;have d3:=d2.l al;have b3:=aa b2 al;have xf3:=d3.c 8 rfl;obtain⟨u0,u1,u2,u3⟩:=s3.cs4;have cR:au ((((((W2.alloc (.cells #[yi 0,yi 4,yi 1,yi 5] 3)).setCell ⟨w.heap.size,0,none⟩ (yi 5)).setCell ⟨w.heap.size,1,none⟩ (.bool false)).setCell ⟨w.heap.size,2,none⟩ (.bool false)).setCell ⟨w.heap.size,3,none⟩ (.slice none 0 0)).setCell ⟨w.heap.size,4,none⟩ (yi 0)) (w.heap.size) 32 (yoL 5 false false (.slice none 0 0) 0):=(((((q3.set 0 (yi 5)).set 1 (.bool false)).set 2 (.bool false)).set 3 (.slice none 0 0)).set 4 (yi 0));have bu:=((((ag (W2.alloc (.cells #[yi 0,yi 4,yi 1,yi 5] 3)) (w.heap.size) 0 (yi 5)).trans (ag _ (w.heap.size) 1 (.bool false))).trans (ag _ (w.heap.size) 2 (.bool false))).trans (ag _ (w.heap.size) 3 (.slice none 0 0))).trans (ag _ (w.heap.size) 4 (yi 0));have bR:=bu.below b3 (by omega);have hl:=run_loadVar_mid (P:=Tryz.prog) _ (w.heap.size) 0 32 (yoL 5 false false (.slice none 0 0) 0) _ cR.range underlying32 rfl (by kernel_rfl);have HH:Hid (_∧_):=⟨hl,bR⟩;obtain⟨z0,z1,z2,z3,z4⟩:=q3.cs5;have fz0:=q3.f 0;have fz1:=q3.f 1;have fz2:=q3.f 2;have fz3:=q3.f 3;have fz4:=q3.f 4;clear hl bR bu cR;clear q2 b2 q3 b3 al s3
 go_wp2
 obtain⟨hl,bR⟩:=HH.out;exact bodyPost_ret (br results117 rfl hl) rfl ⟨rfl,bR⟩
end Go.Proofs.YtnhackdjplppjaaGreatDoor
