/-
  Texts laid together: Eg1, Ce12, Eg2, Eg3, Eb2, Eb3, Eb4, Nx2, Ar2, Ar4, Ar5, Ar3, Ar6.
-/
import Derived.Maps.AppendAt
import Derived.Test.YtbdokgamhinajaaGreatDoorSm28
set_option maxRecDepth 100000
set_option maxHeartbeats 12800000
namespace Go.Proofs.YtbdokgamhinajaaGreatDoor
open _root_.Go.Proofs.Tryz
open Go.RowKit
structure EnF (w:World) (bf:Nat) (vv fl:List Value) (W:World):Prop where
 v:au W w.heap.size 100 vv
 z:au W (w.heap.size+1) 32 (yoL 0 false false yN 0)
 f:au W bf 50 fl
 b:yB w W
theorem EnF.l {w W W':World}{bf:Nat}{vv fl:List Value}(h:EnF w bf vv fl W)(b:yB W W'):EnF w bf vv fl W':=
 ⟨h.v.l b,h.z.l b,h.f.l b,aa h.b b⟩
theorem EnF.lt {w W:World}{bf:Nat}{vv fl:List Value}(h:EnF w bf vv fl W):w.heap.size+1<W.heap.size∧bf<W.heap.size:=⟨h.z.lt,h.f.lt⟩
def gI (n c:Int)(ng:Bool)(xs:List Nat)(p:Int):Int:=
 if dK n=0∨c<1∨5<c then 6 else if chk xs≠0 then chk xs else if c=2 then enE n.toNat ng xs p else qX n.toNat c.toNat xs.length ng p
def fq (n c:Int)(ng:Bool)(xs:List Nat)(p:Int):ByteArray:=
 if dK n=0∨c<1∨5<c then⟨#[]⟩ else if chk xs≠0 then⟨#[]⟩ else if c=2 then enS n.toNat ng xs p else Fv n.toNat c.toNat xs.length ng p
theorem jj (n c:Int)(ng:Bool)(ao:Option Addr)(ca:Nat)(xs:List Nat)(p:Int)(w:World)(hr:Rd w .u32 (.slice ao xs.length ca) xs)(sa:Dg.Small 4294967296 xs)(hT:Tab w):
  yC 88 #[yi n,yvV c ng (.slice ao xs.length ca) p] w (yR w (.tuple #[.string (fq n c ng xs p),yi (gI n c ng xs p)])):=by
 have HN:yH w 118 #[.slice ao xs.length ca] (yi (chk xs)):=fun w1 b=>(jC _ xs w1 (hr.l b)).mono (fun _ _ h=>⟨h.1,by rw[h.2];exact Below.refl _ _⟩)
 unfold gI fq
 by_cases hf:dK n=0
 ·rw[if_pos (.inl hf),if_pos (.inl hf)]
  exact LX n c p ng ao xs.length ca w (fun w1=>lR n w1 hf)
 ·obtain⟨h1,h2,h3⟩:=fF hf
  obtain⟨k,rfl⟩: ∃k:Nat,n=(k:Int):=⟨n.toNat,h3.symm⟩;rw[Int.toNat_natCast] at h1 h2⊢;have HL:=fun w1=>pU k ⟨h1,h2⟩ w1
  by_cases hc1:c<1
  ·rw[if_pos (.inr (.inl hc1)),if_pos (.inr (.inl hc1))]
   rcases bO ⟨h1,h2⟩ with rfl|rfl|rfl|rfl|rfl|rfl|rfl|rfl
   all_goals exact aaS _ _ _ _ _ _ _ _ _ _ c p ng ao xs.length ca w HL hc1
  ·by_cases hc5:5<c
   ·rw[if_pos (.inr (.inr hc5)),if_pos (.inr (.inr hc5))]
    rcases bO ⟨h1,h2⟩ with rfl|rfl|rfl|rfl|rfl|rfl|rfl|rfl
    all_goals exact Xj _ _ _ _ _ _ _ _ _ _ c p ng ao xs.length ca w HL hc5
   ·have hno: ¬(dK (k:Int)=0∨c<1∨5<c):=by
     rintro(h|h|h)
     ·exact hf h
     ·exact hc1 h
     ·exact hc5 h
    rw[if_neg hno,if_neg hno]
    by_cases hn:chk xs=0
    ·rw[if_neg (show¬chk xs≠0 from fun h=>h hn),if_neg (show¬chk xs≠0 from fun h=>h hn)]
     by_cases hc2:c=2
     ·subst hc2
      rw[if_pos rfl,if_pos rfl];have HO:=fun w1 (b:yB w w1)=>B5 k ⟨h1,h2⟩ ng ao ca xs p w1 (hr.l b) sa hn (hT.l b)
      generalize enS k ng xs p=st at*;generalize enE k ng xs p=er at*
      rcases bO ⟨h1,h2⟩ with rfl|rfl|rfl|rfl|rfl|rfl|rfl|rfl
      all_goals exact QD _ _ _ _ _ _ _ _ _ _ p ng ao xs.length ca w HL _ HN st er HO hn
     ·rw[if_neg hc2,if_neg hc2]
      obtain⟨m,hm⟩: ∃m:Nat,c=(m:Int):=⟨c.toNat,by omega⟩;subst hm;rw[Int.toNat_natCast];have HO:=fun w1=>wE k m ⟨h1,h2⟩ (by omega) ng ao xs.length ca p w1
      generalize Fv k m xs.length ng p=st at*;generalize qX k m xs.length ng p=er at*
      rcases bO ⟨h1,h2⟩ with rfl|rfl|rfl|rfl|rfl|rfl|rfl|rfl
      all_goals exact Ip _ _ _ _ _ _ _ _ _ _ _ p ng ao xs.length ca w HL _ HN st er HO (by omega) (by omega) (by omega) hn
    ·rw[if_pos hn,if_pos hn]
     rcases bO ⟨h1,h2⟩ with rfl|rfl|rfl|rfl|rfl|rfl|rfl|rfl
     all_goals exact EF _ _ _ _ _ _ _ _ _ _ c p ng ao xs.length ca w HL _ HN (by omega) (by omega) hn
theorem Gm {k:Nat}(hk:1≤k∧k≤8): -16445≤(ai (rdN k):Int)*lsI k∧(ai (rdN k):Int)*(gsI k+(dgN k:Int))≤16384:=by
 rcases bO hk with rfl|rfl|rfl|rfl|rfl|rfl|rfl|rfl<;>decide
theorem mY {k:Nat}(hk:1≤k∧k≤8){ng:Bool}{xs:List Nat}{p:Int}(hc:chk xs=0)(hx:xs.length≠0)(hp: ¬(p< -20000∨20000<p)):
  enE k ng xs p=if inR (rdN k) (dgN k) (lsI k) (gsI k) (decide (k≤3)) (bare ⟨ng,Dg.vl 4294967296 xs,(ai (rdN k):Int)*p⟩).n (bare ⟨ng,Dg.vl 4294967296 xs,(ai (rdN k):Int)*p⟩).e=true then 0 else 4:=by
 obtain⟨f1,f2,f3,f4,f5,f6,f7,f8,f9,f10,f11,hgc⟩:=eR hk;obtain⟨g1,g2⟩:=Gm hk;have hvn:Dg.vl 4294967296 xs≠0:=fun h=>by
  obtain⟨n1,-⟩:=aF hc;exact Dg.vl_ne_zero 4294967296 (by omega) xs (by intro e;subst e;simp at hx) n1 h
 have hpl:ix xs p (rdN k) (dgN k) (lsI k) (gsI k)=0:=by
  unfold ix;rw[if_pos hc,if_pos hgc,if_neg];unfold eJ;simp;omega
 have hen:enN k ng xs p=bU ⟨ng,Dg.vl 4294967296 xs,(ai (rdN k):Int)*p⟩:=by
  unfold enN cC;rw[if_pos hpl]
 unfold enE;rw[if_neg hp,if_neg hx,hen];have hbn:(bare ⟨ng,Dg.vl 4294967296 xs,(ai (rdN k):Int)*p⟩).n≠0:=fun h=>hvn ((fI _).1 h)
 generalize htt:(⟨ng,Dg.vl 4294967296 xs,(ai (rdN k):Int)*p⟩:ak)=t at*;have hin: ∀hh: ¬1200< (Dg.dg 4294967296 (bare t).n).length,∀h2: ¬((bare t).e< -20000∨20000< (bare t).e),enH k (bare t)=inR (rdN k) (dgN k) (lsI k) (gsI k) (decide (k≤3)) (bare t).n (bare t).e:=fun hh h2=>by
  unfold enH um;have hd:aS (Dg.dg 4294967296 (bare t).n) (bare t).e=0:=by
   unfold aS;rw[if_pos (pJ (Dg.norm_dg 4294967296 (bare t).n (by omega)) (by omega)),if_neg h2]
  have hon:onC (aS (Dg.dg 4294967296 (bare t).n) (bare t).e) (bk (rdN k) (dgN k) (lsI k) (gsI k))=0:=by unfold onC;rw[if_pos hd];exact hgc
  rw[if_pos hon,Dg.vl_dg _ _ (by omega),nN _ _ f7,jK _ _ f7]
 by_cases hi:inR (rdN k) (dgN k) (lsI k) (gsI k) (decide (k≤3)) (bare t).n (bare t).e=true
 ·rw[if_pos hi]
  have hq:(ai (rdN k):Int)*lsI k≤(bare t).e∧(bare t).e+(bitLen (bare t).n:Int)≤(ai (rdN k):Int)*(gsI k+(dgN k:Int)):=by
   have:=hi;unfold inR at this
   rcases of_decide_eq_true this with h|h
   ·exact absurd h hbn
   ·exact⟨h.1,h.2.1⟩
  have hlen: ¬1200< (Dg.dg 4294967296 (bare t).n).length:=by
   have:=jq (d:=(bare t).n) (k:=bitLen (bare t).n) (L:=1200) (bitLen_spec _).1 (by omega);omega
  have h2: ¬((bare t).e< -20000∨20000< (bare t).e):=by omega
  have hsh:bU t=(bare t,0):=by unfold bU;rw[if_neg hlen,if_neg h2]
  rw[hsh,if_pos ⟨rfl,by rw[hin hlen h2];exact hi⟩]
 ·rw[if_neg hi,if_neg]
  rintro⟨h1,h3⟩;unfold bU at h1 h3
  by_cases hlen:1200< (Dg.dg 4294967296 (bare t).n).length
  ·rw[if_pos hlen] at h1
   simp at h1
  ·rw[if_neg hlen] at h1 h3
   by_cases h2:(bare t).e< -20000∨20000< (bare t).e
   ·rw[if_pos h2] at h1
    simp at h1
   ·rw[if_neg h2] at h3
    rw[hin hlen h2] at h3;exact hi h3
theorem KN {xs:List Nat}{L:Nat}(sa:Dg.Small 4294967296 xs)(h:xs.length≤L):(Dg.dg 65536 (Dg.vl 4294967296 xs)).length≤2*L:=by
 refine Dg.dg_len_le 65536 _ _ (by omega) ?_;rw[Nat.pow_mul];exact Nat.lt_of_lt_of_le (Dg.vl_lt 4294967296 xs sa) (Nat.pow_le_pow_right (by omega) h)
theorem AE {t:ak}(h0:t.n≠0):(Dg.dg 65536 (bare t).n).length≤(Dg.dg 65536 t.n).length∧t.e≤(bare t).e∧(bare t).e≤t.e+(bitLen t.n:Int):=by
 obtain⟨-,h2,h3⟩:=gN h0;refine⟨IZ (kR t),by omega,by omega⟩
theorem JN {xs:List Nat}(hc:chk xs=0)(hx:xs.length≠0):Dg.vl 4294967296 xs≠0:=fun h=>by
 obtain⟨n1,-⟩:=aF hc;exact Dg.vl_ne_zero 4294967296 (by omega) xs (by intro e;subst e;simp at hx) n1 h
theorem AW {k:Nat}{ng:Bool}{xs:List Nat}{p:Int}(hx:chk xs=0)(hl:xs.length≠0)(hp: ¬(p< -20000∨20000<p))(sa:Dg.Small 4294967296 xs)(hE:enE k ng xs p=0):
  (enN k ng xs p).1=bare ⟨ng,Dg.vl 4294967296 xs,(ai (rdN k):Int)*p⟩∧(Dg.dg 65536 (bare ⟨ng,Dg.vl 4294967296 xs,(ai (rdN k):Int)*p⟩).n).length≤20000∧ -79000≤(bare ⟨ng,Dg.vl 4294967296 xs,(ai (rdN k):Int)*p⟩).e∧(bare ⟨ng,Dg.vl 4294967296 xs,(ai (rdN k):Int)*p⟩).e≤200000:=by
 have h2:(enN k ng xs p).2=0:=by
  refine Decidable.byContradiction fun c=> ?_
  unfold enE at hE;rw[if_neg hp,if_neg hl,if_neg (fun h=>c h.1)] at hE
  omega
 have hr:=wI (show cC (ix xs p (rdN k) (dgN k) (lsI k) (gsI k)) ⟨ng,Dg.vl 4294967296 xs,(ai (rdN k):Int)*p⟩=((enN k ng xs p).1,0) from Prod.ext rfl h2)
 have hd:=hr.2;rw[hr.1] at hd;obtain⟨-,e1,e2⟩:=bL hd;have hb:=AE (t:=⟨ng,Dg.vl 4294967296 xs,(ai (rdN k):Int)*p⟩) (JN hx hl);have hl2:=KN sa (aF hx).2;refine⟨hr.1,Nat.le_trans hb.1 ?_,by omega,by omega⟩
 show(Dg.dg 65536 (Dg.vl 4294967296 xs)).length≤20000
 omega
theorem NQ {s:Bool}{a:ak}(h:a.n≠0)(hs:a.s=s):(⟨s,(bare a).n,(bare a).e⟩:ak)=bare a:=by
 unfold bare;rw[if_neg h,←hs]
theorem rT {k:Nat}(hk:1≤k∧k≤8){ng:Bool}{E F:Nat}(hE:E<2^exN k)(hF:F<2^frN k)(hF64:F<2^64)(hc:dh k ng E F=2)(h0:iI k E F≠0):
  bare ⟨ng,ge k ng E F,(ai (rdN k):Int)*gw k ng E F⟩=bare ⟨ng,iI k E F,(ai (rdN k):Int)*ii k E⟩:=by
 have hT:=iq hk hE hF hc;rw[zr] at hT
 by_cases hr:rdN k=2
 ·obtain⟨v1,v2⟩:=Va hk hE hF hF64 hc hr
  have hw:ai (rdN k)=1:=by rw[hr];rfl
  rw[v1,v2,hT,hw,show((1:Nat):Int)*(bare ⟨ng,iI k E F,((1:Nat):Int)*ii k E⟩).e=(bare ⟨ng,iI k E F,((1:Nat):Int)*ii k E⟩).e from by omega,NQ (a:=⟨ng,iI k E F,((1:Nat):Int)*ii k E⟩) h0 rfl,iH]
 ·have hr16:rdN k=16:=by rcases bO hk with rfl|rfl|rfl|rfl|rfl|rfl|rfl|rfl<;>revert hr<;>decide
  obtain⟨v1,v2,v3⟩:=I5 hk hE hF hF64 hc hr16;have hw:ai (rdN k)=4:=by rw[hr16];rfl
  rw[hw] at hT⊢;rw[v3,hT];rw[hT] at v1;have hp:=(nV ng (bare ⟨ng,iI k E F,((4:Nat):Int)*ii k E⟩).n (bare ⟨ng,iI k E F,((4:Nat):Int)*ii k E⟩).e (((4:Nat):Int)*gw k ng E F) (by omega)).2;rw[Jv] at hp;rw[show 4*gw k ng E F=((4:Nat):Int)*gw k ng E F from rfl,hp,NQ (a:=⟨ng,iI k E F,((4:Nat):Int)*ii k E⟩) h0 rfl,iH]
theorem mZ {k:Nat}(hk:1≤k∧k≤8){f:Nat}(h:f<2^frN k):f<2^64:=
 Nat.lt_of_lt_of_le h (Nat.pow_le_pow_right (by omega) (fZ hk).2.2.2.1)
theorem GI (r:Nat): ∀(n d:Nat) (p:Int),(lJ r n d p).1≤d
 |0,d,p=>Nat.le_refl _
 |n+1,d,p=>by
  unfold lJ
  split
  ·exact Nat.le_trans (GI r n _ _) (Nat.div_le_self _ _)
  ·exact Nat.le_refl _
theorem Oe {k:Nat}{ng:Bool}{xs ys:List Nat}{p q:Int}(sa:Dg.Small 4294967296 xs)(sb:Dg.Small 4294967296 ys)(hx:chk xs=0)(hy:chk ys=0)(h:enE k ng xs p=0)(h':enE k ng ys q=0)
  (hb:bare ⟨ng,Dg.vl 4294967296 ys,(ai (rdN k):Int)*q⟩=bare ⟨ng,Dg.vl 4294967296 xs,(ai (rdN k):Int)*p⟩):enS k ng ys q=enS k ng xs p:=by
 have key: ∀(zs:List Nat) (r:Int),enE k ng zs r=0→ ¬(r< -20000∨20000<r)∧zs.length≠0:=fun zs r hz=>by
  have hp: ¬(r< -20000∨20000<r):=fun c=>by
   unfold enE at hz;rw[if_pos c] at hz;omega
  refine⟨hp,fun c=> ?_⟩
  unfold enE at hz;rw[if_neg hp,if_pos c] at hz;omega
 obtain⟨a1,a2⟩:=key xs p h;obtain⟨b1,b2⟩:=key ys q h';unfold enS;rw[if_pos h,if_pos h',(AW (k:=k) (ng:=ng) hx a2 a1 sa h).1,(AW (k:=k) (ng:=ng) hy b2 b1 sb h').1,hb]
theorem xH {k:Nat}(hk:1≤k∧k≤8){ng:Bool}{ys:List Nat}{q:Int}(hy:chk ys=0):gI k 2 ng ys q=enE k ng ys q∧fq k 2 ng ys q=enS k ng ys q:=by
 have hf: ¬(dK k=0∨(2:Int)<1∨(5:Int)<2):=by
  rcases bO hk with rfl|rfl|rfl|rfl|rfl|rfl|rfl|rfl<;>decide
 unfold gI fq;rw[if_neg hf,if_neg (fun c=>c hy),if_pos rfl,if_neg hf,if_neg (fun c=>c hy),if_pos rfl,Int.toNat_natCast]
 exact⟨rfl,rfl⟩
theorem Cu (k:Nat)(s:ByteArray):aR k s<2^exN k∧aU k s<2^frN k:=⟨gh _ _ _,gh _ _ _⟩
theorem uR (s:Bool)(e:Int):bU ⟨s,0,e⟩=(⟨false,0,0⟩,0):=by
 have hb:bare ⟨s,0,e⟩=⟨false,0,0⟩:=by simp[bare]
 unfold bU;rw[hb];simp only;rw[show Dg.dg 4294967296 0=[] from(Dg.dg_nil_iff _ _ (by omega)).2 rfl]
 rfl
def nxT (k:Nat)(s:ByteArray):ak:=ji k (aZ k s) (aR k s) (aU k s)
theorem wQ {k:Nat}(hk:1≤k∧k≤8):wdI (rdN k)=(ai (rdN k):Int):=by
 rcases bO hk with rfl|rfl|rfl|rfl|rfl|rfl|rfl|rfl<;>decide
theorem zd {k:Nat}(hk:1≤k∧k≤8){ng:Bool}{E F:Nat}(hc:dh k ng E F=1):ji k ng E F=⟨false,0,0⟩:=by
 have key: ∀(s:Bool) (e:Int),bare ⟨s,0,e⟩=⟨false,0,0⟩:=fun s e=>by simp[bare]
 have h2:2≤2^exN k:=by
  rcases bO hk with rfl|rfl|rfl|rfl|rfl|rfl|rfl|rfl<;>decide
 unfold dh at hc;unfold ji
 by_cases h3:k≤3
 ·rw[if_pos h3] at hc
  by_cases he:E=0
  ·rw[if_pos he] at hc
   by_cases hf:F=0
   ·subst he hf
    by_cases h4:k=3
    ·rw[if_pos h4,if_neg (by rintro(h|h)<;>omega)]
     exact key _ _
    ·rw[if_neg h4,if_pos (by omega),if_neg (by omega),if_neg (by omega)]
     exact key _ _
   ·rw[if_neg hf] at hc
    omega
  ·rw[if_neg he] at hc
   exfalso
   repeat' split at hc
   all_goals omega
 ·rw[if_neg h3] at hc
  rw[if_neg (show¬k=3 by omega),if_neg (show¬k≤2 by omega)]
  by_cases h5:k≤5
  ·rw[if_pos h5] at hc⊢
   by_cases hf:F=0
   ·subst hf
    exact key _ _
   ·rw[if_neg hf] at hc
    omega
  ·rw[if_neg h5] at hc⊢
   by_cases he:E=0
   ·rw[if_pos he]
   ·rw[if_neg he] at hc
    omega
theorem TS {k:Nat}(hk:1≤k∧k≤8){E:Nat}(hE:E<2^exN k): -16445≤(ai (rdN k):Int)*ii k E∧(ai (rdN k):Int)*ii k E≤16400∧ -16445≤ii k E∧ii k E≤16400:=by
 have hf:(rdN k=16∧ai (rdN k)=4∧ -78≤lsI k∧lsI k≤0∧2^exN k=128)∨(rdN k≠16∧ai (rdN k)=1∧ -16445≤lsI k∧lsI k+((2^exN k:Nat):Int)≤16400):=by
  rcases bO hk with rfl|rfl|rfl|rfl|rfl|rfl|rfl|rfl<;>decide
 unfold ii
 rcases hf with⟨h1,h2,h3,h4,h5⟩| ⟨h1,h2,h3,h4⟩
 ·rw[if_pos h1,h2]
  omega
 ·rw[if_neg h1,h2]
  split<;>omega
theorem J8 {k:Nat}(hk:1≤k∧k≤8)(ng:Bool)(E:Nat){F:Nat}(hF:F<2^64):ge k ng E F<2^64:=by
 unfold ge
 split
 ·exact Nat.lt_of_le_of_lt (GI _ _ _ _) (vS hk E hF)
 ·decide
theorem J9 {k:Nat}(hk:1≤k∧k≤8){ng:Bool}{E F:Nat}(hE:E<2^exN k)(hF:F<2^frN k)(hc:dh k ng E F=2):
  -16445≤(ji k ng E F).e∧(ji k ng E F).e≤16464∧ -16460≤gw k ng E F∧gw k ng E F≤16464:=by
 have h64:=mZ hk hF;obtain⟨p1,p2,-,-⟩:=TS hk hE;have hT:=iq hk hE hF hc;rw[wQ hk] at hT;have hp:=jX hc;have hl:=vS hk E h64;have hb:=AE (t:=⟨ng,iI k E F,(ai (rdN k):Int)*ii k E⟩) (Nat.ne_of_gt hp);have hbl:bitLen (iI k E F)≤64:=bF _ _ hl;rw[←hT] at hb;simp only at hb;obtain⟨-,b1,b2⟩:=hb;refine⟨by omega,by omega, ?_⟩;have hr:rdN k=2∨rdN k=16:=by
  rcases bO hk with rfl|rfl|rfl|rfl|rfl|rfl|rfl|rfl<;>decide
 rcases hr with hr|hr
 ·have:=(Va hk hE hF h64 hc hr).2
  omega
 ·have:=I5 hk hE hF h64 hc hr
  omega
theorem EX {k:Nat}(hk:1≤k∧k≤8)(s:ByteArray)(hc:dh k (aZ k s) (aR k s) (aU k s)=1∨dh k (aZ k s) (aR k s) (aU k s)=2):
  cC (ix (Dg.dg 4294967296 (ge k (aZ k s) (aR k s) (aU k s))) (gw k (aZ k s) (aR k s) (aU k s)) (rdN k) (dgN k) (lsI k) (gsI k)) ⟨kt k (aZ k s) (aR k s) (aU k s),Dg.vl 4294967296 (Dg.dg 4294967296 (ge k (aZ k s) (aR k s) (aU k s))),(ai (rdN k):Int)*gw k (aZ k s) (aR k s) (aU k s)⟩=(nxT k s,0):=by
 obtain⟨s1,s2⟩:=Cu k s;have h64:=mZ hk s2;have hgr:=(eR hk).2.2.2.2.2.2.2.2.2.2.2;unfold nxT;generalize aZ k s=ng at*;generalize aR k s=E at*;generalize aU k s=F at*;rw[Dg.vl_dg _ _ (by omega)];have hm:(Dg.dg 4294967296 (ge k ng E F)).length≤2:=Dg.dg_len_le 4294967296 _ 2 (by omega) (Nat.lt_of_lt_of_le (J8 hk ng E h64) (by decide));have hck:chk (Dg.dg 4294967296 (ge k ng E F))=0:=(bL (nt (n:=ge k ng E F) (e:=0) (by omega) (by omega) (by omega))).1
 rcases hc with hc|hc
 ·have hM:ge k ng E F=0:=if_neg (by omega)
  have hP:gw k ng E F=0:=if_neg (by omega);rw[hP,kA hck hgr (by decide),hM,zd hk hc];exact uR _ _
 ·obtain⟨v1,v2,v3,v4⟩:=J9 hk s1 s2 hc
  rw[kA hck hgr (by unfold eJ;simp;omega)];have hb:=rT hk s1 s2 h64 hc (Nat.ne_of_gt (jX hc));have hT:=iq hk s1 s2 hc;rw[wQ hk] at hT;have hG:kt k ng E F=ng:=by
   unfold kt;rw[if_pos (by omega)]
  rw[hG]
  show bU _=_
  rw[hT,←hb];rw[hT,←hb] at v1 v2;exact wK (Nat.le_trans (aH _ _ _ (by omega) (kR _)) (by simp only;omega)) (by omega) (by omega)
def opT (n:Int)(p:ByteArray):ak:=if dF n p=0 then nxT n.toNat p else⟨false,0,0⟩
def opC (n:Int)(p:ByteArray)(v:Value):List Value:=[.int .i64 ((bM n p:Nat):Int),.bool (dz n p),.bool (opT n p).s,v,.int .i64 (opT n p).e]
def F7 (w:World)(n:Int)(g:Option Nat)(p:ByteArray)(v:Value):Prop:=
 (∃so sc,v= .slice so (Dg.dg 4294967296 (opT n p).n).length sc)∧Rd w .u32 v (Dg.dg 4294967296 (opT n p).n)∧ ∀b,g=some b→wF b v (Dg.dg 4294967296 (opT n p).n)
def sV (w:World)(n:Int)(g:Option Nat):List ByteArray→List Value→Prop
 | [],cs=>cs=[]
 |p::ps,cs=> ∃v rest,cs=opC n p v++rest∧F7 w n g p v∧sV w n g ps rest
theorem sV.mono {w w':World}{n:Int}{g g':Option Nat}(h: ∀p v,F7 w n g p v→F7 w' n g' p v): ∀{ps:List ByteArray} {cs:List Value},sV w n g ps cs→sV w' n g' ps cs
 | [],_,hc=>hc
 |p::_,_,hc=>by
  obtain⟨v,rest,h1,h2,h3⟩:=hc;exact⟨v,rest,h1,h p v h2,sV.mono h h3⟩
theorem sV.snoc {w:World}{n:Int}{g:Option Nat}{p:ByteArray}{v:Value}(hv:F7 w n g p v): ∀{ps:List ByteArray} {cs:List Value},sV w n g ps cs→sV w n g (ps++[p]) (cs++opC n p v)
 | [],cs,hc=>by
  have:cs=[]:=hc;subst this;exact⟨v,[],by simp,hv,rfl⟩
 |q::_,_,hc=>by
  obtain⟨u,rest,h1,h2,h3⟩:=hc;subst h1;exact⟨u,rest++opC n p v,by simp,h2,sV.snoc hv h3⟩
def fT (n:Int):List ByteArray→Int
 | []=>0
 |p::ps=>if dF n p=0 then fT n ps else dF n p
def QH (w:World)(n:Int)(ps:List ByteArray)(z:Ending)(w':World):Prop:=
 (fT n ps=0∧ ∃v cs,z= .returned (.tuple #[v,yi 0])∧w'.ownsRow w.heap.size 76 5 v ps.length cs∧sV w' n v.ownBlock ps cs∧yB w w')∨
 (fT n ps≠0∧z= .returned (.tuple #[yN,yi (fT n ps)])∧yB w w')
def Vc (w:World)(n:Int)(ps:List ByteArray)(i:Nat)(lv:Value)(wr:World):Prop:=
 ∃cs,wr.ownsRow (w.heap.size+1) 76 5 lv i cs∧sV wr n lv.ownBlock (ps.take i) cs∧fT n ps=fT n (ps.drop i)
theorem zZ {w w':World}{base e size k:Nat}{v:Value}{xs:List Value}(h:w.ownsRow base e size v k xs)(hb:yB w w'):w'.ownsRow base e size v k xs:=by
 obtain⟨hl,h2⟩:=h;refine⟨hl, ?_⟩
 rcases h2 with h2| ⟨g,cap,cur,hv,hbg,hh,r⟩
 ·exact .inl h2
 ·refine .inr ⟨g,cap,cur,hv,hbg, ?_,r⟩
  rw[hb.block g ?_]
  ·exact hh
  ·rw[Array.getElem?_eq_some_iff] at hh
   exact hh.1
theorem F7.l {w w':World}{n:Int}{g:Option Nat}{p:ByteArray}{v:Value}(h:F7 w n g p v)(hb:yB w w'):F7 w' n g p v:=⟨h.1,h.2.1.l hb,h.2.2⟩
theorem Vc.l {w wr w':World}{n:Int}{ps:List ByteArray}{i:Nat}{lv:Value}(h:Vc w n ps i lv wr)(hb:yB wr w'):Vc w n ps i lv w':=by
 obtain⟨cs,h1,h2,h3⟩:=h;exact⟨cs,zZ h1 hb,h2.mono (fun p v k=>k.l hb),h3⟩
theorem Nx {w w':World}{g:Nat}{k:IntKind}{v:Value}{zs:List Nat}(r:Rd w k v zs)(hg:w.grownBy w' (some g))(ho:wF g v zs):Rd w' k v zs:=by
 obtain⟨ao,cap,rfl,h1,h2,h3⟩:=r;refine⟨ao,cap,rfl,h1,h2,fun hp=> ?_⟩
 obtain⟨b,off,rfl,h4⟩:=h3 hp;refine⟨b,off,rfl,fun i hi=> ?_⟩
 have h5:=h4 i hi;have hlt:b<w.heap.size:=World.block_lt_of_cell? w _ h5;have hne:b≠g:=ho hp _ _ _ rfl;rw[←h5];unfold World.cell?;simp only;rw[hg.block b hlt (fun e=>hne (Option.some.inj e))]
theorem au.grownO {w w':World}{b:Nat}{ty:TypeId}{vs:List Value}{row:Option Nat}(h:au w b ty vs)(hg:w.grownBy w' row)(hne: ∀g,row=some g→b≠g):au w' b ty vs:=
 (hg.block b h.lt (fun e=>hne b e.symm rfl)).trans h
theorem Hv {w:World}{base base' e size k:Nat}{v:Value}{xs:List Value}(h:w.ownsRow base e size v k xs)(hb:base'≤base):w.ownsRow base' e size v k xs:=by
 obtain⟨hl,h2⟩:=h;refine⟨hl, ?_⟩
 rcases h2 with h2| ⟨g,cap,cur,hv,hbg,r⟩
 ·exact .inl h2
 ·exact .inr ⟨g,cap,cur,hv,Nat.le_trans hb hbg,r⟩
theorem Y4 {w w1 w2:World}{n:Int}{ps:List ByteArray}{i:Nat}{lv v' x:Value}{p:ByteArray}{cs:List Value}(hp:ps[i]? =some p)(he:dF n p=0)(h2:sV w1 n lv.ownBlock (ps.take i) cs)(h3:fT n ps=fT n (ps.drop i))(hx:F7 w1 n lv.ownBlock p x)
  (hown:w2.ownsRow (w.heap.size+1) 76 5 v' (i+1) (cs++opC n p x)) (hg:w1.grownBy w2 lv.ownBlock) (hat:v'.ownBlock=lv.ownBlock∨v'.ownBlock=some w1.heap.size):
  Vc w n ps (i+1) v' w2:=by
 have hil:i<ps.length:=by
  rw[List.getElem?_eq_some_iff] at hp;exact hp.1
 have hm: ∀q v,F7 w1 n lv.ownBlock q v→F7 w2 n v'.ownBlock q v:=fun q v k=>by
  obtain⟨k1,k2,k3⟩:=k;refine⟨k1, ?_, ?_⟩
  ·obtain⟨so,sc,rfl⟩:=k1
   cases hb:lv.ownBlock with
   |none=>exact k2.l ⟨hg.os,hg.tape,hg.output,hg.size,fun j hj=>hg.block j hj (by rw[hb];exact fun e=>nomatch e)⟩
   |some b=>exact Nx k2 (hb▸hg) (k3 b hb)
  ·intro b hb
   rcases hat with e|e
   ·exact k3 b (by rw[←e];exact hb)
   ·have hbw:b=w1.heap.size:=by rw[e] at hb;exact(Option.some.inj hb).symm
    exact t9 k2 (by omega)
 refine⟨_,hown, ?_, ?_⟩
 ·rw[List.take_add_one,hp]
  exact(h2.mono hm).snoc (hm p x hx)
 ·rw[h3]
  have hd:ps.drop i=p::ps.drop (i+1):=by
   rw[List.drop_eq_getElem_cons hil]
   congr 1
   rw[List.getElem?_eq_getElem hil] at hp;exact Option.some.inj hp
  rw[hd];exact if_pos he
theorem Sh {w:World}{n:Int}{g:Option Nat}: ∀{ps:List ByteArray} {cs:List Value} {i:Nat} {p:ByteArray},sV w n g ps cs→ps[i]? =some p→ ∃v,F7 w n g p v∧ ∀j u,(opC n p v)[j]? =some u→cs[5*i+j]? =some u
 | [],_,_,_,_,hp=>by simp at hp
 |q::ps,cs,0,p,hc,hp=>by
  obtain⟨v,rest,h1,h2,h3⟩:=hc;have:q=p:=by simpa using hp
  subst this;refine⟨v,h2,fun j u hj=> ?_⟩
  subst h1;rw[List.getElem?_append_left]
  ·simpa using hj
  ·have:=(List.getElem?_eq_some_iff.1 hj).1
   omega
 |q::ps,cs,i+1,p,hc,hp=>by
  obtain⟨v,rest,h1,h2,h3⟩:=hc;obtain⟨u,h4,h5⟩:=Sh h3 (by simpa using hp);refine⟨u,h4,fun j x hj=> ?_⟩
  subst h1;rw[List.getElem?_append_right (by simp[opC];omega)];have:=h5 j x hj;rw[show 5*(i+1)+j-(opC n q v).length=5*i+j from by simp[opC];omega]
  exact this
structure sF (w:World) (n:Int) (ps:List ByteArray) (g cap:Nat):Prop where
 fit:ps.length≤cap
 most:cap≤maxLen
 each: ∀(i:Nat) p,ps[i]? =some p→ ∃so sc,w.rangeAt g (i*5) (opC n p (.slice so (Dg.dg 4294967296 (opT n p).n).length sc))∧Rd w .u32 (.slice so (Dg.dg 4294967296 (opT n p).n).length sc) (Dg.dg 4294967296 (opT n p).n)
theorem aC {w w':World}{g o:Nat}{cs:List Value}(h:w.rangeAt g o cs)(hb:yB w w'):w'.rangeAt g o cs:=fun j v hv=>by
 have:=h j v hv;rw[←this];exact World.cell?_of_block (hb.block g (World.block_lt_of_cell? w _ this))
theorem sF.l {w w':World}{n:Int}{ps:List ByteArray}{g cap:Nat}(h:sF w n ps g cap)(hb:yB w w'):sF w' n ps g cap:=
 ⟨h.fit,h.most,fun i p hp=>by
  obtain⟨so,sc,h1,h2⟩:=h.each i p hp;exact⟨so,sc,aC h1 hb,h2.l hb⟩⟩
theorem JF {w:World}{n:Int}{ps:List ByteArray}{base:Nat}{v:Value}{cs:List Value}(h0:ps≠[])(ho:w.ownsRow base 76 5 v ps.length cs)(hat:sV w n v.ownBlock ps cs):
  ∃g cap,v= .slice (some ⟨g,0,none⟩) ps.length cap∧sF w n ps g cap:=by
 rcases ho.2 with⟨-,h⟩| ⟨g,cap,cur,hv,-,-,h1,h2,-,-⟩
 ·exact absurd (List.eq_nil_of_length_eq_zero h) h0
 ·refine⟨g,cap,hv,h1,h2,fun i p hp=> ?_⟩
  obtain⟨u,⟨⟨so,sc,rfl⟩,k2,k3⟩,k4⟩:=Sh hat hp;refine⟨so,sc,fun j x hj=> ?_,k2⟩
  have:=ho.cells (g:=g) (by rw[hv];rfl) (5*i+j) x (k4 j x hj);rw[Addr.add_mid,Nat.zero_add] at this;rw[Nat.mul_comm i 5];exact this
def dO (n:Int)(p:ByteArray):Bool:=decide (bM n p=4∨bM n p=5)
theorem wJ (n:Int)(ps:List ByteArray)(g cap:Nat)(w:World)(h:sF w n ps g cap)(hm:ps.length≤3):
  yC 56 #[.slice (some ⟨g,0,none⟩) ps.length cap] w (yR w (.bool (ps.any (dO n)))):=by
 obtain⟨m,hmE⟩: ∃m,ps.length=m:=⟨_,rfl⟩;have hfit:=h.fit;have hmost:=h.most;rw[hmE] at hm hfit⊢;have HM:Hid (ps.length=m):=hmE;have HF:Hid (m≤cap∧cap≤maxLen):=⟨hfit,hmost⟩;clear hmE hfit hmost
 go_enter func56,ntmps56
 go_wp2
 go_loopw [7] (fun iv wr=> ∃i:Nat,iv=yi (i:Int)∧i≤m∧Hid (ps.any (dO n)=(ps.drop i).any (dO n))∧sF wr n ps g cap∧yB w wr) (fun iv _=>m-(intOf iv).toNat)
 case atStart=>exact⟨0,rfl,by omega,rfl,h,Below.refl _ _⟩
 case round=>
  obtain⟨i,rfl,him,HN,hO,bel⟩:=hrel
  by_cases hlt:i<m
  ·have hil:i<ps.length:=by have:=HM.out;omega
   obtain⟨p,hp⟩: ∃p,ps[i]? =some p:=⟨_,List.getElem?_eq_getElem hil⟩;have hd:ps.drop i=p::ps.drop (i+1):=by
    rw[List.drop_eq_getElem_cons hil]
    congr 1
    rw[List.getElem?_eq_getElem hil] at hp;exact Option.some.inj hp
   have HN2:Hid (ps.any (dO n)=(dO n p||(ps.drop (i+1)).any (dO n))):=by
    have:=HN.out;rw[hd,List.any_cons] at this;exact this
   obtain⟨so,sc,hr,-⟩:=hO.each i p hp;unfold opC at hr;obtain⟨c,ec⟩: ∃c:Nat,bM n p=c:=⟨_,rfl⟩;obtain⟨b1,e1⟩: ∃c,dz n p=c:=⟨_,rfl⟩;obtain⟨t,et⟩: ∃c,opT n p=c:=⟨_,rfl⟩;have HC:Hid (dO n p=decide (c=4∨c=5)):=by unfold dO;rw[ec];rfl
   rw[ec,e1,et] at hr;have y0:wr.cell? ⟨g,i*5,none⟩=some (yi (c:Int)):=hr 0 _ rfl;have y1:wr.cell? ⟨g,i*5+1,none⟩=some (.bool b1):=hr 1 _ rfl;have y2:wr.cell? ⟨g,i*5+2,none⟩=some (.bool t.s):=hr 2 _ rfl;have y3:wr.cell? ⟨g,i*5+3,none⟩=some (yT so t.n sc):=hr 3 _ rfl;have y4:wr.cell? ⟨g,i*5+4,none⟩=some (yi t.e):=hr 4 _ rfl;have al:=af wr (.cells (yOA (c:Int) b1 t so sc) 76);have ln:=ah wr (yOL (c:Int) b1 t so sc) 76;have hO1:=hO.l al;have bel1:=aa bel al;clear hp hil hd HN hr ec e1 et hO bel al
   go_upto_region 4 with fail
   generalize wr.alloc (.cells (yOA (c:Int) b1 t so sc) 76)=W at ln hO1 bel1⊢;obtain⟨z0,z1,z2,z3,z4⟩:=ln.cs5;clear ln y0 y1 y2 y3 y4
   by_cases h4:c=4
   ·subst h4
    go_wp2
    go_ret
    refine⟨?_,bel1⟩;rw[HN2.out,HC.out];rfl
   ·by_cases h5:c=5
    ·subst h5
     go_wp2
     go_ret
     refine⟨?_,bel1⟩;rw[HN2.out,HC.out];rfl
    ·have c4:((c:Int)==4)=false:=beq_eq_false_iff_ne.2 (by omega)
     have c5:((c:Int)==5)=false:=beq_eq_false_iff_ne.2 (by omega);have HN3:Hid (ps.any (dO n)=(ps.drop (i+1)).any (dO n)):=by
      have h1:=HN2.out;rw[HC.out,decide_eq_false (by omega),Bool.false_or] at h1;exact h1
     clear h4 h5 HN2 HC
     go_wp2
     go_roundw
     case rel=>exact⟨i+1,by go_num,by omega,HN3,hO1,bel1⟩
     case measure=>simp[intOf];omega
  ·have HE:Hid (i=m):=(by omega:i=m)
   go_wp2
   go_ret
   refine⟨?_,bel⟩;rw[HN.out,List.drop_of_length_le (by have h1:=HE.out;have h2:=HM.out;omega)];rfl
theorem vQ (n wy fam R D L G:Int)(gr:Bool)(ps:List ByteArray)(pb:Nat)(w:World)(hps:au w pb 9 (ps.map Value.string))(hm:ps.length≤3)
  (HR: ∀p w1,yB w w1→yC 97 #[yi n,.string p] w1 (Ys w1 ((bM n p:Nat):Int) (dz n p) (gJ n p) (iF n p) (opT n p) (dF n p))):
  yC 55 #[ykV n wy fam R D L G gr,.slice (some ⟨pb,0,none⟩) ps.length ps.length] w (QH w n ps):=by
 replace HR:Hid _:=HR;obtain⟨i0,hi,hz0,hz1,hz2⟩:=info_parts (show(Tryz.prog.info? 76).map (fun i=>(i.zero,i.size,i.bytes))=some (some (yoV 0 false false yN 0),5,56) by kernel_rfl)
 have HI:Hid (_∧_∧_∧_):=⟨hi,hz0,hz1,hz2⟩;have hpb:=hps.lt;have bd0:=af w (.cells (ykA n wy fam R D L G gr) 69);have d0:=ah w (ykL n wy fam R D L G gr) 69;have s0:=hps.l bd0;obtain⟨m,hmE⟩: ∃m,ps.length=m:=⟨_,rfl⟩;rw[hmE] at hm⊢;have HM:Hid (ps.length=m):=hmE;clear hps hmE hi hz0 hz1 hz2
 go_enter func55,ntmps55
 go_wp2
 go_loopw [6,14] (fun lv iv wr=> ∃i:Nat,iv=yi (i:Int)∧i≤m∧Vc w n ps i lv wr∧yB w wr∧au wr w.heap.size 69 (ykL n wy fam R D L G gr)∧au wr pb 9 (ps.map Value.string)) (fun _ iv _=>m-(intOf iv).toNat)
 case atStart=>exact⟨0,rfl,by omega,⟨[],World.ownsRow_nil _ _ _ 5,rfl,rfl⟩,bd0,d0,s0⟩
 case round=>
  obtain⟨i,rfl,him,hO,bel,dl,sl⟩:=hrel
  by_cases hlt:i<m
  ·have hil:i<ps.length:=by have:=HM.out;omega
   obtain⟨p,hp⟩: ∃p,ps[i]? =some p:=⟨_,List.getElem?_eq_getElem hil⟩;have y:=sl.c i (v:= .string p) (by rw[List.getElem?_map,hp];rfl);have x0:=dl.c 0 rfl;have HRp:=HR.out p;obtain⟨c,ec⟩: ∃c:Int,((bM n p:Nat):Int)=c:=⟨_,rfl⟩;obtain⟨gg,eg⟩: ∃c,dz n p=c:=⟨_,rfl⟩;obtain⟨m1,em⟩: ∃c,gJ n p=c:=⟨_,rfl⟩;obtain⟨p1,ep⟩: ∃c,iF n p=c:=⟨_,rfl⟩;obtain⟨t,et⟩: ∃c,opT n p=c:=⟨_,rfl⟩;obtain⟨er,ee⟩: ∃c,dF n p=c:=⟨_,rfl⟩;rw[ec,eg,em,ep,et,ee] at HRp;have HP:Hid (ps[i]? =some p∧((bM n p:Nat):Int)=c∧dz n p=gg∧opT n p=t∧dF n p=er):=⟨hp,ec,eg,et,ee⟩;replace HRp:Hid _:=HRp;clear hp hil ec eg em ep et ee
   go_wp2_with fail
   refine(HRp.out _ bel).mono ?_;rintro z w1 ⟨v,x,rfl,rv,rx,fx,b1⟩;obtain⟨vo,vc,hv⟩:=rv.shape;subst hv;obtain⟨xo,xc,hx⟩:=rx.shape;subst hx;have a1:=af w1 (.cells (yvA c gg (yT vo m1 vc) p1) 100);have a2:=af (w1.alloc (.cells (yvA c gg (yT vo m1 vc) p1) 100)) (.cells (yDA t xo xc) 72);have bb:=aa (aa b1 a1) a2;have q9:=(ah w1 (yvL c gg (yT vo m1 vc) p1) 100).l a2;have q10:=ah (w1.alloc (.cells (yvA c gg (yT vo m1 vc) p1) 100)) (yDL t xo xc) 72;rw[World.size_alloc] at q10;have rx1:=(rx.l a1).l a2;have hO1:=hO.l bb;have dl1:=dl.l bb;have sl1:=sl.l bb;have bel1:=aa bel bb;have hbl: ∀b,u6.ownBlock=some b→b<wr.heap.size:=fun b hb=>by
    obtain⟨cs,h1,-⟩:=hO;exact(World.ownsRow.lt h1 b hb).2
   have hsz:wr.heap.size≤w1.heap.size:=b1.size;have hws:w.heap.size≤wr.heap.size:=bel.size;clear b1 a1 a2 bb rv rx hO dl sl bel y x0
   go_upto_region 6 with fail
   generalize(w1.alloc (.cells (yvA c gg (yT vo m1 vc) p1) 100)).alloc (.cells (yDA t xo xc) 72)=W at q9 q10 rx1 hO1 dl1 sl1 bel1⊢;generalize w1.heap.size=Q at q9 q10 hsz⊢
   by_cases he:er=0
   ·subst he
    go_wp2_with fail
    have qd:=q9.drew;have xd:=q10.drew;refine wp_region_held_drew (S:=fun wq=>wq.rangeAt Q 0 (yvL c gg (yT vo m1 vc) p1)∧wq.rangeAt (Q+1) 0 (yDL t xo xc)) (by kernel_rfl) ⟨qd.range,xd.range⟩ (fun hS0=> ?_)
    refine tq 0 (u6) rfl (fun w0 _=>by kernel_rfl) hS0 ?_
    refine tq 1 (.pointer (some ⟨Q,0,none⟩)) rfl (fun w0 _=>by kernel_rfl) hS0 ?_
    refine tq 2 (yi c) rfl (fun w0 hw0=>gU 3 (.tmp 30) rfl Q 0 (by kernel_rfl) _ _ underlying3 rfl (hw0.1 0 _ rfl)) hS0 ?_
    refine tq 3 (.pointer (some ⟨Q,1,none⟩)) rfl (fun w0 _=>by kernel_rfl) hS0 ?_
    refine tq 4 (.bool gg) rfl (fun w0 hw0=>gU 4 (.tmp 32) rfl Q 1 (by kernel_rfl) _ _ underlying4 rfl (hw0.1 1 _ rfl)) hS0 ?_
    refine tq 5 ((yDV t xo xc)) rfl (fun w0 hw0=>fy 72 (.tmp 10) rfl (Q+1) 0 (by kernel_rfl) _ _ hw0.2 underlying72 rfl (by kernel_rfl)) hS0 ?_
    refine wpAnyH_ready (rs:=[6]) (by kernel_rfl) (by simp) ?_;refine AllReadyH.cons rfl (fun K hK=> ?_) AllReadyH.nil
    go_simp
    refine(iK _ _ _ _ _ _).mono ?_;rintro z w2 ⟨rfl,b2⟩;have bW:yB W w2:=aa ((Below.refl _ _).drew) b2;have q92:=q9.l bW;have q102:=q10.l bW;have rx2:=rx1.l bW;have hO2:=hO1.l bW;have dl2:=dl1.l bW;have sl2:=sl1.l bW;have bel2:=aa bel1 bW;have hszW:=bW.size;refine hK.out _ _ ⟨q92.range,q102.range⟩ (fun hS6=> ?_)
    clear hK K qd xd b2 bW q9 q10 rx1 hO1 dl1 sl1 bel1;refine tq 7 ((yOV c gg t xo xc)) rfl (fun w0 _=>by kernel_rfl) hS6 ?_
    refine wpAnyH_ready (rs:=[8]) (by kernel_rfl) (by simp) ?_;refine AllReadyH.cons rfl (fun K hK=> ?_) AllReadyH.nil
    go_simp
    have al:=af w2 (.cells (yOA c gg t xo xc) 76);have nl:=ah w2 (yOL c gg t xo xc) 76;have q93:=q92.l al;have q103:=q102.l al;have rx3:=rx2.l al;have hO3:=hO2.l al;have dl3:=dl2.l al;have sl3:=sl2.l al;have bel3:=aa bel2 al;refine hK.out _ _ ⟨q93.range,q103.range⟩ (fun hS8=> ?_)
    clear hK K al q92 q102 rx2 hO2 dl2 sl2 bel2;generalize w2.alloc (.cells (yOA c gg t xo xc) 76)=W3 at nl q93 q103 rx3 hO3 dl3 sl3 bel3 hS8⊢;obtain⟨cs,k1,k2,k3⟩:=hO3;obtain⟨hi,hz0,hz1,hz2⟩:=HI.out;have hw3:w.heap.size+1≤W3.heap.size:=dl3.lt;obtain⟨v',w4,hrun,hown',hgrow,-,hat⟩:=run_append_own_at (P:=Tryz.prog) W3 (w.heap.size+1) 70 70 76 i0 _ 5 56 underlying70 hi hz0 hz1 hz2 rfl (by omega) u6 i cs k1 ⟨w2.heap.size,0,none⟩ 1 1 (yOL c gg t xo xc) rfl (fun j u hj=>by have:=nl.c j hj;rw[Addr.add_mid,Nat.zero_add];exact this) (fun u hu=>by simp at hu;rcases hu with rfl|rfl|rfl|rfl|rfl<;>rfl) (by unfold maxLen;omega) (by omega) hw3
    refine wpAnyH_ready (rs:=[9]) (by kernel_rfl) (by simp) ?_;refine AllReadyH.cons rfl (fun K hK=> ?_) AllReadyH.nil
    refine mg rfl (.tmp 29) (.tmp 37) 70 rfl _ _ v' w4 rfl rfl hrun ?_;have hlp:pb<w.heap.size:=hpb;have hgb: ∀g,u6.ownBlock=some g→w.heap.size<g∧g<wr.heap.size:=fun g hg=>⟨(World.ownsRow.lt k1 g hg).1,hbl g hg⟩
    have q94:=q93.grownO hgrow (fun g hg=>by have:=hgb g hg;omega)
    have q104:=q103.grownO hgrow (fun g hg=>by have:=hgb g hg;omega)
    have dl4:=dl3.grownO hgrow (fun g hg=>by have:=hgb g hg;omega)
    have sl4:=sl3.grownO hgrow (fun g hg=>by have:=hgb g hg;omega)
    have bel4:=bel3.grown hgrow (by omega) (fun g hg=>by have:=hgb g hg;omega)
    have hOps:Vc w n ps (i+1) v' w4:=by
     obtain⟨h1,h2,h3,h4,h5⟩:=HP.out;refine Y4 (x:=yT xo t.n xc) h1 h5 k2 k3 ⟨⟨xo,xc,by rw[h4]⟩,by rw[h4];exact rx3,fun b hb=> ?_⟩ ?_ hgrow hat
     ·intro _ a u v hv
      have:=fx a u v hv;have:=hgb b hb;omega
     ·unfold opC
      rw[h2,h3,h4];exact hown'
    refine hK.out _ _ ⟨q94.range,q104.range⟩ (fun hS9=> ?_)
    clear hK K q94 q104 q93 q103 dl3 sl3 bel3 hgrow hown' hat hrun rx3 nl fx k1 k2 k3 HP HRp HI;refine tq 10 (v') rfl (fun w0 _=>by go_simp) hS9 ?_
    simp only[Act.put,List.getElem_toArray,List.getElem_cons_succ,List.getElem_cons_zero,List.setIfInBounds_toArray,List.set_cons_zero,List.set_cons_succ];refine wpAnyH_done (by kernel_rfl) ?_ _
    go_wp2
    go_roundw
    case rel=>exact⟨i+1,by go_num,by omega,hOps,bel4,dl4,sl4⟩
    case measure=>simp[intOf];omega
   ·have hef:(er==0)=false:=by simpa using he
    go_wp2
    go_ret2
    obtain⟨h1,-,-,-,h5⟩:=HP.out;obtain⟨cs,-,-,k3⟩:=hO1;have hil:i<ps.length:=by have:=HM.out;omega
    have hd:ps.drop i=p::ps.drop (i+1):=by
     rw[List.drop_eq_getElem_cons hil]
     congr 1
     rw[List.getElem?_eq_getElem hil] at h1;exact Option.some.inj h1
    have hE:fT n ps=er:=by
     rw[k3,hd,←h5];exact if_neg (by rw[h5];exact he)
    refine .inr ⟨by rw[hE];exact he, ?_,bel1⟩;rw[hE];rfl
  ·have HE:Hid (i=m):=(by omega:i=m)
   go_wp2
   go_ret2
   obtain⟨cs,k1,k2,k3⟩:=hO;have h1:=HE.out;have h2:=HM.out;subst h1;rw[List.take_of_length_le (by omega)] at k2;rw[List.drop_of_length_le (by omega)] at k3;refine .inl ⟨k3,u6,cs,rfl, ?_,k2,bel⟩;rw[h2];exact Hv k1 (by omega)
theorem iz (c:Int)(g s:Bool)(ao:Option Addr)(la ca:Nat)(e:Int)(w:World):yC 60 #[yoV c g s (.slice ao la ca) e] w (yR w (.bool (c==3))):=by
 have b0:=af w (.cells (yoA c g s (.slice ao la ca) e) 76)
 go_enter func60,ntmps60
 go_wp2
 go_ret
 exact⟨rfl,b0⟩
end Go.Proofs.YtbdokgamhinajaaGreatDoor
