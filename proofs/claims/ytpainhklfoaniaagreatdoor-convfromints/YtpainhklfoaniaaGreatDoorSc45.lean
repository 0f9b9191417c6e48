/-
  Texts laid together: Eb2, Eb3, Eb4, Nx2, Ar2, Ar4, As2, As8, Rk1, Rk2, Pa1.
-/
import Derived.Maps.AppendAt
import Derived.Test.YtpainhklfoaniaaGreatDoorSc44
import Derived.Test.YtpainhklfoaniaaGreatDoorSc25
namespace Go.Proofs.YtpainhklfoaniaaGreatDoor
open Go.RowKit
theorem NQ {s:Bool}{a:ak}(h:a.n≠0)(hs:a.s=s):(⟨s,(bare a).n,(bare a).e⟩:ak)=bare a:=by
 unfold bare;rw[if_neg h,←hs]
theorem rT {k:Nat}(hk:1≤k∧k≤8){ng:Bool}{E F:Nat}(hE:E<2^exN k)(hF:F<2^frN k)(hF64:F<2^64)(hc:dh k ng E F=2)(h0:iI k E F≠0):
  bare ⟨ng,ge k ng E F,(ai (rdN k):Int)*gw k ng E F⟩=bare ⟨ng,iI k E F,(ai (rdN k):Int)*ii k E⟩:=by
 have hT:=iq hk hE hF hc;rw[zr] at hT
 by_cases hr:rdN k=2
 ·obtain⟨v1,v2⟩:=Va hk hE hF hF64 hc hr
  have hw:ai (rdN k)=1:=by rw[hr];rfl
  rw[v1,v2,hT,hw,show((1:Nat):Int)*(bare ⟨ng,iI k E F,((1:Nat):Int)*ii k E⟩).e=(bare ⟨ng,iI k E F,((1:Nat):Int)*ii k E⟩).e from by omega,NQ (a:=⟨ng,iI k E F,((1:Nat):Int)*ii k E⟩) h0 rfl,iH]
 ·have hr16:rdN k=16:=by rcases bO hk with rfl|rfl|rfl|rfl|rfl|rfl|rfl|rfl<;>revert hr<;>decide
  obtain⟨v1,v2,v3⟩:=I5 hk hE hF hF64 hc hr16;have hw:ai (rdN k)=4:=by rw[hr16];rfl
  rw[hw] at hT⊢;rw[v3,hT];rw[hT] at v1;have hp:=(nV ng (bare ⟨ng,iI k E F,((4:Nat):Int)*ii k E⟩).n (bare ⟨ng,iI k E F,((4:Nat):Int)*ii k E⟩).e (((4:Nat):Int)*gw k ng E F) (by omega)).2;rw[Jv] at hp;rw[show 4*gw k ng E F=((4:Nat):Int)*gw k ng E F from rfl,hp,NQ (a:=⟨ng,iI k E F,((4:Nat):Int)*ii k E⟩) h0 rfl,iH]
theorem mZ {k:Nat}(hk:1≤k∧k≤8){f:Nat}(h:f<2^frN k):f<2^64:=
 Nat.lt_of_lt_of_le h (Nat.pow_le_pow_right (by omega) (fZ hk).2.2.2.1)
theorem Q9 {k:Nat}(hk:1≤k∧k≤8){ng:Bool}{xs:List Nat}{p:Int}(sa:Dg.Small 4294967296 xs)(hx:chk xs=0)(hE:enE k ng xs p=0):
  (enS k ng xs p).size=szN k∧aZ k (enS k ng xs p)=ng∧aR k (enS k ng xs p)<2^exN k∧aU k (enS k ng xs p)<2^frN k∧dh k ng (aR k (enS k ng xs p)) (aU k (enS k ng xs p))=2∧iI k (aR k (enS k ng xs p)) (aU k (enS k ng xs p))≠0∧
   bare ⟨ng,iI k (aR k (enS k ng xs p)) (aU k (enS k ng xs p)),(ai (rdN k):Int)*ii k (aR k (enS k ng xs p))⟩=bare ⟨ng,Dg.vl 4294967296 xs,(ai (rdN k):Int)*p⟩:=by
 obtain⟨f1,f2,f3,f4,f5,f6,f7,f8,f9,f10,f11,hgc⟩:=eR hk;have hp: ¬(p< -20000∨20000<p):=fun h=>by
  unfold enE at hE;rw[if_pos h] at hE;omega
 have hl:xs.length≠0:=fun h=>by
  unfold enE at hE;rw[if_neg hp,if_pos h] at hE;omega
 have hvn:=JN hx hl;have hnum:=mY hk (ng:=ng) hx hl hp;have hin:inR (rdN k) (dgN k) (lsI k) (gsI k) (decide (k≤3)) (bare ⟨ng,Dg.vl 4294967296 xs,(ai (rdN k):Int)*p⟩).n (bare ⟨ng,Dg.vl 4294967296 xs,(ai (rdN k):Int)*p⟩).e=true:=by
  refine Decidable.byContradiction fun c=> ?_
  rw[hE,if_neg c] at hnum;omega
 have hbn:(bare ⟨ng,Dg.vl 4294967296 xs,(ai (rdN k):Int)*p⟩).n≠0:=fun hv=>hvn ((fI _).1 hv)
 have hbs:(bare ⟨ng,Dg.vl 4294967296 xs,(ai (rdN k):Int)*p⟩).s=ng:=qr hvn;have hbb:=iH ⟨ng,Dg.vl 4294967296 xs,(ai (rdN k):Int)*p⟩;have hheld:dA (rdN k) (dgN k) (lsI k) (gsI k) (decide (k≤3)) (bare ⟨ng,Dg.vl 4294967296 xs,(ai (rdN k):Int)*p⟩).n (bare ⟨ng,Dg.vl 4294967296 xs,(ai (rdN k):Int)*p⟩).e=true:=by
  rw[nN _ _ f7,←jK _ _ f7];exact hin
 have hS:enS k ng xs p=cF (kU k (plT k (bare ⟨ng,Dg.vl 4294967296 xs,(ai (rdN k):Int)*p⟩).s (bare ⟨ng,Dg.vl 4294967296 xs,(ai (rdN k):Int)*p⟩).n (bare ⟨ng,Dg.vl 4294967296 xs,(ai (rdN k):Int)*p⟩).e).s (heE (rdN k) (lsI k) (gW k) (plT k (bare ⟨ng,Dg.vl 4294967296 xs,(ai (rdN k):Int)*p⟩).s (bare ⟨ng,Dg.vl 4294967296 xs,(ai (rdN k):Int)*p⟩).n (bare ⟨ng,Dg.vl 4294967296 xs,(ai (rdN k):Int)*p⟩).e)) (plT k (bare ⟨ng,Dg.vl 4294967296 xs,(ai (rdN k):Int)*p⟩).s (bare ⟨ng,Dg.vl 4294967296 xs,(ai (rdN k):Int)*p⟩).n (bare ⟨ng,Dg.vl 4294967296 xs,(ai (rdN k):Int)*p⟩).e).d):=by
  unfold enS;rw[if_pos hE,(AW (k:=k) (ng:=ng) hx hl hp sa hE).1]
 rw[hbs] at hS;generalize bare ⟨ng,Dg.vl 4294967296 xs,(ai (rdN k):Int)*p⟩=T at*;obtain⟨p1,p2,p3,p4⟩:=oj (s:=ng) (way:=3) (by omega:(1:Int)≤(dgN k:Int)) f7 hbn hheld;obtain⟨ho,hu,hbr⟩:=mC (s:=ng) (way:=3) (by omega:(1:Int)≤(dgN k:Int)) f7 hbn hheld;have hsp:=(nW (by omega) f7 hbn (by omega) ho hu).resolve_left (fun c=>p4 (by rw[←p2];exact c.1))
 have hpl:cI (rdN k) (dgN k) (lsI k) (gsI k) (decide (k≤3)) ng T.n 1 T.e 3=plT k ng T.n T.e:=rfl;rw[hpl] at p1 hbr hsp;generalize plT k ng T.n T.e=pt at*;obtain⟨q0,q1,q2,q3,q4⟩:=hsp;have hdg:((dgN k:Int)-1).toNat=dgN k-1:=by omega
 rw[Int.toNat_natCast] at q3;rw[hdg] at q4;obtain⟨r1,r2,r3,r4⟩:=CQ hk ng pt q1 q2 q0 q3 (q4.imp_right (fun h=>⟨by simpa using h.1,h.2⟩))
 obtain⟨w1,w2,w3,w4⟩:=mS hk pt.s (heE (rdN k) (lsI k) (gW k) pt) pt.d;rw[Nat.mod_eq_of_lt r1] at w2;rw[hS,w1,w2,w3,w4];refine⟨rfl,p1,r1,Nat.mod_lt _ (Nat.pow_pos (by omega)),r2,by rw[r3];exact q0, ?_⟩;rw[r3,r4];rw[p1] at hbr;rw[hbr];have:(⟨ng,T.n,T.e⟩:ak)=T:=by
  cases T
  simp only at hbs⊢;rw[hbs]
 rw[this,hbb]
theorem Ry {k m:Nat}(hk:1≤k∧k≤8)(hm:m=1∨m=3∨m=4∨m=5)(g:Bool)(hs:iR k m=true)(hg:g=true→Bk k m=true):
  pg k m<2^exN k∧lS k m<2^frN k∧dh k (pI k m||g) (pg k m) (lS k m)=m∧kt k (pI k m||g) (pg k m) (lS k m)=g:=by
 revert hs hg
 rcases bO hk with rfl|rfl|rfl|rfl|rfl|rfl|rfl|rfl<;>rcases hm with rfl|rfl|rfl|rfl<;>cases g<;>decide
theorem nj {k:Nat}(hk:1≤k∧k≤8){s:ByteArray}(h:s.size=szN k):dF k s=0:=by
 have hf:dK k≠0:=by
  rcases bO hk with rfl|rfl|rfl|rfl|rfl|rfl|rfl|rfl<;>decide
 unfold dF;rw[if_neg hf,Int.toNat_natCast,if_pos h]
theorem oJ {k:Nat}(hk:1≤k∧k≤8){c:Int}{ng:Bool}{xs:List Nat}{p:Int}(sa:Dg.Small 4294967296 xs)(h:gI k c ng xs p=0):
  (fq k c ng xs p).size=szN k∧((dh k (aZ k (fq k c ng xs p)) (aR k (fq k c ng xs p)) (aU k (fq k c ng xs p)):Nat):Int)=c∧kt k (aZ k (fq k c ng xs p)) (aR k (fq k c ng xs p)) (aU k (fq k c ng xs p))=ng∧
   aR k (fq k c ng xs p)<2^exN k∧aU k (fq k c ng xs p)<2^frN k∧
   (c=2→chk xs=0∧aZ k (fq k c ng xs p)=ng∧iI k (aR k (fq k c ng xs p)) (aU k (fq k c ng xs p))≠0∧bare ⟨ng,iI k (aR k (fq k c ng xs p)) (aU k (fq k c ng xs p)),(ai (rdN k):Int)*ii k (aR k (fq k c ng xs p))⟩=bare ⟨ng,Dg.vl 4294967296 xs,(ai (rdN k):Int)*p⟩)∧
   (c≠2→xs.length=0∧p=0):=by
 by_cases hf:dK k=0∨c<1∨5<c
 ·unfold gI at h
  rw[if_pos hf] at h;omega
 ·by_cases hx:chk xs=0
  ·unfold gI at h
   rw[if_neg hf,if_neg (fun q=>q hx)] at h
   unfold fq;rw[if_neg hf,if_neg (fun q=>q hx)]
   rw[Int.toNat_natCast] at h⊢
   by_cases hc:c=2
   ·rw[if_pos hc] at h⊢
    obtain⟨e1,e2,e3,e4,e5,e6,e7⟩:=Q9 hk sa hx h;rw[e2];refine⟨e1,by rw[e5,hc];rfl,by unfold kt;rw[if_pos (by omega)],e3,e4,fun _=>⟨hx,rfl,e6,e7⟩,fun q=>absurd hc q⟩
   ·rw[if_neg hc] at h⊢
    obtain⟨m,hm⟩: ∃m:Nat,c=(m:Int):=⟨c.toNat,by omega⟩;subst hm;rw[Int.toNat_natCast] at h⊢;have h4:m=1∨m=3∨m=4∨m=5:=by omega
    have hs:iR k m=true:=by
     refine Decidable.byContradiction fun q=> ?_
     unfold qX at h;rw[if_pos (by simpa using q)] at h;omega
    have hbad: ¬(0<xs.length∨p≠0∨ng=true∧Bk k m=false):=fun q=>by
     unfold qX at h;rw[if_neg (by rw[hs];simp),if_pos q] at h;omega
    have hg:ng=true→Bk k m=true:=fun q=>by
     refine Decidable.byContradiction fun r=>hbad (.inr (.inr ⟨q,by simpa using r⟩))
    obtain⟨o1,o2,o3,o4⟩:=Ry hk h4 ng hs hg;obtain⟨w1,w2,w3,w4⟩:=mS hk (pI k m||ng) (pg k m) (lS k m)
    rw[Nat.mod_eq_of_lt o1] at w2;rw[Nat.mod_eq_of_lt o2] at w3;have hS:Fv k m xs.length ng p=cF (kU k (pI k m||ng) (pg k m) (lS k m)):=by
     unfold Fv;rw[if_pos h]
    rw[hS,w1,w2,w3,w4,o3,o4];refine⟨rfl,rfl,rfl,o1,o2,fun q=>absurd q hc,fun _=>⟨?_, ?_⟩⟩
    ·rcases Nat.eq_zero_or_pos xs.length with q|q
     ·exact q
     ·exact absurd (.inl q) hbad
    ·exact Decidable.byContradiction fun q=>hbad (.inr (.inl q))
  ·unfold gI at h
   rw[if_neg hf,if_pos hx] at h;exact absurd h hx
theorem GI (r:Nat): ∀(n d:Nat) (p:Int),(lJ r n d p).1≤d
 |0,d,p=>Nat.le_refl _
 |n+1,d,p=>by
  unfold lJ
  split
  ·exact Nat.le_trans (GI r n _ _) (Nat.div_le_self _ _)
  ·exact Nat.le_refl _
theorem xH {k:Nat}(hk:1≤k∧k≤8){ng:Bool}{ys:List Nat}{q:Int}(hy:chk ys=0):gI k 2 ng ys q=enE k ng ys q∧fq k 2 ng ys q=enS k ng ys q:=by
 have hf: ¬(dK k=0∨(2:Int)<1∨(5:Int)<2):=by
  rcases bO hk with rfl|rfl|rfl|rfl|rfl|rfl|rfl|rfl<;>decide
 unfold gI fq;rw[if_neg hf,if_neg (fun c=>c hy),if_pos rfl,if_neg hf,if_neg (fun c=>c hy),if_pos rfl,Int.toNat_natCast]
 exact⟨rfl,rfl⟩
theorem Cu (k:Nat)(s:ByteArray):aR k s<2^exN k∧aU k s<2^frN k:=⟨gh _ _ _,gh _ _ _⟩
theorem uR (s:Bool)(e:Int):bU ⟨s,0,e⟩=(⟨false,0,0⟩,0):=by
 have hb:bare ⟨s,0,e⟩=⟨false,0,0⟩:=by simp[bare]
 unfold bU;rw[hb];simp only;rw[show Dg.dg 4294967296 0=[] from(Dg.dg_nil_iff _ _ (by omega)).2 rfl]
 rfl
def nxT (k:Nat)(s:ByteArray):ak:=ji k (aZ k s) (aR k s) (aU k s)
theorem wQ {k:Nat}(hk:1≤k∧k≤8):wdI (rdN k)=(ai (rdN k):Int):=by
 rcases bO hk with rfl|rfl|rfl|rfl|rfl|rfl|rfl|rfl<;>decide
theorem zd {k:Nat}(hk:1≤k∧k≤8){ng:Bool}{E F:Nat}(hc:dh k ng E F=1):ji k ng E F=⟨false,0,0⟩:=by
 have key: ∀(s:Bool) (e:Int),bare ⟨s,0,e⟩=⟨false,0,0⟩:=fun s e=>by simp[bare]
 have h2:2≤2^exN k:=by
  rcases bO hk with rfl|rfl|rfl|rfl|rfl|rfl|rfl|rfl<;>decide
 unfold dh at hc;unfold ji
 by_cases h3:k≤3
 ·rw[if_pos h3] at hc
  by_cases he:E=0
  ·rw[if_pos he] at hc
   by_cases hf:F=0
   ·subst he hf
    by_cases h4:k=3
    ·rw[if_pos h4,if_neg (by rintro(h|h)<;>omega)]
     exact key _ _
    ·rw[if_neg h4,if_pos (by omega),if_neg (by omega),if_neg (by omega)]
     exact key _ _
   ·rw[if_neg hf] at hc
    omega
  ·rw[if_neg he] at hc
   exfalso
   repeat' split at hc
   all_goals omega
 ·rw[if_neg h3] at hc
  rw[if_neg (show¬k=3 by omega),if_neg (show¬k≤2 by omega)]
  by_cases h5:k≤5
  ·rw[if_pos h5] at hc⊢
   by_cases hf:F=0
   ·subst hf
    exact key _ _
   ·rw[if_neg hf] at hc
    omega
  ·rw[if_neg h5] at hc⊢
   by_cases he:E=0
   ·rw[if_pos he]
   ·rw[if_neg he] at hc
    omega
theorem TS {k:Nat}(hk:1≤k∧k≤8){E:Nat}(hE:E<2^exN k): -16445≤(ai (rdN k):Int)*ii k E∧(ai (rdN k):Int)*ii k E≤16400∧ -16445≤ii k E∧ii k E≤16400:=by
 have hf:(rdN k=16∧ai (rdN k)=4∧ -78≤lsI k∧lsI k≤0∧2^exN k=128)∨(rdN k≠16∧ai (rdN k)=1∧ -16445≤lsI k∧lsI k+((2^exN k:Nat):Int)≤16400):=by
  rcases bO hk with rfl|rfl|rfl|rfl|rfl|rfl|rfl|rfl<;>decide
 unfold ii
 rcases hf with⟨h1,h2,h3,h4,h5⟩| ⟨h1,h2,h3,h4⟩
 ·rw[if_pos h1,h2]
  omega
 ·rw[if_neg h1,h2]
  split<;>omega
theorem J8 {k:Nat}(hk:1≤k∧k≤8)(ng:Bool)(E:Nat){F:Nat}(hF:F<2^64):ge k ng E F<2^64:=by
 unfold ge
 split
 ·exact Nat.lt_of_le_of_lt (GI _ _ _ _) (vS hk E hF)
 ·decide
theorem J9 {k:Nat}(hk:1≤k∧k≤8){ng:Bool}{E F:Nat}(hE:E<2^exN k)(hF:F<2^frN k)(hc:dh k ng E F=2):
  -16445≤(ji k ng E F).e∧(ji k ng E F).e≤16464∧ -16460≤gw k ng E F∧gw k ng E F≤16464:=by
 have h64:=mZ hk hF;obtain⟨p1,p2,-,-⟩:=TS hk hE;have hT:=iq hk hE hF hc;rw[wQ hk] at hT;have hp:=jX hc;have hl:=vS hk E h64;have hb:=AE (t:=⟨ng,iI k E F,(ai (rdN k):Int)*ii k E⟩) (Nat.ne_of_gt hp);have hbl:bitLen (iI k E F)≤64:=bF _ _ hl;rw[←hT] at hb;simp only at hb;obtain⟨-,b1,b2⟩:=hb;refine⟨by omega,by omega, ?_⟩;have hr:rdN k=2∨rdN k=16:=by
  rcases bO hk with rfl|rfl|rfl|rfl|rfl|rfl|rfl|rfl<;>decide
 rcases hr with hr|hr
 ·have:=(Va hk hE hF h64 hc hr).2
  omega
 ·have:=I5 hk hE hF h64 hc hr
  omega
theorem EX {k:Nat}(hk:1≤k∧k≤8)(s:ByteArray)(hc:dh k (aZ k s) (aR k s) (aU k s)=1∨dh k (aZ k s) (aR k s) (aU k s)=2):
  cC (ix (Dg.dg 4294967296 (ge k (aZ k s) (aR k s) (aU k s))) (gw k (aZ k s) (aR k s) (aU k s)) (rdN k) (dgN k) (lsI k) (gsI k)) ⟨kt k (aZ k s) (aR k s) (aU k s),Dg.vl 4294967296 (Dg.dg 4294967296 (ge k (aZ k s) (aR k s) (aU k s))),(ai (rdN k):Int)*gw k (aZ k s) (aR k s) (aU k s)⟩=(nxT k s,0):=by
 obtain⟨s1,s2⟩:=Cu k s;have h64:=mZ hk s2;have hgr:=(eR hk).2.2.2.2.2.2.2.2.2.2.2;unfold nxT;generalize aZ k s=ng at*;generalize aR k s=E at*;generalize aU k s=F at*;rw[Dg.vl_dg _ _ (by omega)];have hm:(Dg.dg 4294967296 (ge k ng E F)).length≤2:=Dg.dg_len_le 4294967296 _ 2 (by omega) (Nat.lt_of_lt_of_le (J8 hk ng E h64) (by decide));have hck:chk (Dg.dg 4294967296 (ge k ng E F))=0:=(bL (nt (n:=ge k ng E F) (e:=0) (by omega) (by omega) (by omega))).1
 rcases hc with hc|hc
 ·have hM:ge k ng E F=0:=if_neg (by omega)
  have hP:gw k ng E F=0:=if_neg (by omega);rw[hP,kA hck hgr (by decide),hM,zd hk hc];exact uR _ _
 ·obtain⟨v1,v2,v3,v4⟩:=J9 hk s1 s2 hc
  rw[kA hck hgr (by unfold eJ;simp;omega)];have hb:=rT hk s1 s2 h64 hc (Nat.ne_of_gt (jX hc));have hT:=iq hk s1 s2 hc;rw[wQ hk] at hT;have hG:kt k ng E F=ng:=by
   unfold kt;rw[if_pos (by omega)]
  rw[hG]
  show bU _=_
  rw[hT,←hb];rw[hT,←hb] at v1 v2;exact wK (Nat.le_trans (aH _ _ _ (by omega) (kR _)) (by simp only;omega)) (by omega) (by omega)
def opT (n:Int)(p:ByteArray):ak:=if dF n p=0 then nxT n.toNat p else⟨false,0,0⟩
def opC (n:Int)(p:ByteArray)(v:Value):List Value:=[.int .i64 ((bM n p:Nat):Int),.bool (dz n p),.bool (opT n p).s,v,.int .i64 (opT n p).e]
def F7 (w:World)(n:Int)(g:Option Nat)(p:ByteArray)(v:Value):Prop:=
 (∃so sc,v= .slice so (Dg.dg 4294967296 (opT n p).n).length sc)∧Rd w .u32 v (Dg.dg 4294967296 (opT n p).n)∧ ∀b,g=some b→wF b v (Dg.dg 4294967296 (opT n p).n)
def sV (w:World)(n:Int)(g:Option Nat):List ByteArray→List Value→Prop
 | [],cs=>cs=[]
 |p::ps,cs=> ∃v rest,cs=opC n p v++rest∧F7 w n g p v∧sV w n g ps rest
theorem sV.mono {w w':World}{n:Int}{g g':Option Nat}(h: ∀p v,F7 w n g p v→F7 w' n g' p v): ∀{ps:List ByteArray} {cs:List Value},sV w n g ps cs→sV w' n g' ps cs
 | [],_,hc=>hc
 |p::_,_,hc=>by
  obtain⟨v,rest,h1,h2,h3⟩:=hc;exact⟨v,rest,h1,h p v h2,sV.mono h h3⟩
theorem sV.snoc {w:World}{n:Int}{g:Option Nat}{p:ByteArray}{v:Value}(hv:F7 w n g p v): ∀{ps:List ByteArray} {cs:List Value},sV w n g ps cs→sV w n g (ps++[p]) (cs++opC n p v)
 | [],cs,hc=>by
  have:cs=[]:=hc;subst this;exact⟨v,[],by simp,hv,rfl⟩
 |q::_,_,hc=>by
  obtain⟨u,rest,h1,h2,h3⟩:=hc;subst h1;exact⟨u,rest++opC n p v,by simp,h2,sV.snoc hv h3⟩
def fT (n:Int):List ByteArray→Int
 | []=>0
 |p::ps=>if dF n p=0 then fT n ps else dF n p
theorem zZ {w w':World}{base e size k:Nat}{v:Value}{xs:List Value}(h:w.ownsRow base e size v k xs)(hb:yB w w'):w'.ownsRow base e size v k xs:=by
 obtain⟨hl,h2⟩:=h;refine⟨hl, ?_⟩
 rcases h2 with h2| ⟨g,cap,cur,hv,hbg,hh,r⟩
 ·exact .inl h2
 ·refine .inr ⟨g,cap,cur,hv,hbg, ?_,r⟩
  rw[hb.block g ?_]
  ·exact hh
  ·rw[Array.getElem?_eq_some_iff] at hh
   exact hh.1
theorem F7.l {w w':World}{n:Int}{g:Option Nat}{p:ByteArray}{v:Value}(h:F7 w n g p v)(hb:yB w w'):F7 w' n g p v:=⟨h.1,h.2.1.l hb,h.2.2⟩
theorem Nx {w w':World}{g:Nat}{k:IntKind}{v:Value}{zs:List Nat}(r:Rd w k v zs)(hg:w.grownBy w' (some g))(ho:wF g v zs):Rd w' k v zs:=by
 obtain⟨ao,cap,rfl,h1,h2,h3⟩:=r;refine⟨ao,cap,rfl,h1,h2,fun hp=> ?_⟩
 obtain⟨b,off,rfl,h4⟩:=h3 hp;refine⟨b,off,rfl,fun i hi=> ?_⟩
 have h5:=h4 i hi;have hlt:b<w.heap.size:=World.block_lt_of_cell? w _ h5;have hne:b≠g:=ho hp _ _ _ rfl;rw[←h5];unfold World.cell?;simp only;rw[hg.block b hlt (fun e=>hne (Option.some.inj e))]
theorem au.grownO {w w':World}{b:Nat}{ty:TypeId}{vs:List Value}{row:Option Nat}(h:au w b ty vs)(hg:w.grownBy w' row)(hne: ∀g,row=some g→b≠g):au w' b ty vs:=
 (hg.block b h.lt (fun e=>hne b e.symm rfl)).trans h
structure sF (w:World) (n:Int) (ps:List ByteArray) (g cap:Nat):Prop where
 fit:ps.length≤cap
 most:cap≤maxLen
 each: ∀(i:Nat) p,ps[i]? =some p→ ∃so sc,w.rangeAt g (i*5) (opC n p (.slice so (Dg.dg 4294967296 (opT n p).n).length sc))∧Rd w .u32 (.slice so (Dg.dg 4294967296 (opT n p).n).length sc) (Dg.dg 4294967296 (opT n p).n)
theorem aC {w w':World}{g o:Nat}{cs:List Value}(h:w.rangeAt g o cs)(hb:yB w w'):w'.rangeAt g o cs:=fun j v hv=>by
 have:=h j v hv;rw[←this];exact World.cell?_of_block (hb.block g (World.block_lt_of_cell? w _ this))
theorem sF.l {w w':World}{n:Int}{ps:List ByteArray}{g cap:Nat}(h:sF w n ps g cap)(hb:yB w w'):sF w' n ps g cap:=
 ⟨h.fit,h.most,fun i p hp=>by
  obtain⟨so,sc,h1,h2⟩:=h.each i p hp;exact⟨so,sc,aC h1 hb,h2.l hb⟩⟩
def vI (t:ak):Int:=if t.n=0 then 1 else 2
def xr (t:ak)(ng:Bool):Bool:=if t.n=0 then ng else t.s
def tF (t:ak):ak:=if t.n=0 then⟨false,0,0⟩ else t
theorem sF.off {w w':World}{n:Int}{ps:List ByteArray}{g cap b:Nat}{ty:TypeId}{vs:List Value}(h:sF w n ps g cap)(bu:But b w w')(hl:au w b ty vs)(hu: ∀x∈vs,∀k:Int,x≠ .int .u32 k)(hg:g≠b):sF w' n ps g cap:=
 ⟨h.fit,h.most,fun i p hp=>by
  obtain⟨so,sc,h1,h2⟩:=h.each i p hp;exact⟨so,sc,fun j v hj=>by rw[bu.c (by exact hg)];exact h1 j v hj,bu.rd h2 (aX h2 hl hu)⟩⟩
def ut (J:Int)(N1 M1:Nat)(E1:Int)(N2 M2:Nat)(E2:Int):Prop:=
 ∀j,J≤j→eZ N1 (E1-j)/dX M1 (E1-j)=eZ N2 (E2-j)/dX M2 (E2-j)∧(eZ N1 (E1-j) % dX M1 (E1-j)=0↔eZ N2 (E2-j) % dX M2 (E2-j)=0)
theorem ut.trans {J K:Int}{N1 M1 N2 M2 N3 M3:Nat}{E1 E2 E3:Int}(h:ut J N1 M1 E1 N2 M2 E2)(g:ut K N2 M2 E2 N3 M3 E3):ut (max J K) N1 M1 E1 N3 M3 E3:=fun j hj=>by
 obtain⟨a1,a2⟩:=h j (by omega);obtain⟨b1,b2⟩:=g j (by omega);exact⟨a1.trans b1,a2.trans b2⟩
theorem ut.symm {J:Int}{N1 M1 N2 M2:Nat}{E1 E2:Int}(h:ut J N1 M1 E1 N2 M2 E2):ut J N2 M2 E2 N1 M1 E1:=fun j hj=>⟨(h j hj).1.symm,(h j hj).2.symm⟩
theorem ut.mono {J K:Int}{N1 M1 N2 M2:Nat}{E1 E2:Int}(h:ut J N1 M1 E1 N2 M2 E2)(hk:J≤K):ut K N1 M1 E1 N2 M2 E2:=fun j hj=>h j (by omega)
theorem wZ {n k:Nat}(h:bitLen n≤k):n<2^k:=Nat.lt_of_lt_of_le (bitLen_spec n).1 (Nat.pow_le_pow_right (by omega) h)
abbrev dsk (k:Nat)(wy:Int):Value:=(ykV k wy (dK k) (rdN k) (dgN k) (lsI k) (gsI k) (decide (k≤3)))
theorem aa0 {w:World}{q r:Nat}(h:w.cell? ⟨q,0,none⟩=some (.int .u32 r)):Rd w .u32 (.slice (some ⟨q,0,none⟩) 1 1) [r]:=
 ⟨_,1,rfl,Nat.le_refl _,by unfold maxLen;omega,fun _=>⟨q,0,rfl,fun i hi=>by
  obtain rfl:i=0:=by simpa using hi
  exact h⟩⟩
theorem Ba (k:Nat)(hk:1≤k∧k≤8)(wy:Int)(ng:Bool)(w:World):yC 142 #[dsk k wy,.bool ng] w (iT w 2 ng (rdN k^dgN k-1) (gsI k)):=by
 have hr:(rdN k=2∨rdN k=16)∧dgN k≤64:=by rcases bO hk with rfl|rfl|rfl|rfl|rfl|rfl|rfl|rfl<;>decide
 have hd:Dg.dg 4294967296 (rdN k)=[rdN k]:=by rcases hr.1 with h|h<;>rw[h]<;>rfl
 have hp:1≤rdN k^dgN k:=Nat.pow_pos (by omega);have hl:(Dg.dg 4294967296 (rdN k^dgN k)).length≤64:=by
  have h4:rdN k^dgN k<2^ (4*dgN k+1):=by
   have:rdN k^dgN k≤16^dgN k:=Nat.pow_le_pow_left (by omega) _;have e:(16:Nat)^dgN k=2^ (4*dgN k):=by rw[Nat.pow_mul]
   rw[Nat.pow_succ];have:=bG (4*dgN k);omega
  exact jq h4 (by omega)
 have hn:(Dg.dg 4294967296 (rdN k^dgN k)).length≠0:=fun h=>by
  have:=(Dg.dg_nil_iff 4294967296 (rdN k^dgN k) (by omega)).1 (List.length_eq_zero_iff.1 h);omega
 refine QM k wy (dK k) (rdN k) (dgN k) (lsI k) (gsI k) (decide (k≤3)) ng (rdN k) (rdN k^dgN k) w ?_ (fun q w1 _ hq=> ?_) (fun vo vc q w1 hv hq=> ?_)
 ·rcases hr.1 with h|h<;>rw[h]<;>rfl
 ·have h1:=aa0 hq
  rw[←hd] at h1;exact Iq _ (rdN k) (dgN k) 1 w1 h1 (by omega) (by omega) (by omega) (by omega)
 ·have:=zL (.slice vo (Dg.dg 4294967296 (rdN k^dgN k)).length vc) (.slice (some ⟨q,0,none⟩) 1 1) (Dg.dg 4294967296 (rdN k^dgN k)) [1] w1 hv (xD hq) (Dg.small_dg _ _ (by omega)) (Dg.small_cons.2 ⟨by omega,Dg.small_nil _ (by omega)⟩) (by omega) (by simp;omega) (by rw[Dg.vl_dg _ _ (by omega),show Dg.vl 4294967296 [1]=1 from rfl];exact hp)
  rwa [Dg.vl_dg _ _ (by omega),show Dg.vl 4294967296 [1]=1 from rfl] at this
def ovV (k:Nat)(wy:Int)(ng:Bool):Int×Bool×Nat×Int:=
 if dK k=3 then(5,false,0,0) else if dK k=1∧aaV wy ng=true then(3,ng,0,0) else(2,ng,rdN k^dgN k-1,gsI k)
theorem qt {k:Nat}(hk:1≤k∧k≤8):dK k=1∨dK k=2∨dK k=3:=by
 rcases bO hk with rfl|rfl|rfl|rfl|rfl|rfl|rfl|rfl<;>decide
theorem Pw (k:Nat)(hk:1≤k∧k≤8)(wy:Int)(hw:1≤wy∧wy≤5)(ng:Bool)(w:World):yC 104 #[dsk k wy,.bool ng] w (iT w (ovV k wy ng).1 (ovV k wy ng).2.1 (ovV k wy ng).2.2.1 (ovV k wy ng).2.2.2):=by
 unfold ovV;have HG:=fun w1=>Ba k hk wy ng w1
 unfold dsk at HG⊢
 rcases qt hk with h|h|h
 ·rw[h] at HG⊢
  rw[if_neg (by decide)]
  by_cases ho:aaV wy ng=true
  ·rw[if_pos ⟨rfl,ho⟩]
   exact abM _ _ _ _ _ _ _ _ w (fun w1=>by have:=CT k wy 1 (rdN k) (dgN k) (lsI k) (gsI k) (decide (k≤3)) ng hw w1;rw[ho] at this;exact this)
  ·rw[if_neg (fun c=>ho c.2)]
   exact abN _ _ _ _ _ _ _ _ _ w (fun w1=>by have:=CT k wy 1 (rdN k) (dgN k) (lsI k) (gsI k) (decide (k≤3)) ng hw w1;rw[show aaV wy ng=false by simpa using ho] at this;exact this) (fun w1 _=>HG w1)
 ·rw[h] at HG⊢
  rw[if_neg (by decide),if_neg (fun c=>absurd c.1 (by decide))]
  exact ado _ _ _ _ _ _ _ _ _ w (fun w1 _=>HG w1)
 ·rw[h,if_pos rfl]
  exact adn _ _ _ _ _ _ _ _ w (fun w1=>A5 3 (.inr (.inr rfl)) w1)
def pG (k:Nat)(wy:Int)(P:fz):Int×Bool×Nat×Int×Int:=
 if P.ov=true then((ovV k wy P.s).1,(ovV k wy P.s).2.1,(ovV k wy P.s).2.2.1,(ovV k wy P.s).2.2.2,5)
 else if P.un=true∧P.p<lsI k then(1,false,0,0,3)
 else((if P.d=0 then 1 else 2),P.s,P.d,P.p,if P.ex=true then 0 else if P.un=true then 3 else 1)
theorem Px (k:Nat)(hk:1≤k∧k≤8)(wy:Int)(hw:1≤wy∧wy≤5)(P:fz)(ao:Option Addr)(ca:Nat)(w:World)(hr:Rd w .u32 (yT ao P.d ca) (Dg.dg 4294967296 P.d)):
  yC 77 #[dsk k wy,ypV P.s (yT ao P.d ca) P.p P.ex P.ov P.un] w (B6 w (pG k wy P).1 (pG k wy P).2.1 (pG k wy P).2.2.1 (pG k wy P).2.2.2.1 (pG k wy P).2.2.2.2):=by
 obtain⟨ps,pd,pp,ex,ov,un⟩:=P;unfold pG;simp only at hr⊢
 cases ov
 ·rw[if_neg (by decide)]
  by_cases hl:un=true∧pp<lsI k
  ·rw[if_pos hl]
   obtain⟨rfl,hl⟩:=hl;exact OU _ _ _ _ _ _ _ _ _ _ _ _ _ _ w hl
  ·rw[if_neg hl]
   have hz:(if pd=0 then(1:Int) else 2)=if(Dg.dg 4294967296 pd).length=0 then 1 else 2:=by
    by_cases h:pd=0
    ·rw[if_pos h,if_pos (by rw[h];rfl)]
    ·rw[if_neg h,if_neg (fun c=>h ((Dg.dg_nil_iff 4294967296 pd (by omega)).1 (List.length_eq_zero_iff.1 c)))]
   exact Id _ _ _ _ _ _ _ _ _ _ _ _ _ _ _ pd w rfl hr (fun h c=>hl ⟨h,c⟩) _ _ hz rfl
 ·rw[if_pos rfl]
  exact Lr _ _ _ _ _ _ _ _ _ _ _ _ _ _ _ _ _ _ _ w (fun w1 _=>Pw k hk wy hw ps w1)
def Dw (k:Nat)(c:Int)(g:Bool)(m:Nat)(p fl:Int):ByteArray×Int×Int:=
 if gI k c g (Dg.dg 4294967296 m) p=0 then(fq k c g (Dg.dg 4294967296 m) p,fl,0) else(⟨#[]⟩,0,gI k c g (Dg.dg 4294967296 m) p)
abbrev mM (r:ByteArray×Int×Int)(w:World)(z:Ending)(w':World):Prop:=z= .returned (.tuple #[.string r.1,yi r.2.1,yi r.2.2])∧yB w w'
theorem CZ (k:Nat)(wy c p fl:Int)(g:Bool)(m:Nat)(ao:Option Addr)(ca:Nat)(w:World)(hr:Rd w .u32 (yT ao m ca) (Dg.dg 4294967296 m))(hT:Tab w):
  yC 76 #[dsk k wy,yvV c g (yT ao m ca) p,yi fl] w (mM (Dw k c g m p fl) w):=by
 have:=It k wy (dK k) (rdN k) (dgN k) (lsI k) (gsI k) c p fl _ (decide (k≤3)) g ao (Dg.dg 4294967296 m).length ca _ w (fun w1 b1=>jj k c g ao ca (Dg.dg 4294967296 m) p w1 (hr.l b1) (Dg.small_dg _ _ (by omega)) (hT.l b1))
 refine this.mono (fun z w' h=>⟨?_,h.2⟩)
 rw[h.1];unfold Dw
 by_cases c0:gI k c g (Dg.dg 4294967296 m) p=0
 ·rw[if_pos c0,if_pos c0]
 ·rw[if_neg c0,if_neg c0]
end Go.Proofs.YtpainhklfoaniaaGreatDoor
