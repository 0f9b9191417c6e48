/-
  Texts laid together: Eb2, Eb3, Eb4, Nx2, Ar2, Ar4, Ar5.
-/
import Derived.Maps.AppendAt
import Derived.Test.YtnhackdjplppjaaGreatDoorSp24
set_option maxRecDepth 100000
namespace Go.Proofs.YtnhackdjplppjaaGreatDoor
open Go.RowKit
theorem bare_own {s:Bool} {a:Trip} (h:a.n≠0) (hs:a.s=s):(⟨s,(bare a).n,(bare a).e⟩:Trip)=bare a:=by
 unfold bare;rw[if_neg h,←hs]
theorem back_value {k:Nat} (hk:1≤k∧k≤8) {ng:Bool} {E F:Nat} (hE:E<2^exN k) (hF:F<2^frN k) (hF64:F<2^64) (hc:clsN k ng E F=2) (h0:plcN k E F≠0):
  bare ⟨ng,valM k ng E F,(widthN (rdN k:Int):Int)*valP k ng E F⟩=bare ⟨ng,plcN k E F,(widthN (rdN k:Int):Int)*plcP k E⟩:=by
 have hT:=refT_num hk hE hF hc;rw[wdI_nat] at hT
 by_cases hr:rdN k=2
 ·obtain⟨v1,v2⟩:=val2 hk hE hF hF64 hc hr
  have hw:widthN (rdN k:Int)=1:=by rw[hr];rfl
  rw[v1,v2,hT,hw,show((1:Nat):Int)*(bare ⟨ng,plcN k E F,((1:Nat):Int)*plcP k E⟩).e=(bare ⟨ng,plcN k E F,((1:Nat):Int)*plcP k E⟩).e from by omega,bare_own (a:=⟨ng,plcN k E F,((1:Nat):Int)*plcP k E⟩) h0 rfl,bare_bare]
 ·have hr16:rdN k=16:=by rcases eight hk with rfl|rfl|rfl|rfl|rfl|rfl|rfl|rfl<;>revert hr<;>decide
  obtain⟨v1,v2,v3⟩:=val16 hk hE hF hF64 hc hr16;have hw:widthN (rdN k:Int)=4:=by rw[hr16];rfl
  rw[hw] at hT⊢;rw[v3,hT];rw[hT] at v1;have hp:=(one_parts ng (bare ⟨ng,plcN k E F,((4:Nat):Int)*plcP k E⟩).n (bare ⟨ng,plcN k E F,((4:Nat):Int)*plcP k E⟩).e (((4:Nat):Int)*valP k ng E F) (by omega)).2;rw[parts_one] at hp;rw[show(4:Int)*valP k ng E F=((4:Nat):Int)*valP k ng E F from rfl,hp,bare_own (a:=⟨ng,plcN k E F,((4:Nat):Int)*plcP k E⟩) h0 rfl,bare_bare]
theorem same_value {k:Nat} (hk:1≤k∧k≤8) {ng:Bool} {E F E' F':Nat} (hE:E<2^exN k) (hF:F<2^frN k) (hF64:F<2^64) (hc:clsN k ng E F=2) (hE':E'<2^exN k) (hF':F'<2^frN k) (hF64':F'<2^64) (hc':clsN k ng E' F'=2)
  (h:bare ⟨ng,plcN k E F,(widthN (rdN k:Int):Int)*plcP k E⟩=bare ⟨ng,plcN k E' F',(widthN (rdN k:Int):Int)*plcP k E'⟩):valM k ng E F=valM k ng E' F'∧valP k ng E F=valP k ng E' F':=by
 have hT:=refT_num hk hE hF hc;have hT':=refT_num hk hE' hF' hc';rw[wdI_nat,h] at hT;rw[wdI_nat,←hT] at hT'
 by_cases hr:rdN k=2
 ·obtain⟨v1,v2⟩:=val2 hk hE hF hF64 hc hr
  obtain⟨u1,u2⟩:=val2 hk hE' hF' hF64' hc' hr;rw[v1,v2,u1,u2,hT'];exact⟨rfl,rfl⟩
 ·have hr16:rdN k=16:=by rcases eight hk with rfl|rfl|rfl|rfl|rfl|rfl|rfl|rfl<;>revert hr<;>decide
  obtain⟨v1,v2,v3⟩:=val16 hk hE hF hF64 hc hr16;obtain⟨u1,u2,u3⟩:=val16 hk hE' hF' hF64' hc' hr16;rw[hT'] at u1 u2 u3;have hp:valP k ng E F=valP k ng E' F':=by omega
  rw[v3,u3,hp];exact⟨rfl,rfl⟩
theorem frN_64 {k:Nat} (hk:1≤k∧k≤8) {f:Nat} (h:f<2^frN k):f<2^64:=
 Nat.lt_of_lt_of_le h (Nat.pow_le_pow_right (by omega) (sizes_fit hk).2.2.2.1)
theorem enc_fields {k:Nat} (hk:1≤k∧k≤8) {ng:Bool} {xs:List Nat} {p:Int} (sa:Dg.Small 4294967296 xs) (hx:chk xs=0) (hE:enE k ng xs p=0):
  (enS k ng xs p).size=szN k∧fldN k (enS k ng xs p)=ng∧fldE k (enS k ng xs p)<2^exN k∧fldF k (enS k ng xs p)<2^frN k∧clsN k ng (fldE k (enS k ng xs p)) (fldF k (enS k ng xs p))=2∧plcN k (fldE k (enS k ng xs p)) (fldF k (enS k ng xs p))≠0∧
   bare ⟨ng,plcN k (fldE k (enS k ng xs p)) (fldF k (enS k ng xs p)),(widthN (rdN k:Int):Int)*plcP k (fldE k (enS k ng xs p))⟩=bare ⟨ng,Dg.vl 4294967296 xs,(widthN (rdN k:Int):Int)*p⟩:=by
 obtain⟨f1,f2,f3,f4,f5,f6,f7,f8,f9,f10,f11,hgc⟩:=fmt_fit hk;have hp: ¬(p< -20000∨20000<p):=fun h=>by
  unfold enE at hE;rw[if_pos h] at hE;omega
 have hl:xs.length≠0:=fun h=>by
  unfold enE at hE;rw[if_neg hp,if_pos h] at hE;omega
 have hvn:=enc_vl hx hl;have hnum:=num_held hk (ng:=ng) hx hl hp;have hin:inR (rdN k:Int) (dgN k:Int) (lsI k) (gsI k) (decide (k≤3)) (bare ⟨ng,Dg.vl 4294967296 xs,(widthN (rdN k:Int):Int)*p⟩).n (bare ⟨ng,Dg.vl 4294967296 xs,(widthN (rdN k:Int):Int)*p⟩).e=true:=by
  refine Decidable.byContradiction fun c=> ?_
  rw[hE,if_neg c] at hnum;omega
 have hbn:(bare ⟨ng,Dg.vl 4294967296 xs,(widthN (rdN k:Int):Int)*p⟩).n≠0:=fun hv=>hvn ((bareN_nil _).1 hv)
 have hbs:(bare ⟨ng,Dg.vl 4294967296 xs,(widthN (rdN k:Int):Int)*p⟩).s=ng:=bare_sign hvn;have hbb:=bare_bare ⟨ng,Dg.vl 4294967296 xs,(widthN (rdN k:Int):Int)*p⟩;have hheld:heldB (rdN k:Int) (dgN k:Int) (lsI k) (gsI k) (decide (k≤3)) (bare ⟨ng,Dg.vl 4294967296 xs,(widthN (rdN k:Int):Int)*p⟩).n (bare ⟨ng,Dg.vl 4294967296 xs,(widthN (rdN k:Int):Int)*p⟩).e=true:=by
  rw[held_bare _ _ f7,←held_in _ _ f7];exact hin
 have hS:enS k ng xs p=strOf (wrtB k (plT k (bare ⟨ng,Dg.vl 4294967296 xs,(widthN (rdN k:Int):Int)*p⟩).s (bare ⟨ng,Dg.vl 4294967296 xs,(widthN (rdN k:Int):Int)*p⟩).n (bare ⟨ng,Dg.vl 4294967296 xs,(widthN (rdN k:Int):Int)*p⟩).e).s (heE (rdN k:Int) (lsI k) (leadN k) (plT k (bare ⟨ng,Dg.vl 4294967296 xs,(widthN (rdN k:Int):Int)*p⟩).s (bare ⟨ng,Dg.vl 4294967296 xs,(widthN (rdN k:Int):Int)*p⟩).n (bare ⟨ng,Dg.vl 4294967296 xs,(widthN (rdN k:Int):Int)*p⟩).e)) (plT k (bare ⟨ng,Dg.vl 4294967296 xs,(widthN (rdN k:Int):Int)*p⟩).s (bare ⟨ng,Dg.vl 4294967296 xs,(widthN (rdN k:Int):Int)*p⟩).n (bare ⟨ng,Dg.vl 4294967296 xs,(widthN (rdN k:Int):Int)*p⟩).e).d):=by
  unfold enS;rw[if_pos hE,(enc_bare (k:=k) (ng:=ng) hx hl hp sa hE).1]
 rw[hbs] at hS;generalize bare ⟨ng,Dg.vl 4294967296 xs,(widthN (rdN k:Int):Int)*p⟩=T at*;obtain⟨p1,p2,p3,p4⟩:=held_place (s:=ng) (way:=3) (by omega:(1:Int)≤(dgN k:Int)) f7 hbn hheld;obtain⟨ho,hu,hbr⟩:=held_round (s:=ng) (way:=3) (by omega:(1:Int)≤(dgN k:Int)) f7 hbn hheld;have hsp:=(round_spot (by omega) f7 hbn (by omega) ho hu).resolve_left (fun c=>p4 (by rw[←p2];exact c.1))
 have hpl:roundT (rdN k:Int) (dgN k:Int) (lsI k) (gsI k) (decide (k≤3)) ng T.n 1 T.e 3=plT k ng T.n T.e:=rfl;rw[hpl] at p1 hbr hsp;generalize plT k ng T.n T.e=pt at*;obtain⟨q0,q1,q2,q3,q4⟩:=hsp;have hdg:((dgN k:Int)-1).toNat=dgN k-1:=by omega
 rw[Int.toNat_natCast] at q3;rw[hdg] at q4;obtain⟨r1,r2,r3,r4⟩:=spot_fields hk ng pt q1 q2 q0 q3 (q4.imp_right (fun h=>⟨by simpa using h.1,h.2⟩))
 obtain⟨w1,w2,w3,w4⟩:=fields_written hk pt.s (heE (rdN k:Int) (lsI k) (leadN k) pt) pt.d;rw[Nat.mod_eq_of_lt r1] at w2;rw[hS,w1,w2,w3,w4];refine⟨rfl,p1,r1,Nat.mod_lt _ (Nat.pow_pos (by omega)),r2,by rw[r3];exact q0, ?_⟩;rw[r3,r4];rw[p1] at hbr;rw[hbr];have:(⟨ng,T.n,T.e⟩:Trip)=T:=by
  cases T
  simp only at hbs⊢;rw[hbs]
 rw[this,hbb]
end Go.Proofs.YtnhackdjplppjaaGreatDoor
namespace Go.Proofs.YtnhackdjplppjaaGreatDoor
open Go.RowKit
theorem oth_fields {k m:Nat} (hk:1≤k∧k≤8) (hm:m=1∨m=3∨m=4∨m=5) (g:Bool) (hs:spcOk k m=true) (hg:g=true→sgnOk k m=true):
  spcE k m<2^exN k∧spcF k m<2^frN k∧clsN k (spcG k m||g) (spcE k m) (spcF k m)=m∧valG k (spcG k m||g) (spcE k m) (spcF k m)=g:=by
 revert hs hg
 rcases eight hk with rfl|rfl|rfl|rfl|rfl|rfl|rfl|rfl<;>rcases hm with rfl|rfl|rfl|rfl<;>cases g<;>decide
theorem patC_ok {k:Nat} (hk:1≤k∧k≤8) {s:ByteArray} (h:s.size=szN k):patC (k:Int) s=0:=by
 have hf:famC (k:Int)≠0:=by
  rcases eight hk with rfl|rfl|rfl|rfl|rfl|rfl|rfl|rfl<;>decide
 unfold patC;rw[if_neg hf,Int.toNat_natCast,if_pos h]
theorem enc_dec {k:Nat} (hk:1≤k∧k≤8) {c:Int} {ng:Bool} {xs:List Nat} {p:Int} (sa:Dg.Small 4294967296 xs) (h:encE (k:Int) c ng xs p=0):
  (encS (k:Int) c ng xs p).size=szN k∧((clsN k (fldN k (encS (k:Int) c ng xs p)) (fldE k (encS (k:Int) c ng xs p)) (fldF k (encS (k:Int) c ng xs p)):Nat):Int)=c∧valG k (fldN k (encS (k:Int) c ng xs p)) (fldE k (encS (k:Int) c ng xs p)) (fldF k (encS (k:Int) c ng xs p))=ng∧
   fldE k (encS (k:Int) c ng xs p)<2^exN k∧fldF k (encS (k:Int) c ng xs p)<2^frN k∧
   (c=2→chk xs=0∧fldN k (encS (k:Int) c ng xs p)=ng∧plcN k (fldE k (encS (k:Int) c ng xs p)) (fldF k (encS (k:Int) c ng xs p))≠0∧bare ⟨ng,plcN k (fldE k (encS (k:Int) c ng xs p)) (fldF k (encS (k:Int) c ng xs p)),(widthN (rdN k:Int):Int)*plcP k (fldE k (encS (k:Int) c ng xs p))⟩=bare ⟨ng,Dg.vl 4294967296 xs,(widthN (rdN k:Int):Int)*p⟩)∧
   (c≠2→xs.length=0∧p=0):=by
 by_cases hf:famC (k:Int)=0∨c<1∨5<c
 ·unfold encE at h
  rw[if_pos hf] at h;omega
 ·by_cases hx:chk xs=0
  ·unfold encE at h
   rw[if_neg hf,if_neg (fun q=>q hx)] at h
   unfold encS;rw[if_neg hf,if_neg (fun q=>q hx)]
   rw[Int.toNat_natCast] at h⊢
   by_cases hc:c=2
   ·rw[if_pos hc] at h⊢
    obtain⟨e1,e2,e3,e4,e5,e6,e7⟩:=enc_fields hk sa hx h;rw[e2];refine⟨e1,by rw[e5,hc];rfl,by unfold valG;rw[if_pos (by omega)],e3,e4,fun _=>⟨hx,rfl,e6,e7⟩,fun q=>absurd hc q⟩
   ·rw[if_neg hc] at h⊢
    obtain⟨m,hm⟩: ∃m:Nat,c=(m:Int):=⟨c.toNat,by omega⟩;subst hm;rw[Int.toNat_natCast] at h⊢;have h4:m=1∨m=3∨m=4∨m=5:=by omega
    have hs:spcOk k m=true:=by
     refine Decidable.byContradiction fun q=> ?_
     unfold othE at h;rw[if_pos (by simpa using q)] at h;omega
    have hbad: ¬(0<xs.length∨p≠0∨ng=true∧sgnOk k m=false):=fun q=>by
     unfold othE at h;rw[if_neg (by rw[hs];simp),if_pos q] at h;omega
    have hg:ng=true→sgnOk k m=true:=fun q=>by
     refine Decidable.byContradiction fun r=>hbad (.inr (.inr ⟨q,by simpa using r⟩))
    obtain⟨o1,o2,o3,o4⟩:=oth_fields hk h4 ng hs hg;obtain⟨w1,w2,w3,w4⟩:=fields_written hk (spcG k m||ng) (spcE k m) (spcF k m)
    rw[Nat.mod_eq_of_lt o1] at w2;rw[Nat.mod_eq_of_lt o2] at w3;have hS:othS k m xs.length ng p=strOf (wrtB k (spcG k m||ng) (spcE k m) (spcF k m)):=by
     unfold othS;rw[if_pos h]
    rw[hS,w1,w2,w3,w4,o3,o4];refine⟨rfl,rfl,rfl,o1,o2,fun q=>absurd q hc,fun _=>⟨?_, ?_⟩⟩
    ·rcases Nat.eq_zero_or_pos xs.length with q|q
     ·exact q
     ·exact absurd (.inl q) hbad
    ·exact Decidable.byContradiction fun q=>hbad (.inr (.inl q))
  ·unfold encE at h
   rw[if_neg hf,if_pos hx] at h;exact absurd h hx
theorem strip_le (r:Nat): ∀(n d:Nat) (p:Int),(stripF r n d p).1≤d
 |0,d,p=>Nat.le_refl _
 |n+1,d,p=>by
  unfold stripF
  split
  ·exact Nat.le_trans (strip_le r n _ _) (Nat.div_le_self _ _)
  ·exact Nat.le_refl _
theorem enS_bare {k:Nat} {ng:Bool} {xs ys:List Nat} {p q:Int} (sa:Dg.Small 4294967296 xs) (sb:Dg.Small 4294967296 ys) (hx:chk xs=0) (hy:chk ys=0) (h:enE k ng xs p=0) (h':enE k ng ys q=0)
  (hb:bare ⟨ng,Dg.vl 4294967296 ys,(widthN (rdN k:Int):Int)*q⟩=bare ⟨ng,Dg.vl 4294967296 xs,(widthN (rdN k:Int):Int)*p⟩):enS k ng ys q=enS k ng xs p:=by
 have key: ∀(zs:List Nat) (r:Int),enE k ng zs r=0→ ¬(r< -20000∨20000<r)∧zs.length≠0:=fun zs r hz=>by
  have hp: ¬(r< -20000∨20000<r):=fun c=>by
   unfold enE at hz;rw[if_pos c] at hz;omega
  refine⟨hp,fun c=> ?_⟩
  unfold enE at hz;rw[if_neg hp,if_pos c] at hz;omega
 obtain⟨a1,a2⟩:=key xs p h;obtain⟨b1,b2⟩:=key ys q h';unfold enS;rw[if_pos h,if_pos h',(enc_bare (k:=k) (ng:=ng) hx a2 a1 sa h).1,(enc_bare (k:=k) (ng:=ng) hy b2 b1 sb h').1,hb]
theorem two_is {k:Nat} (hk:1≤k∧k≤8) {ng:Bool} {ys:List Nat} {q:Int} (hy:chk ys=0):encE (k:Int) 2 ng ys q=enE k ng ys q∧encS (k:Int) 2 ng ys q=enS k ng ys q:=by
 have hf: ¬(famC (k:Int)=0∨(2:Int)<1∨(5:Int)<2):=by
  rcases eight hk with rfl|rfl|rfl|rfl|rfl|rfl|rfl|rfl<;>decide
 unfold encE encS;rw[if_neg hf,if_neg (fun c=>c hy),if_pos rfl,if_neg hf,if_neg (fun c=>c hy),if_pos rfl,Int.toNat_natCast]
 exact⟨rfl,rfl⟩
theorem enc_again {k:Nat} (hk:1≤k∧k≤8) {c:Int} {ng:Bool} {xs:List Nat} {p:Int} (sa:Dg.Small 4294967296 xs) (h:encE (k:Int) c ng xs p=0) (t:ByteArray) (ht:encS (k:Int) c ng xs p=t):
  encE (k:Int) c ng (Dg.dg 4294967296 (valM k (fldN k t) (fldE k t) (fldF k t))) (valP k (fldN k t) (fldE k t) (fldF k t))=0∧encS (k:Int) c ng (Dg.dg 4294967296 (valM k (fldN k t) (fldE k t) (fldF k t))) (valP k (fldN k t) (fldE k t) (fldF k t))=t:=by
 obtain⟨e1,e2,e3,e4,e5,e6,e7⟩:=enc_dec hk sa h;rw[ht] at e1 e2 e3 e4 e5 e6
 by_cases hc:c=2
 ·obtain⟨hx,hn,h0,hb⟩:=e6 hc
  rw[hn] at e2⊢;have hcl:clsN k ng (fldE k t) (fldF k t)=2:=by omega
  have hbv:=back_value hk e4 e5 (frN_64 hk e5) hcl h0;rw[hb] at hbv;have hM0:valM k ng (fldE k t) (fldF k t)≠0:=fun q=>by
   have h1:(bare ⟨ng,valM k ng (fldE k t) (fldF k t),(widthN (rdN k:Int):Int)*valP k ng (fldE k t) (fldF k t)⟩).n=0:=(bareN_nil _).2 q;rw[hbv,←hb] at h1;exact h0 ((bareN_nil _).1 h1)
  subst hc;obtain⟨t1,t2⟩:=two_is hk (ng:=ng) (q:=p) hx;rw[t1] at h;rw[t2] at ht;have hlt:valM k ng (fldE k t) (fldF k t)<2^64:=by
   unfold valM;rw[if_pos hcl];exact Nat.lt_of_le_of_lt (strip_le _ _ _ _) (plcN_lt hk _ (frN_64 hk e5))
  have hlen:(Dg.dg 4294967296 (valM k ng (fldE k t) (fldF k t))).length≤2:=two_len hlt (by omega);have hcy:chk (Dg.dg 4294967296 (valM k ng (fldE k t) (fldF k t)))=0:=chk_of (Dg.norm_dg _ _ (by omega)) (by omega);obtain⟨u1,u2⟩:=two_is hk (ng:=ng) (q:=valP k ng (fldE k t) (fldF k t)) hcy;have hvl:=Dg.vl_dg 4294967296 (valM k ng (fldE k t) (fldF k t)) (by omega);have hp: ¬(p< -20000∨20000<p):=fun q=>by
   unfold enE at h;rw[if_pos q] at h;omega
  have hl:xs.length≠0:=fun q=>by
   unfold enE at h;rw[if_neg hp,if_pos q] at h;omega
  have hnum:=num_held hk (ng:=ng) hx hl hp;have hin:inR (rdN k:Int) (dgN k:Int) (lsI k) (gsI k) (decide (k≤3)) (bare ⟨ng,Dg.vl 4294967296 xs,(widthN (rdN k:Int):Int)*p⟩).n (bare ⟨ng,Dg.vl 4294967296 xs,(widthN (rdN k:Int):Int)*p⟩).e=true:=by
   refine Decidable.byContradiction fun c=> ?_
   rw[h,if_neg c] at hnum;omega
  obtain⟨g1,g2⟩:=fmt_ends hk;have hTn:(bare ⟨ng,Dg.vl 4294967296 xs,(widthN (rdN k:Int):Int)*p⟩).n≠0:=fun q=>enc_vl hx hl ((bareN_nil _).1 q)
  have hTe: -16445≤(bare ⟨ng,Dg.vl 4294967296 xs,(widthN (rdN k:Int):Int)*p⟩).e∧(bare ⟨ng,Dg.vl 4294967296 xs,(widthN (rdN k:Int):Int)*p⟩).e≤16384:=by
   have:=hin;unfold inR at this
   rcases of_decide_eq_true this with q|q
   ·exact absurd q hTn
   ·omega
  have hP: ¬(valP k ng (fldE k t) (fldF k t)< -20000∨20000<valP k ng (fldE k t) (fldF k t)):=by
   have hT:=refT_num hk e4 e5 hcl;rw[wdI_nat,hb] at hT
   by_cases hr:rdN k=2
   ·obtain⟨-,v2⟩:=val2 hk e4 e5 (frN_64 hk e5) hcl hr
    rw[v2,hT];omega
   ·have hr16:rdN k=16:=by rcases eight hk with rfl|rfl|rfl|rfl|rfl|rfl|rfl|rfl<;>revert hr<;>decide
    obtain⟨v1,v2,-⟩:=val16 hk e4 e5 (frN_64 hk e5) hcl hr16;rw[hT] at v1 v2;omega
  have hdl:(Dg.dg 4294967296 (valM k ng (fldE k t) (fldF k t))).length≠0:=fun q=>hM0 ((Dg.dg_nil_iff 4294967296 _ (by omega)).1 (List.length_eq_zero_iff.1 q))
  have hE':enE k ng (Dg.dg 4294967296 (valM k ng (fldE k t) (fldF k t))) (valP k ng (fldE k t) (fldF k t))=0:=by
   rw[num_held hk hcy hdl hP,hvl,hbv,if_pos hin]
  refine⟨by rw[u1];exact hE', ?_⟩;rw[u2,←ht];rw[←ht] at hE' hcy hvl hbv;exact enS_bare sa (Dg.small_dg _ _ (by omega)) hx hcy h hE' (by rw[hvl];exact hbv)
 ·obtain⟨l0,p0⟩:=e7 hc
  have hcl:clsN k (fldN k t) (fldE k t) (fldF k t)≠2:=fun q=>hc (by omega)
  have hxs:xs=[]:=List.length_eq_zero_iff.1 l0;subst hxs;subst p0;have hd:Dg.dg 4294967296 0=[]:=(Dg.dg_nil_iff 4294967296 0 (by omega)).2 rfl;unfold valM valP;rw[if_neg hcl,if_neg hcl,hd];exact⟨h,ht⟩
end Go.Proofs.YtnhackdjplppjaaGreatDoor
namespace Go.Proofs.YtnhackdjplppjaaGreatDoor
open Go.RowKit
theorem fld_lt (k:Nat) (s:ByteArray):fldE k s<2^exN k∧fldF k s<2^frN k:=⟨bitsV_lt _ _ _,bitsV_lt _ _ _⟩
theorem dec_again {k:Nat} (hk:1≤k∧k≤8) {s t:ByteArray}
  (h:encE (k:Int) ((clsN k (fldN k s) (fldE k s) (fldF k s):Nat):Int) (valG k (fldN k s) (fldE k s) (fldF k s)) (Dg.dg 4294967296 (valM k (fldN k s) (fldE k s) (fldF k s))) (valP k (fldN k s) (fldE k s) (fldF k s))=0)
  (ht:encS (k:Int) ((clsN k (fldN k s) (fldE k s) (fldF k s):Nat):Int) (valG k (fldN k s) (fldE k s) (fldF k s)) (Dg.dg 4294967296 (valM k (fldN k s) (fldE k s) (fldF k s))) (valP k (fldN k s) (fldE k s) (fldF k s))=t):
  t.size=szN k∧clsN k (fldN k t) (fldE k t) (fldF k t)=clsN k (fldN k s) (fldE k s) (fldF k s)∧valG k (fldN k t) (fldE k t) (fldF k t)=valG k (fldN k s) (fldE k s) (fldF k s)∧valM k (fldN k t) (fldE k t) (fldF k t)=valM k (fldN k s) (fldE k s) (fldF k s)∧valP k (fldN k t) (fldE k t) (fldF k t)=valP k (fldN k s) (fldE k s) (fldF k s):=by
 obtain⟨e1,e2,e3,e4,e5,e6,e7⟩:=enc_dec hk (Dg.small_dg 4294967296 _ (by omega)) h;rw[ht] at e1 e2 e3 e4 e5 e6;obtain⟨s1,s2⟩:=fld_lt k s;have hcc:clsN k (fldN k t) (fldE k t) (fldF k t)=clsN k (fldN k s) (fldE k s) (fldF k s):=by omega
 refine⟨e1,hcc,e3, ?_⟩
 by_cases hc:clsN k (fldN k s) (fldE k s) (fldF k s)=2
 ·obtain⟨-,hn,h0,hb⟩:=e6 (by rw[hc];rfl)
  have hg:valG k (fldN k s) (fldE k s) (fldF k s)=fldN k s:=by
   unfold valG;rw[if_pos (by omega)]
  rw[hg] at hn hb;rw[Dg.vl_dg 4294967296 _ (by omega)] at hb;have hbv:=back_value hk s1 s2 (frN_64 hk s2) hc (Nat.ne_of_gt (plcN_pos hc));rw[hbv] at hb;rw[hn] at hcc⊢;exact same_value hk e4 e5 (frN_64 hk e5) (by omega) s1 s2 (frN_64 hk s2) hc hb
 ·unfold valM valP
  rw[if_neg (by omega),if_neg hc,if_neg (by omega),if_neg hc];exact⟨rfl,rfl⟩
end Go.Proofs.YtnhackdjplppjaaGreatDoor
namespace Go.Proofs.YtnhackdjplppjaaGreatDoor
open Go.RowKit
theorem shortT_nil (s:Bool) (e:Int):shortT ⟨s,0,e⟩=(⟨false,0,0⟩,0):=by
 have hb:bare ⟨s,0,e⟩=⟨false,0,0⟩:=by simp[bare]
 unfold shortT;rw[hb];simp only;rw[show Dg.dg 4294967296 0=[] from(Dg.dg_nil_iff _ _ (by omega)).2 rfl]
 rfl
def nxT (k:Nat) (s:ByteArray):Trip:=refT k (fldN k s) (fldE k s) (fldF k s)
theorem wdI_is {k:Nat} (hk:1≤k∧k≤8):wdI (rdN k:Int)=(widthN (rdN k:Int):Int):=by
 rcases eight hk with rfl|rfl|rfl|rfl|rfl|rfl|rfl|rfl<;>decide
theorem refT_zero {k:Nat} (hk:1≤k∧k≤8) {ng:Bool} {E F:Nat} (hc:clsN k ng E F=1):refT k ng E F=⟨false,0,0⟩:=by
 have key: ∀(s:Bool) (e:Int),bare ⟨s,0,e⟩=⟨false,0,0⟩:=fun s e=>by simp[bare]
 have h2:2≤2^exN k:=by
  rcases eight hk with rfl|rfl|rfl|rfl|rfl|rfl|rfl|rfl<;>decide
 unfold clsN at hc;unfold refT
 by_cases h3:k≤3
 ·rw[if_pos h3] at hc
  by_cases he:E=0
  ·rw[if_pos he] at hc
   by_cases hf:F=0
   ·subst he hf
    by_cases h4:k=3
    ·rw[if_pos h4,if_neg (by rintro(h|h)<;>omega)]
     exact key _ _
    ·rw[if_neg h4,if_pos (by omega),if_neg (by omega),if_neg (by omega)]
     exact key _ _
   ·rw[if_neg hf] at hc
    omega
  ·rw[if_neg he] at hc
   exfalso
   repeat' split at hc
   all_goals omega
 ·rw[if_neg h3] at hc
  rw[if_neg (show¬k=3 by omega),if_neg (show¬k≤2 by omega)]
  by_cases h5:k≤5
  ·rw[if_pos h5] at hc⊢
   by_cases hf:F=0
   ·subst hf
    exact key _ _
   ·rw[if_neg hf] at hc
    omega
  ·rw[if_neg h5] at hc⊢
   by_cases he:E=0
   ·rw[if_pos he]
   ·rw[if_neg he] at hc
    omega
theorem plc_range {k:Nat} (hk:1≤k∧k≤8) {E:Nat} (hE:E<2^exN k): -16445≤(widthN (rdN k:Int):Int)*plcP k E∧(widthN (rdN k:Int):Int)*plcP k E≤16400∧ -16445≤plcP k E∧plcP k E≤16400:=by
 have hf:(rdN k=16∧widthN (rdN k:Int)=4∧ -78≤lsI k∧lsI k≤0∧2^exN k=128)∨(rdN k≠16∧widthN (rdN k:Int)=1∧ -16445≤lsI k∧lsI k+((2^exN k:Nat):Int)≤16400):=by
  rcases eight hk with rfl|rfl|rfl|rfl|rfl|rfl|rfl|rfl<;>decide
 unfold plcP
 rcases hf with⟨h1,h2,h3,h4,h5⟩| ⟨h1,h2,h3,h4⟩
 ·rw[if_pos h1,h2]
  omega
 ·rw[if_neg h1,h2]
  split<;>omega
theorem valM_lt {k:Nat} (hk:1≤k∧k≤8) (ng:Bool) (E:Nat) {F:Nat} (hF:F<2^64):valM k ng E F<2^64:=by
 unfold valM
 split
 ·exact Nat.lt_of_le_of_lt (strip_le _ _ _ _) (plcN_lt hk E hF)
 ·decide
theorem valP_in {k:Nat} (hk:1≤k∧k≤8) {ng:Bool} {E F:Nat} (hE:E<2^exN k) (hF:F<2^frN k) (hc:clsN k ng E F=2):
  -16445≤(refT k ng E F).e∧(refT k ng E F).e≤16464∧ -16460≤valP k ng E F∧valP k ng E F≤16464:=by
 have h64:=frN_64 hk hF;obtain⟨p1,p2,-,-⟩:=plc_range hk hE;have hT:=refT_num hk hE hF hc;rw[wdI_is hk] at hT;have hp:=plcN_pos hc;have hl:=plcN_lt hk E h64;have hb:=bare_small (t:=⟨ng,plcN k E F,(widthN (rdN k:Int):Int)*plcP k E⟩) (Nat.ne_of_gt hp);have hbl:bitLen (plcN k E F)≤64:=bitLen_le_of _ _ hl;rw[←hT] at hb;simp only at hb;obtain⟨-,b1,b2⟩:=hb;refine⟨by omega,by omega, ?_⟩;have hr:rdN k=2∨rdN k=16:=by
  rcases eight hk with rfl|rfl|rfl|rfl|rfl|rfl|rfl|rfl<;>decide
 rcases hr with hr|hr
 ·have:=(val2 hk hE hF h64 hc hr).2
  omega
 ·have:=val16 hk hE hF h64 hc hr
  omega
theorem num_is {k:Nat} (hk:1≤k∧k≤8) (s:ByteArray) (hc:clsN k (fldN k s) (fldE k s) (fldF k s)=1∨clsN k (fldN k s) (fldE k s) (fldF k s)=2):
  dbothR (placeC (Dg.dg 4294967296 (valM k (fldN k s) (fldE k s) (fldF k s))) (valP k (fldN k s) (fldE k s) (fldF k s)) (rdN k:Int) (dgN k:Int) (lsI k) (gsI k)) ⟨valG k (fldN k s) (fldE k s) (fldF k s),Dg.vl 4294967296 (Dg.dg 4294967296 (valM k (fldN k s) (fldE k s) (fldF k s))),(widthN (rdN k:Int):Int)*valP k (fldN k s) (fldE k s) (fldF k s)⟩=(nxT k s,0):=by
 obtain⟨s1,s2⟩:=fld_lt k s;have h64:=frN_64 hk s2;have hgr:=(fmt_fit hk).2.2.2.2.2.2.2.2.2.2.2;unfold nxT;generalize fldN k s=ng at*;generalize fldE k s=E at*;generalize fldF k s=F at*;rw[Dg.vl_dg _ _ (by omega)];have hm:(Dg.dg 4294967296 (valM k ng E F)).length≤2:=Dg.dg_len_le 4294967296 _ 2 (by omega) (Nat.lt_of_lt_of_le (valM_lt hk ng E h64) (by decide));have hck:chk (Dg.dg 4294967296 (valM k ng E F))=0:=(dchk_zero (dchk_of (n:=valM k ng E F) (e:=0) (by omega) (by omega) (by omega))).1
 rcases hc with hc|hc
 ·have hM:valM k ng E F=0:=if_neg (by omega)
  have hP:valP k ng E F=0:=if_neg (by omega);rw[hP,placeC_fine hck hgr (by decide),hM,refT_zero hk hc];exact shortT_nil _ _
 ·obtain⟨v1,v2,v3,v4⟩:=valP_in hk s1 s2 hc
  rw[placeC_fine hck hgr (by unfold farB;simp;omega)];have hb:=back_value hk s1 s2 h64 hc (Nat.ne_of_gt (plcN_pos hc));have hT:=refT_num hk s1 s2 hc;rw[wdI_is hk] at hT;have hG:valG k ng E F=ng:=by
   unfold valG;rw[if_pos (by omega)]
  rw[hG]
  show shortT _=_
  rw[hT,←hb];rw[hT,←hb] at v1 v2;exact short_of (Nat.le_trans (dg_len_mono _ _ _ (by omega) (bare_n_le _)) (by simp only;omega)) (by omega) (by omega)
end Go.Proofs.YtnhackdjplppjaaGreatDoor
namespace Go.Proofs.YtnhackdjplppjaaGreatDoor
open Go.RowKit
def opT (n:Int) (p:ByteArray):Trip:=if patC n p=0 then nxT n.toNat p else⟨false,0,0⟩
def opC (n:Int) (p:ByteArray) (v:Value):List Value:=[yi ((decC n p:Nat):Int),.bool (decG n p),.bool (opT n p).s,v,yi (opT n p).e]
def OpAt (w:World) (n:Int) (g:Option Nat) (p:ByteArray) (v:Value):Prop:=
 (∃so sc,v= .slice so (Dg.dg 4294967296 (opT n p).n).length sc)∧Rd w .u32 v (Dg.dg 4294967296 (opT n p).n)∧ ∀b,g=some b→OffB b v (Dg.dg 4294967296 (opT n p).n)
def OpsAt (w:World) (n:Int) (g:Option Nat):List ByteArray→List Value→Prop
 | [],cs=>cs=[]
 |p::ps,cs=> ∃v rest,cs=opC n p v++rest∧OpAt w n g p v∧OpsAt w n g ps rest
theorem OpsAt.mono {w w':World} {n:Int} {g g':Option Nat} (h: ∀p v,OpAt w n g p v→OpAt w' n g' p v): ∀{ps:List ByteArray} {cs:List Value},OpsAt w n g ps cs→OpsAt w' n g' ps cs
 | [],_,hc=>hc
 |p::_,_,hc=>by
  obtain⟨v,rest,h1,h2,h3⟩:=hc;exact⟨v,rest,h1,h p v h2,OpsAt.mono h h3⟩
theorem OpsAt.snoc {w:World} {n:Int} {g:Option Nat} {p:ByteArray} {v:Value} (hv:OpAt w n g p v): ∀{ps:List ByteArray} {cs:List Value},OpsAt w n g ps cs→OpsAt w n g (ps++[p]) (cs++opC n p v)
 | [],cs,hc=>by
  have:cs=[]:=hc;subst this;exact⟨v,[],by simp,hv,rfl⟩
 |q::_,_,hc=>by
  obtain⟨u,rest,h1,h2,h3⟩:=hc;subst h1;exact⟨u,rest++opC n p v,by simp,h2,OpsAt.snoc hv h3⟩
def errL (n:Int):List ByteArray→Int
 | []=>0
 |p::ps=>if patC n p=0 then errL n ps else patC n p
def OpsRes (w:World) (n:Int) (ps:List ByteArray) (z:Ending) (w':World):Prop:=
 (errL n ps=0∧ ∃v cs,z= .returned (.tuple #[v,yi 0])∧w'.ownsRow w.heap.size 98 5 v ps.length cs∧OpsAt w' n v.ownBlock ps cs∧Below w.heap.size w w')∨
 (errL n ps≠0∧z= .returned (.tuple #[.slice none 0 0,yi (errL n ps)])∧Below w.heap.size w w')
def OpsI (w:World) (n:Int) (ps:List ByteArray) (i:Nat) (lv:Value) (wr:World):Prop:=
 ∃cs,wr.ownsRow (w.heap.size+1) 98 5 lv i cs∧OpsAt wr n lv.ownBlock (ps.take i) cs∧errL n ps=errL n (ps.drop i)
theorem own_row_later {w w':World} {base e size k:Nat} {v:Value} {xs:List Value} (h:w.ownsRow base e size v k xs) (hb:Below w.heap.size w w'):w'.ownsRow base e size v k xs:=by
 obtain⟨hl,h2⟩:=h;refine⟨hl, ?_⟩
 rcases h2 with h2| ⟨g,cap,cur,hv,hbg,hh,r⟩
 ·exact .inl h2
 ·refine .inr ⟨g,cap,cur,hv,hbg, ?_,r⟩
  rw[hb.block g ?_]
  ·exact hh
  ·rw[Array.getElem?_eq_some_iff] at hh
   exact hh.1
theorem OpAt.later {w w':World} {n:Int} {g:Option Nat} {p:ByteArray} {v:Value} (h:OpAt w n g p v) (hb:Below w.heap.size w w'):OpAt w' n g p v:=⟨h.1,h.2.1.later hb,h.2.2⟩
theorem OpsI.later {w wr w':World} {n:Int} {ps:List ByteArray} {i:Nat} {lv:Value} (h:OpsI w n ps i lv wr) (hb:Below wr.heap.size wr w'):OpsI w n ps i lv w':=by
 obtain⟨cs,h1,h2,h3⟩:=h;exact⟨cs,own_row_later h1 hb,h2.mono (fun p v k=>k.later hb),h3⟩
theorem rd_grown {w w':World} {g:Nat} {k:IntKind} {v:Value} {zs:List Nat} (r:Rd w k v zs) (hg:w.grownBy w' (some g)) (ho:OffB g v zs):Rd w' k v zs:=by
 obtain⟨ao,cap,rfl,h1,h2,h3⟩:=r;refine⟨ao,cap,rfl,h1,h2,fun hp=> ?_⟩
 obtain⟨b,off,rfl,h4⟩:=h3 hp;refine⟨b,off,rfl,fun i hi=> ?_⟩
 have h5:=h4 i hi;have hlt:b<w.heap.size:=World.block_lt_of_cell? w _ h5;have hne:b≠g:=ho hp _ _ _ rfl;rw[←h5];unfold World.cell?;simp only;rw[hg.block b hlt (fun e=>hne (Option.some.inj e))]
theorem LocE.grownO {w w':World} {b:Nat} {ty:TypeId} {vs:List Value} {row:Option Nat} (h:LocE w b ty vs) (hg:w.grownBy w' row) (hne: ∀g,row=some g→b≠g):LocE w' b ty vs:=
 (hg.block b h.lt (fun e=>hne b e.symm rfl)).trans h
theorem own_row_wider {w:World} {base base' e size k:Nat} {v:Value} {xs:List Value} (h:w.ownsRow base e size v k xs) (hb:base'≤base):w.ownsRow base' e size v k xs:=by
 obtain⟨hl,h2⟩:=h;refine⟨hl, ?_⟩
 rcases h2 with h2| ⟨g,cap,cur,hv,hbg,r⟩
 ·exact .inl h2
 ·exact .inr ⟨g,cap,cur,hv,Nat.le_trans hb hbg,r⟩
theorem ops_more {w w1 w2:World} {n:Int} {ps:List ByteArray} {i:Nat} {lv v' x:Value} {p:ByteArray} {cs:List Value} (hp:ps[i]? =some p) (he:patC n p=0) (h2:OpsAt w1 n lv.ownBlock (ps.take i) cs) (h3:errL n ps=errL n (ps.drop i)) (hx:OpAt w1 n lv.ownBlock p x)
  (hown:w2.ownsRow (w.heap.size+1) 98 5 v' (i+1) (cs++opC n p x)) (hg:w1.grownBy w2 lv.ownBlock) (hat:v'.ownBlock=lv.ownBlock∨v'.ownBlock=some w1.heap.size):
  OpsI w n ps (i+1) v' w2:=by
 have hil:i<ps.length:=by
  rw[List.getElem?_eq_some_iff] at hp;exact hp.1
 have hm: ∀q v,OpAt w1 n lv.ownBlock q v→OpAt w2 n v'.ownBlock q v:=fun q v k=>by
  obtain⟨k1,k2,k3⟩:=k;refine⟨k1, ?_, ?_⟩
  ·obtain⟨so,sc,rfl⟩:=k1
   cases hb:lv.ownBlock with
   |none=>exact k2.later ⟨hg.os,hg.tape,hg.output,hg.size,fun j hj=>hg.block j hj (by rw[hb];exact fun e=>nomatch e)⟩
   |some b=>exact rd_grown k2 (hb▸hg) (k3 b hb)
  ·intro b hb
   rcases hat with e|e
   ·exact k3 b (by rw[←e];exact hb)
   ·have hbw:b=w1.heap.size:=by rw[e] at hb;exact(Option.some.inj hb).symm
    exact rd_offNew k2 (by omega)
 refine⟨_,hown, ?_, ?_⟩
 ·rw[List.take_add_one,hp]
  exact(h2.mono hm).snoc (hm p x hx)
 ·rw[h3]
  have hd:ps.drop i=p::ps.drop (i+1):=by
   rw[List.drop_eq_getElem_cons hil]
   congr 1
   rw[List.getElem?_eq_getElem hil] at hp;exact Option.some.inj hp
  rw[hd];exact if_pos he
end Go.Proofs.YtnhackdjplppjaaGreatDoor
namespace Go.Proofs.YtnhackdjplppjaaGreatDoor
open Go.RowKit
theorem ops_get {w:World} {n:Int} {g:Option Nat}: ∀{ps:List ByteArray} {cs:List Value} {i:Nat} {p:ByteArray},OpsAt w n g ps cs→ps[i]? =some p→ ∃v,OpAt w n g p v∧ ∀j u,(opC n p v)[j]? =some u→cs[5*i+j]? =some u
 | [],_,_,_,_,hp=>by simp at hp
 |q::ps,cs,0,p,hc,hp=>by
  obtain⟨v,rest,h1,h2,h3⟩:=hc;have:q=p:=by simpa using hp
  subst this;refine⟨v,h2,fun j u hj=> ?_⟩
  subst h1;rw[List.getElem?_append_left]
  ·simpa using hj
  ·have:=(List.getElem?_eq_some_iff.1 hj).1
   omega
 |q::ps,cs,i+1,p,hc,hp=>by
  obtain⟨v,rest,h1,h2,h3⟩:=hc;obtain⟨u,h4,h5⟩:=ops_get h3 (by simpa using hp);refine⟨u,h4,fun j x hj=> ?_⟩
  subst h1;rw[List.getElem?_append_right (by simp[opC];omega)];have:=h5 j x hj;rw[show 5*(i+1)+j-(opC n q v).length=5*i+j from by simp[opC];omega]
  exact this
structure OpsV (w:World) (n:Int) (ps:List ByteArray) (g cap:Nat):Prop where
 fit:ps.length≤cap
 most:cap≤maxLen
 each: ∀(i:Nat) p,ps[i]? =some p→ ∃so sc,w.rangeAt g (i*5) (opC n p (.slice so (Dg.dg 4294967296 (opT n p).n).length sc))∧Rd w .u32 (.slice so (Dg.dg 4294967296 (opT n p).n).length sc) (Dg.dg 4294967296 (opT n p).n)
theorem range_later {w w':World} {g o:Nat} {cs:List Value} (h:w.rangeAt g o cs) (hb:Below w.heap.size w w'):w'.rangeAt g o cs:=fun j v hv=>by
 have:=h j v hv;rw[←this];exact World.cell?_of_block (hb.block g (World.block_lt_of_cell? w _ this))
theorem OpsV.later {w w':World} {n:Int} {ps:List ByteArray} {g cap:Nat} (h:OpsV w n ps g cap) (hb:Below w.heap.size w w'):OpsV w' n ps g cap:=
 ⟨h.fit,h.most,fun i p hp=>by
  obtain⟨so,sc,h1,h2⟩:=h.each i p hp;exact⟨so,sc,range_later h1 hb,h2.later hb⟩⟩
theorem opsV_of {w:World} {n:Int} {ps:List ByteArray} {base:Nat} {v:Value} {cs:List Value} (h0:ps≠[]) (ho:w.ownsRow base 98 5 v ps.length cs) (hat:OpsAt w n v.ownBlock ps cs):
  ∃g cap,v= .slice (some ⟨g,0,none⟩) ps.length cap∧OpsV w n ps g cap:=by
 rcases ho.2 with⟨-,h⟩| ⟨g,cap,cur,hv,-,-,h1,h2,-,-⟩
 ·exact absurd (List.eq_nil_of_length_eq_zero h) h0
 ·refine⟨g,cap,hv,h1,h2,fun i p hp=> ?_⟩
  obtain⟨u,⟨⟨so,sc,rfl⟩,k2,k3⟩,k4⟩:=ops_get hat hp;refine⟨so,sc,fun j x hj=> ?_,k2⟩
  have:=ho.cells (g:=g) (by rw[hv];rfl) (5*i+j) x (k4 j x hj);rw[Addr.add_mid,Nat.zero_add] at this;rw[Nat.mul_comm i 5];exact this
end Go.Proofs.YtnhackdjplppjaaGreatDoor
namespace Go.Proofs.YtnhackdjplppjaaGreatDoor
open Go.RowKit
def noNum (n:Int) (p:ByteArray):Bool:=decide (decC n p=4∨decC n p=5)
set_option maxHeartbeats 6400000 in
theorem noNumbers_W (n:Int) (ps:List ByteArray) (g cap:Nat) (w:World) (h:OpsV w n ps g cap) (hm:ps.length≤3):
  Calls Tryz.prog 82 #[.slice (some ⟨g,0,none⟩) ps.length cap] w fun z w'=>z= .returned (.bool (ps.any (noNum n)))∧Below w.heap.size w w':=by
 obtain⟨m,hmE⟩: ∃m,ps.length=m:=⟨_,rfl⟩;have hfit:=h.fit;have hmost:=h.most;rw[hmE] at hm hfit⊢;have HM:Hid (ps.length=m):=hmE;have HF:Hid (m≤cap∧cap≤maxLen):=⟨hfit,hmost⟩;clear hmE hfit hmost
 go_enter Tryz.func82,Tryz.ntmps82
 go_wp2
 go_loopw [7] (fun iv wr=> ∃i:Nat,iv=yi (i:Int)∧i≤m∧Hid (ps.any (noNum n)=(ps.drop i).any (noNum n))∧OpsV wr n ps g cap∧Below w.heap.size w wr) (fun iv _=>m-(intOf iv).toNat)
 case atStart=>exact⟨0,rfl,by omega,rfl,h,Below.refl _ _⟩
 case round=>
  obtain⟨i,rfl,him,HN,hO,bel⟩:=hrel
  by_cases hlt:i<m
  ·have hil:i<ps.length:=by have:=HM.out;omega
   obtain⟨p,hp⟩: ∃p,ps[i]? =some p:=⟨_,List.getElem?_eq_getElem hil⟩;have hd:ps.drop i=p::ps.drop (i+1):=by
    rw[List.drop_eq_getElem_cons hil]
    congr 1
    rw[List.getElem?_eq_getElem hil] at hp;exact Option.some.inj hp
   have HN2:Hid (ps.any (noNum n)=(noNum n p||(ps.drop (i+1)).any (noNum n))):=by
    have:=HN.out;rw[hd,List.any_cons] at this;exact this
   obtain⟨so,sc,hr,-⟩:=hO.each i p hp;unfold opC at hr;obtain⟨c,ec⟩: ∃c:Nat,decC n p=c:=⟨_,rfl⟩;obtain⟨b1,e1⟩: ∃c,decG n p=c:=⟨_,rfl⟩;obtain⟨t,et⟩: ∃c,opT n p=c:=⟨_,rfl⟩;have HC:Hid (noNum n p=decide (c=4∨c=5)):=by unfold noNum;rw[ec];rfl
   rw[ec,e1,et] at hr;have y0:wr.cell? ⟨g,i*5,none⟩=some (yi (c:Int)):=hr 0 _ rfl;have y1:wr.cell? ⟨g,i*5+1,none⟩=some (.bool b1):=hr 1 _ rfl;have y2:wr.cell? ⟨g,i*5+2,none⟩=some (.bool t.s):=hr 2 _ rfl;have y3:wr.cell? ⟨g,i*5+3,none⟩=some (.slice so (Dg.dg 4294967296 t.n).length sc):=hr 3 _ rfl;have y4:wr.cell? ⟨g,i*5+4,none⟩=some (yi t.e):=hr 4 _ rfl;have al:=below_alloc wr (.cells (yOL (c:Int) b1 t so sc).toArray 98);have ln:=locE_new wr (yOL (c:Int) b1 t so sc) 98;have hO1:=hO.later al;have bel1:=below_trans bel al;clear hp hil hd HN hr ec e1 et hO bel al
   go_upto_region 4 with fail
   generalize wr.alloc (.cells (yOL (c:Int) b1 t so sc).toArray 98)=W at ln hO1 bel1⊢;obtain⟨z0,z1,z2,z3,z4⟩:=ln.cs5;clear ln y0 y1 y2 y3 y4
   by_cases h4:c=4
   ·subst h4
    go_wp2
    go_ret
    refine⟨?_,bel1⟩;rw[HN2.out,HC.out];rfl
   ·by_cases h5:c=5
    ·subst h5
     go_wp2
     go_ret
     refine⟨?_,bel1⟩;rw[HN2.out,HC.out];rfl
    ·have c4:((c:Int)==4)=false:=beq_eq_false_iff_ne.2 (by omega)
     have c5:((c:Int)==5)=false:=beq_eq_false_iff_ne.2 (by omega);have HN3:Hid (ps.any (noNum n)=(ps.drop (i+1)).any (noNum n)):=by
      have h1:=HN2.out;rw[HC.out,decide_eq_false (by omega),Bool.false_or] at h1;exact h1
     clear h4 h5 HN2 HC
     go_wp2
     go_roundw
     case rel=>exact⟨i+1,by go_num,by omega,HN3,hO1,bel1⟩
     case measure=>simp[intOf];omega
  ·have HE:Hid (i=m):=(by omega:i=m)
   go_wp2
   go_ret
   refine⟨?_,bel⟩;rw[HN.out,List.drop_of_length_le (by have h1:=HE.out;have h2:=HM.out;omega)];rfl
end Go.Proofs.YtnhackdjplppjaaGreatDoor
