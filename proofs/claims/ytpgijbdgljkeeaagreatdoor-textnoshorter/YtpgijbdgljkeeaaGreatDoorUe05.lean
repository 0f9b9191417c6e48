/-
  Texts laid together: Ce4, Em1, Df1, Ef2, Ce9, Eb1, Co25, Cr10, Eg2.
-/
import Derived.Test.YtpgijbdgljkeeaaGreatDoorUe04
set_option maxRecDepth 100000
set_option maxHeartbeats 3200000
namespace Go.Proofs.YtpgijbdgljkeeaaGreatDoor
open _root_.Go.Proofs.Tryz
open Go.RowKit
theorem Ib (zs:List Nat)(i:Nat):fU zs i=((zs.getD (i/8) 0).testBit (7-i % 8)).toNat:=by
 unfold fU;rw[Nat.testBit_eq_decide_div_mod_eq];have h:=Nat.mod_lt (zs.getD (i/8) 0/2^ (7-i % 8)) (show 0<2 by omega)
 rcases(show zs.getD (i/8) 0/2^ (7-i % 8) % 2=0∨zs.getD (i/8) 0/2^ (7-i % 8) % 2=1 by omega) with e|e<;>rw[e]<;>rfl
theorem Lp (y b t u:Nat)(hb:b<2):(y|||b*2^t).testBit u=(y.testBit u||(decide (b=1)&&decide (t=u))):=by
 rw[Nat.testBit_or]
 rcases(show b=0∨b=1 by omega) with rfl|rfl
 ·simp
 ·rw[Nat.one_mul,Nat.testBit_two_pow]
  simp
theorem Wp (zs:List Nat)(p b i:Nat)(hb:b<2)(hp:p/8<zs.length):fU (zs.set (p/8) (zs.getD (p/8) 0|||b*2^ (7-p % 8))) i=if i=p then(if b=1 then 1 else fU zs i) else fU zs i:=by
 rw[Ib,Ib,Dg.getD_set _ _ _ _ hp]
 by_cases h8:p/8=i/8
 ·rw[if_pos h8,Lp _ _ _ _ hb,h8]
  by_cases hi:i=p
  ·subst hi
   rw[if_pos rfl]
   rcases(show b=0∨b=1 by omega) with rfl|rfl
   ·simp
   ·simp
  ·rw[if_neg hi,decide_eq_false (show¬7-p % 8=7-i % 8 by omega)]
   simp
 ·rw[if_neg h8,if_neg (show¬i=p from fun e=>h8 (by rw[e]))]
theorem xO (f:Nat): ∀(c x:Nat) (zs:List Nat) (i:Nat),f+c≤8*zs.length→fU (iS f c x zs) i=if f≤i∧i<f+c then(if x/2^ (f+c-1-i) % 2=1 then 1 else fU zs i) else fU zs i
 |0,x,zs,i,_=>by
  rw[iS,if_neg (by omega)]
 |c+1,x,zs,i,h=>by
  rw[iS,xO f c (x/2) _ i (by rw[List.length_set];omega),Wp _ _ _ _ (Nat.mod_lt _ (by omega)) (by omega)]
  by_cases h1:f≤i∧i<f+c
  ·rw[if_pos h1,if_pos (show f≤i∧i<f+(c+1) by omega),if_neg (show¬i=f+c by omega),Nat.div_div_eq_div_mul,←Nat.pow_succ',show(f+c-1-i).succ=f+(c+1)-1-i from by omega]
  ·rw[if_neg h1]
   by_cases h2:i=f+c
   ·rw[if_pos h2,if_pos (show f≤i∧i<f+(c+1) by omega),show f+(c+1)-1-i=0 from by omega,Nat.pow_zero,Nat.div_one]
   ·rw[if_neg h2,if_neg (show¬(f≤i∧i<f+(c+1)) by omega)]
theorem Tk (y:Nat)(h:y<256):jY (fun j=>decide (y/2^ (7-j) % 2=1)) 8=y:=by
 have e: ∀n,(if decide (n % 2=1)=true then 1 else 0)=n % 2:=fun n=>by
  rcases(show n % 2=0∨n % 2=1 by omega) with h|h<;>rw[h]<;>rfl
 simp only[jY,e];omega
theorem nz {f g:Nat→Bool}: ∀n,(∀j,j<n→f j=g j)→jY f n=jY g n
 |0,_=>rfl
 |n+1,h=>by
  rw[jY,jY,nz n (fun j hj=>h j (by omega)),h n (by omega)]
theorem OT (zs:List Nat)(hs:Dg.Small 256 zs):zs=byL (fun i=>decide (fU zs i=1)) zs.length:=by
 apply List.ext_getElem (by rw[xT]);intro p hp1 hp2;have e1:zs.getD p 0=zs[p]:=by simp[List.getD_eq_getElem?_getD,hp1]
 have e2:(byL (fun i=>decide (fU zs i=1)) zs.length).getD p 0=(byL (fun i=>decide (fU zs i=1)) zs.length)[p]:=by simp only[List.getD_eq_getElem?_getD,List.getElem?_eq_getElem hp2,Option.getD_some]
 rw[←e1,←e2,JB _ _ _ hp1];refine(Tk (zs.getD p 0) (hs p)).symm.trans (nz 8 (fun j hj=> ?_))
 unfold fU;rw[show(8*p+j)/8=p from by omega,show(8*p+j) % 8=j from by omega]
theorem Ic {f g:Nat→Bool}(n:Nat)(h: ∀i,i<8*n→f i=g i):byL f n=byL g n:=by
 unfold byL;apply List.map_congr_left;intro i hi;have:=List.mem_range.1 hi;exact nz 8 (fun j hj=>h _ (by omega))
theorem Ea (n i:Nat):fU (List.replicate n 0) i=0:=by
 unfold fU;have:(List.replicate n 0).getD (i/8) 0=0:=by
  by_cases h:i/8<n
  ·simp[List.getD_eq_getElem?_getD,h]
  ·simp[List.getD_eq_getElem?_getD,h]
 rw[this];simp
def Eb (ex fr:Nat)(ng:Bool)(e f:Nat)(i:Nat):Bool:=
 if i=0 then ng else if i≤ex then decide (e/2^ (ex-i) % 2=1) else decide (f/2^ (ex+fr-i) % 2=1)
theorem xP {k:Nat}(hk:1≤k∧k≤8)(ng:Bool)(e f:Nat):kU k ng e f=jT k (byL (Eb (exN k) (frN k) ng e f) (szN k)):=by
 obtain⟨h1,h2,h3,h4,-,h7⟩:=fZ hk;unfold kU
 congr 1
 have sm0:Dg.Small 256 (List.replicate (szN k) 0):=by
  intro i
  by_cases hi:i<szN k
  ·simp[List.getD_eq_getElem?_getD,hi]
  ·simp[List.getD_eq_getElem?_getD,hi]
 have key: ∀zs:List Nat,zs.length=szN k→Dg.Small 256 zs→(∀i,fU zs i=if i=0∧ng=true then 1 else 0)→iS (1+exN k) (frN k) f (iS 1 (exN k) e zs)=byL (Eb (exN k) (frN k) ng e f) (szN k):=fun zs hl hs hb=>by
  have hl2:(iS (1+exN k) (frN k) f (iS 1 (exN k) e zs)).length=szN k:=by rw[il,il,hl]
  rw[OT _ (mj _ _ _ _ (mj _ _ _ _ hs)),hl2];refine Ic _ (fun i hi=> ?_)
  rw[xO _ _ _ _ _ (by rw[il];omega),xO _ _ _ _ _ (by omega),hb i];unfold Eb
  by_cases h0:i=0
  ·subst h0
   rw[if_neg (by omega),if_neg (by omega),if_pos rfl]
   cases ng<;>rfl
  ·rw[if_neg h0]
   have hz:(if i=0∧ng=true then 1 else 0)=0:=if_neg (fun h=>h0 h.1)
   rw[hz]
   by_cases hx:i≤exN k
   ·rw[if_pos hx,if_neg (by omega),if_pos (show 1≤i∧i<1+exN k by omega),show 1+exN k-1-i=exN k-i from by omega]
    split
    ·rename_i h;rw[h]
    ·rename_i h;rw[decide_eq_false h];rfl
   ·rw[if_neg hx,if_pos (show 1+exN k≤i∧i<1+exN k+frN k by omega),if_neg (show¬(1≤i∧i<1+exN k) by omega),show 1+exN k+frN k-1-i=exN k+frN k-i from by omega]
    split
    ·rename_i h;rw[h]
    ·rename_i h;rw[decide_eq_false h];rfl
 cases ng
 ·rw[if_neg (by simp)]
  exact key _ List.length_replicate sm0 (fun i=>by rw[Ea];simp)
 ·rw[if_pos rfl]
  refine key _ (by rw[il];exact List.length_replicate) (mj _ _ _ _ sm0) (fun i=> ?_)
  rw[xO _ _ _ _ _ (by rw[List.length_replicate];omega),Ea]
  by_cases h0:i=0
  ·subst h0
   rfl
  ·rw[if_neg (by omega),if_neg (fun h=>h0 h.1)]
theorem aaj (a many i:Nat)(h:i<many):(bnL a many).getD i false=decide (a/2^ (many-1-i) % 2=1):=by
 simp[bnL,List.getD_eq_getElem?_getD,h]
theorem acq (ex fr e f:Nat)(ng:Bool)(i:Nat)(h:i<1+ex+fr):((ng::bnL e ex)++bnL f fr).getD i false=Eb ex fr ng e f i:=by
 unfold Eb
 by_cases h0:i=0
 ·subst h0
  rfl
 ·rw[if_neg h0]
  obtain⟨j,rfl⟩: ∃j,i=j+1:=⟨i-1,by omega⟩;rw[List.cons_append,List.getD_cons_succ]
  by_cases hx:j+1≤ex
  ·rw[if_pos hx,List.getD_eq_getElem?_getD,List.getElem?_append_left (by rw[wk];omega),←List.getD_eq_getElem?_getD,aaj _ _ _ (by omega),show ex-1-j=ex-(j+1) from by omega]
  ·rw[if_neg hx,List.getD_eq_getElem?_getD,List.getElem?_append_right (by rw[wk];omega),←List.getD_eq_getElem?_getD,wk,aaj _ _ _ (by omega),show fr-1-(j-ex)=ex+fr-(j+1) from by omega]
theorem aak {f p j:Nat}(h:2^p≤f)(hj:j<p):(f-2^p)/2^j % 2=f/2^j % 2:=by
 obtain⟨r,rfl⟩: ∃r,f=r+2^p:=⟨f-2^p,by omega⟩;obtain⟨q,rfl⟩: ∃q,p=j+1+q:=⟨p-j-1,by omega⟩;rw[Nat.add_sub_cancel,show 2^ (j+1+q)=2^j*(2*2^q) from by rw[Nat.pow_add,Nat.pow_succ,Nat.mul_assoc],Nat.add_mul_div_left _ _ (Nat.pow_pos (by omega)),Nat.add_mul_mod_self_left]
theorem Wg {k:Nat}(hk:1≤k∧k≤8)(ng:Bool)(e f:Nat)(h:2^frN k≤f):kU k ng e (f-2^frN k)=kU k ng e f:=by
 obtain⟨h1,h2,h3,h4,-,h7⟩:=fZ hk;rw[xP hk,xP hk]
 congr 1
 refine Ic _ (fun i hi=> ?_)
 unfold Eb
 by_cases h0:i=0
 ·rw[if_pos h0,if_pos h0]
 ·rw[if_neg h0,if_neg h0]
  by_cases hx:i≤exN k
  ·rw[if_pos hx,if_pos hx]
  ·rw[if_neg hx,if_neg hx,aak h (by omega)]
theorem oj {R D L G:Int}{gr s:Bool}{n:Nat}{e way:Int}(h1:1≤D)(hLG:L≤G)(h0:n≠0)(hh:dA R D L G gr n e=true):
  (cI R D L G gr s n 1 e way).s=s∧(cI R D L G gr s n 1 e way).d=shN n (e-(ai R:Int)*cP R D L gr n e)∧(cI R D L G gr s n 1 e way).p=cP R D L gr n e∧shN n (e-(ai R:Int)*cP R D L gr n e)≠0:=by
 have hM:(1:Nat)≠0:=by omega
 have hb:=(mC (s:=s) (way:=way) h1 hLG h0 hh).2.2;have hs:L≤cP R D L gr n e∧cP R D L gr n e≤G∧(ai R:Int)*cP R D L gr n e≤e+(tz n:Int):=by
  unfold dA at hh
  rcases of_decide_eq_true hh with h|h
  ·exact absurd h h0
  ·exact h
 have hc:dj R D L gr n 1 e=cP R D L gr n e:=by
  unfold dj cP;rw[lU h0]
 obtain⟨p1,-⟩:=nV s n e ((ai R:Int)*cP R D L gr n e) hs.2.2;have hl:gF R D L gr n 1 e=0:=by
  unfold gF shP;rw[hc];exact p1
 have hd:fM R D L gr s n 1 e way=cH R D L gr n 1 e:=by
  unfold fM;rw[if_neg];rintro⟨c,-⟩;exact of_decide_eq_false c hl
 obtain⟨c1,c2⟩:=uh R D L gr n 1 e h1 h0 hM (dj R D L gr n 1 e);have hw:cH R D L gr n 1 e=shN n (e-(ai R:Int)*cP R D L gr n e):=by
  unfold cH shP;rw[hc,Jv]
 have hdn:(cI R D L G gr s n 1 e way).d≠0:=fun hz=>by
  have h2:(bare ⟨(cI R D L G gr s n 1 e way).s,(cI R D L G gr s n 1 e way).d,(ai R:Int)*(cI R D L G gr s n 1 e way).p⟩).n=0:=(fI _).2 hz;rw[hb] at h2;exact h0 ((fI _).1 h2)
 rw[kJ gr s n 1 e way h1 hLG h0 hM,hd,c1,c2,hc] at hdn⊢;simp only at hdn⊢;rw[if_neg hdn];rw[hw] at hdn⊢;exact⟨trivial,rfl,rfl,hdn⟩
theorem RW {R D L G:Int}{gr:Bool}{n:Nat}{e:Int}(h0:n≠0)(hh:dA R D L G gr n e=true):cP R D L gr n e=max L (aT R D (e+(bitLen n:Int)-1)):=by
 have hs:L≤cP R D L gr n e:=by
  unfold dA at hh
  rcases of_decide_eq_true hh with h|h
  ·exact absurd h h0
  ·exact h.1
 have he:(bitLen n:Int)-1+e=e+(bitLen n:Int)-1:=by omega
 unfold cP at hs⊢;rw[he] at hs⊢
 by_cases hc:(decide (aT R D (e+(bitLen n:Int)-1)<L)&&gr)=true
 ·rw[if_pos hc]
  have:=of_decide_eq_true (Bool.and_eq_true_iff.1 hc).1;rw[Int.max_eq_left (by omega)]
 ·rw[if_neg hc] at hs⊢
  rw[Int.max_eq_right hs]
theorem sN (v:Value)(t:ak)(w:World)(hv:Rv w v t)(hL:(Dg.dg 65536 t.n).length≤100000)(h1: -1000000≤t.e)(h2:t.e≤1000000):
  yC 89 #[v] w (cG w (shN t.n t.e)):=by
 obtain⟨s0,rfl,hr⟩:=hv;have HU:Hid (¬t.e<0→ ∀w1,yB w w1→yC 106 #[s0,yi t.e] w1 (cG w1 (shN t.n t.e))):=fun h w1 b=>by
  unfold shN;rw[if_neg h];obtain⟨m,hm⟩: ∃m:Nat,t.e=(m:Int):=⟨t.e.toNat,by omega⟩;rw[hm,Int.toNat_natCast];have:=kD s0 _ m w1 (hr.l b) (Dg.small_dg _ _ (by omega)) (by omega) (by omega)
  rwa [Dg.vl_dg _ _ (by omega)] at this
 have HD:Hid (t.e<0→ ∀w1,yB w w1→yC 76 #[s0,yi (-t.e)] w1 (cG w1 (shN t.n t.e))):=fun h w1 b=>by
  unfold shN;rw[if_pos h];obtain⟨m,hm⟩: ∃m:Nat,-t.e=(m:Int):=⟨(-t.e).toNat,by omega⟩;rw[hm,Int.toNat_natCast];have:=Ft s0 _ m (m/16) (m % 16) (2^ (m % 16)) (2^ (16-m % 16)) w1 (hr.l b) (Dg.small_dg _ _ (by omega)) (by omega) (by omega) (by omega) (by omega) rfl rfl
  rwa [Dg.vl_dg _ _ (by omega)] at this
 obtain⟨ao,ca,rfl⟩:=hr.shape;obtain⟨ts,n,e⟩:=t;simp only at HU HD h1 h2⊢;obtain⟨R,hR⟩: ∃R,shN n e=R:=⟨_,rfl⟩;rw[hR] at HU HD⊢;obtain⟨m,hm⟩: ∃m,(Dg.dg 65536 n).length=m:=⟨_,rfl⟩;rw[hm] at HU HD⊢;have bA:=af w (.cells (ydA ts (.slice ao m ca) e) 47);clear hr hL hR hm
 by_cases h:e<0
 ·have h3: ¬0≤e:=by omega
  go_enter func89,ntmps89
  go_wp2_with fail
  refine(HD.out h _ bA).mono ?_;rintro z w1 ⟨v1,rfl,r1,b1⟩;have b01:=aa bA b1
  go_wp2
  go_ret
  exact⟨_,rfl,r1,b01⟩
 ·have h3:0≤e:=by omega
  go_enter func89,ntmps89
  go_wp2_with fail
  refine(HU.out h _ bA).mono ?_;rintro z w1 ⟨v1,rfl,r1,b1⟩;have b01:=aa bA b1
  go_wp2
  go_ret
  exact⟨_,rfl,r1,b01⟩
theorem sU (k:Nat)(hk:1≤k∧k≤8)(w:World):yC 14 #[yi k] w (yR w (.tuple #[yhV (szN k) (exN k) (frN k:Int) (rdN k) (dgN k) (lsI k) (gsI k) (decide (k≤3)) (fmN k:Int),.bool true])):=by
 have h:=qU k hk w
 rcases bO hk with rfl|rfl|rfl|rfl|rfl|rfl|rfl|rfl
 all_goals exact h
theorem vJ (m:Nat)(hm:m≤200)(w:World):yC 50 #[yi m] w (cG w (2^m)):=
 pf m (m/16) (m % 16) w (by omega) (Nat.mod_lt _ (by omega)) (by omega)
def rfK (k:Nat)(n:Nat)(e:Int):Int:=max (lsI k) (aT (rdN k) (dgN k) (e+(bitLen n:Int)-1))
theorem vK (v:Value)(a:Nat)(w:World)(h:Rd w .i64 v (Dg.dg 65536 a))(hl:(Dg.dg 65536 a).length≤2000000):yC 86 #[v] w (yR w (yi (bitLen a:Int))):=by
 have:=kF _ _ w h (Dg.small_dg _ _ (by omega)) (Dg.norm_dg _ _ (by omega)) (by omega);rw[Dg.vl_dg _ _ (by omega)] at this;refine this.mono ?_;rintro z w' ⟨rfl,rfl⟩;exact⟨rfl,Below.refl _ _⟩
theorem Sx {d j:Nat}(h:bitLen d=j+1):2^j≤d:=by
 rcases Nat.lt_or_ge d (2^j) with c|c
 ·have:=bF d j c
  omega
 ·exact c
theorem mV (k:Nat)(hk:1≤k∧k≤8)(c:Int)(g ts:Bool)(so:Option Addr)(tn sc:Nat)(te:Int)(E F:Nat)(ng:Bool)(K:Int)(d:Nat)(w:World)(hE:E<65536)(hF:F<340282366920938463463374607431768211456)(hd:d<340282366920938463463374607431768211456)
  (HN:c=2→Rd w .i64 (yS so tn sc) (Dg.dg 65536 tn)∧(Dg.dg 65536 tn).length≤20000∧ -79000≤te∧te≤200000∧K=rfK k tn te∧d=shN tn (te-(ai (rdN k):Int)*K)∧K-lsI k<65536)
  (HC:(c=1∧E=0∧F=0∧ng=g)∨(c=5∧E=0∧F=0∧ng=true)∨(c=3∧(k:Int)=3∧E+1=2^exN k∧F=2^63∧ng=g)∨(c=3∧(k:Int)≠3∧E+1=2^exN k∧F=0∧ng=g)∨(c=4∧(k:Int)=3∧E+1=2^exN k∧F=2^63+2^62∧ng=g)∨(c=4∧(k:Int)≠3∧E+1=2^exN k∧F=2^ (frN k-1)∧ng=g)∨(c=2∧ng=g∧(((fmN k:Int)=2∧E=(K-lsI k).toNat∧F=d)∨((fmN k:Int)≠2∧(bitLen d:Int)≠(dgN k:Int)∧E=(K-lsI k).toNat∧F=d)∨((fmN k:Int)≠2∧(bitLen d:Int)=(dgN k:Int)∧(k:Int)=3∧E=(K-lsI k).toNat+1∧F=d)∨((fmN k:Int)≠2∧(bitLen d:Int)=(dgN k:Int)∧(k:Int)≠3∧E=(K-lsI k).toNat+1∧F=d-2^ (dgN k-1))))):
  yC 43 #[yi k,yoV c g ts (yS so tn sc) te] w (yR w (.string (cF (kU k ng E F)))):=by
 obtain⟨s1,s2,s3,s4,-,s7⟩:=fZ hk;obtain⟨f1,f2,f3,f4,f5,f6,f7,f8,f9,f10,f11,-⟩:=eR hk;have hdl:=Dg.dg_len_le 65536 d 8 (by omega) hd;have hw0: ¬((ai (rdN k):Nat):Int)=0:=by omega
 refine Rx k (szN k) (exN k) (frN k) (8*szN k) (rdN k) (dgN k) (lsI k) (gsI k) (fmN k:Int) (ai (rdN k):Int) (decide (k≤3)) c g ts so tn sc te E F ng (cF (kU k ng E F)) (2^63) (2^62) (2^63+2^62) (2^ (frN k-1)) (2^ (dgN k-1)) (bitLen tn:Int) K (aT (rdN k) (dgN k) (te+(bitLen tn:Int)-1)) ((te+(bitLen tn:Int)-1+80000).tdiv (ai (rdN k):Int)) ((80000:Int).tdiv (ai (rdN k):Int)) (bitLen d:Int) d (K-lsI k).toNat w
  s2 f1 s4 f2 s1 hE (by omega) (by omega) (by simpa using hw0) hw0 ?_ (fun w1=>sU k hk w1) ?_ (fun w1=>vJ 63 (by omega) w1) (fun w1=>vJ 62 (by omega) w1) ?_ ?_ ?_ ?_ ?_ (fun v w1 h=>vK v d w1 h (by omega)) ?_ (fun w1=>Bj E w1 hE) (fun v w1 h=>Do v E (exN k) w1 h (by omega) (by omega) f1) (fun v w1 h=>Do v F (frN k) w1 h hF (by omega) f2) ?_ HC
 ·intro h2
  obtain⟨hr,hl,e1,e2,hK,-,hKL⟩:=HN h2;have hbl:bitLen tn≤16*20000:=BE hl;have hsk:=Gh (rdN k) (dgN k) te (bitLen tn) (by omega);have q1:=Int.natAbs_tdiv_le_natAbs (te+(bitLen tn:Int)-1+80000) (ai (rdN k):Int);have q2:=Int.natAbs_tdiv_le_natAbs (80000:Int) (ai (rdN k):Int);have hKK:K=max (lsI k) (aT (rdN k) (dgN k) (te+(bitLen tn:Int)-1)):=hK;have hK1:lsI k≤K:=by rw[hKK];exact Int.le_max_left _ _
  have hwK: -100000≤(ai (rdN k):Int)*K∧(ai (rdN k):Int)*K≤500000:=by
   rcases(show ai (rdN k)=1∨ai (rdN k)=4 from by unfold ai;split<;>omega) with h|h<;>rw[h]<;>omega
  refine⟨IntWalk.i64_in _ ⟨by omega,by omega⟩,IntWalk.i64_in _ ⟨by omega,by omega⟩,IntWalk.i64_in _ ⟨by omega,by omega⟩,rfl,rfl,IntWalk.i64_in _ ⟨by omega,by omega⟩,IntWalk.i64_in _ ⟨by omega,by omega⟩,IntWalk.i64_in _ ⟨by omega,by omega⟩,IntWalk.i64_in _ ⟨by omega,by omega⟩, ?_,hKK.symm,IntWalk.i64_in _ ⟨by omega,by omega⟩,IntWalk.i64_in _ ⟨by omega,by omega⟩, ?_,by omega⟩
  ·rw[hsk]
   exact IntWalk.i64_in _ ⟨by omega,by omega⟩
  ·rw[Int.toNat_of_nonneg (by omega)]
   exact IntWalk.i64_in _ ⟨by omega,by omega⟩
 ·intro w1
  have:=eG (rdN k) (dgN k) (lsI k) (gsI k) (decide (k≤3)) w1
  rwa [zr] at this
 ·intro v u w1 h1 h2
  have:=ew v u _ _ w1 h1 h2 (Dg.small_dg _ _ (by omega)) (Dg.small_dg _ _ (by omega)) (Dg.norm_dg _ _ (by omega)) (Dg.norm_dg _ _ (by omega)) (Nat.le_trans (Dg.dg_len_le 65536 (2^63) 8 (by omega) (by decide)) (by omega)) (Nat.le_trans (Dg.dg_len_le 65536 (2^62) 8 (by omega) (by decide)) (by omega))
  rwa [Dg.vl_dg _ _ (by omega),Dg.vl_dg _ _ (by omega)] at this
 ·intro w1
  rw[show(frN k:Int)-1=((frN k-1:Nat):Int) from by omega]
  exact vJ (frN k-1) (by omega) w1
 ·intro w1
  rw[show(dgN k)-1=((dgN k-1:Nat):Int) from by omega]
  exact vJ (dgN k-1) (by omega) w1
 ·intro h2 w1 b1
  obtain⟨hr,hl,-⟩:=HN h2;exact vK _ tn w1 (hr.l b1) (by omega)
 ·intro h2 w1 b1
  obtain⟨hr,hl,e1,e2,hK,hdd,hKL⟩:=HN h2;have hK1:lsI k≤K:=by rw[hK];exact Int.le_max_left _ _
  have hwK: -100000≤(ai (rdN k):Int)*K∧(ai (rdN k):Int)*K≤500000:=by
   rcases(show ai (rdN k)=1∨ai (rdN k)=4 from by unfold ai;split<;>omega) with h|h<;>rw[h]<;>omega
  have:=sN _ ⟨false,tn,te-(ai (rdN k):Int)*K⟩ w1 ⟨_,rfl,hr.l b1⟩ (by show(Dg.dg 65536 tn).length≤100000;omega) (by show-1000000≤te-(ai (rdN k):Int)*K;omega) (by show te-(ai (rdN k):Int)*K≤1000000;omega)
  rw[hdd];exact this
 ·intro hlen v u w1 h1 h2
  have hle:2^ (dgN k-1)≤d:=Sx (by omega);have:=kI v u _ _ w1 h1 h2 (Dg.small_dg _ _ (by omega)) (Dg.small_dg _ _ (by omega)) (by omega) (IZ hle) (by rw[Dg.vl_dg _ _ (by omega),Dg.vl_dg _ _ (by omega)];exact hle)
  rwa [Dg.vl_dg _ _ (by omega),Dg.vl_dg _ _ (by omega)] at this
 ·intro gg cap w1 hcell
  have:=G8 k hk gg 0 cap (Eb (exN k) (frN k) ng E F) w1 (fun i hi=>by
   rw[Nat.zero_add,hcell i hi,acq _ _ _ _ _ _ (by omega)])
  rwa [←xP hk] at this
theorem Bt (k m:Nat)(hk:1≤k∧k≤8)(hm:m=1∨m=3∨m=4∨m=5)(hs:iR k m=true)(g ts:Bool)(so:Option Addr)(tn sc:Nat)(te:Int)(w:World):
  yC 43 #[yi k,yoV m g ts (yS so tn sc) te] w (yR w (.string (cF (kU k (pI k m||g) (pg k m) (lS k m))))):=by
 refine mV k hk m g ts so tn sc te (pg k m) (lS k m) (pI k m||g) 0 0 w (Fw m hk) (Nat.lt_trans (Fx m hk) (by decide)) (by decide) (fun h=>by omega) ?_
 rcases hm with rfl|rfl|rfl|rfl
 ·exact .inl ⟨rfl,if_neg (fun h=>by omega),by unfold lS;simp,rfl⟩
 ·refine .inr (.inr ?_)
  have h3:k≤3:=by simpa[iR] using hs
  rcases(show k=1∨k=2∨k=3 from by omega) with rfl|rfl|rfl
  ·exact .inr (.inl ⟨rfl,by decide,by decide,by decide,rfl⟩)
  ·exact .inr (.inl ⟨rfl,by decide,by decide,by decide,rfl⟩)
  ·exact .inl ⟨rfl,by decide,by decide,by decide,rfl⟩
 ·refine .inr (.inr (.inr (.inr ?_)))
  have h3:k≤3:=by simpa[iR] using hs
  rcases(show k=1∨k=2∨k=3 from by omega) with rfl|rfl|rfl
  ·exact .inr (.inl ⟨rfl,by decide,by decide,by decide,rfl⟩)
  ·exact .inr (.inl ⟨rfl,by decide,by decide,by decide,rfl⟩)
  ·exact .inl ⟨rfl,by decide,by decide,by decide,rfl⟩
 ·have h6:6≤k:=by simpa[iR] using hs
  refine .inr (.inl ⟨rfl,if_neg (fun h=>by omega), ?_, ?_⟩)
  ·unfold lS
   rw[if_neg (by omega)]
  ·simp[pI,h6]
theorem Ni {d j:Nat}(h:d<2^ (j+1)):d&&& 2^j≠0↔bitLen d=j+1:=by
 have hb:=bF d (j+1) h;rw[SK];have hp:0<2^j:=Nat.pow_pos (by omega)
 by_cases hc:2^j≤d
 ·have h1:bitLen d=j+1:=by
   have:=(pP d j).1;have h2: ¬bitLen d<j+1:=fun c=>this c hc
   omega
  have ht:d.testBit j=true:=by
   rw[Nat.testBit_eq_decide_div_mod_eq];have:d/2^j=1:=by
    rw[Nat.pow_succ] at h;have h3:1≤d/2^j:=(Nat.le_div_iff_mul_le hp).2 (by omega);have h4:d/2^j<2:=(Nat.div_lt_iff_lt_mul hp).2 (by omega);omega
   rw[this];rfl
  rw[if_pos ht];exact⟨fun _=>h1,fun _=>by omega⟩
 ·have h1:bitLen d<j+1:=(pP d j).2 hc
  have ht:d.testBit j=false:=by
   rw[Nat.testBit_eq_decide_div_mod_eq,Nat.div_eq_of_lt (by omega)];rfl
  rw[if_neg (by rw[ht];simp)];exact⟨fun c=>absurd rfl c,fun c=>by omega⟩
theorem Bu (k:Nat)(hk:1≤k∧k≤8)(g s ts:Bool)(so:Option Addr)(tn sc:Nat)(te:Int)(w:World)(hr:Rd w .i64 (yS so tn sc) (Dg.dg 65536 tn))(hl:(Dg.dg 65536 tn).length≤20000)(e1: -79000≤te)(e2:te≤200000)(h0:tn≠0)
  (hh:dA (rdN k) (dgN k) (lsI k) (gsI k) (decide (k≤3)) tn te=true):
  yC 43 #[yi k,yoV 2 g ts (yS so tn sc) te] w (yR w (.string (cF (kU k g (heE (rdN k) (lsI k) (gW k) (plT k s tn te)) (plT k s tn te).d)))):=by
 obtain⟨f1,f2,f3,f4,f5,f6,f7,f8,f9,f10,f11,hgc⟩:=eR hk;obtain⟨-,hpd,hpp,hne⟩:=oj (s:=s) (way:=3) (by omega) f7 h0 hh;have hK:cP (rdN k) (dgN k) (lsI k) (decide (k≤3)) tn te=rfK k tn te:=RW h0 hh;obtain⟨ho,hu,-⟩:=mC (s:=s) (way:=3) (by omega) f7 h0 hh;have hsp:=(nW (by omega) f7 h0 (by omega) ho hu).resolve_left (fun c=>hne (by rw[←hpd];exact c.1))
 have hp:(plT k s tn te).p=rfK k tn te:=by rw[←hK];exact hpp
 have hdd:(plT k s tn te).d=shN tn (te-(ai (rdN k):Int)*rfK k tn te):=by rw[←hK];exact hpd
 obtain⟨-,hp1,hp2,hdlt,-⟩:=hsp;change lsI k≤(plT k s tn te).p at hp1;change(plT k s tn te).p≤gsI k at hp2;change(plT k s tn te).d<_ at hdlt;rw[hp] at hp1 hp2;have hd64:(plT k s tn te).d<2^64:=Nat.lt_of_lt_of_le hdlt (Nat.pow_le_pow_right (by omega) (by rw[Int.toNat_natCast];exact f9));unfold heE;rw[hp];generalize plT k s tn te=pt at*;generalize hKK:rfK k tn te=K at*;have HN:(2:Int)=2→Rd w .i64 (yS so tn sc) (Dg.dg 65536 tn)∧(Dg.dg 65536 tn).length≤20000∧ -79000≤te∧te≤200000∧K=rfK k tn te∧pt.d=shN tn (te-(ai (rdN k):Int)*K)∧K-lsI k<65536:=fun _=>⟨hr,hl,e1,e2,hKK.symm,hdd,by omega⟩
 have hdb:pt.d<340282366920938463463374607431768211456:=Nat.lt_trans hd64 (by decide)
 by_cases hR:(rdN k:Int)=2
 ·have hfm:(fmN k:Int)≠2:=by
   rcases bO hk with rfl|rfl|rfl|rfl|rfl|rfl|rfl|rfl<;>revert hR<;>decide
  have hw1:ai (rdN k)=1:=by rw[hR];rfl
  rw[hw1,Nat.one_mul,Int.toNat_natCast] at hdlt;have hdj:dgN k-1+1=dgN k:=by omega
  have hal:=Ni (d:=pt.d) (j:=dgN k-1) (by rw[hdj];exact hdlt);rw[hdj] at hal
  by_cases hb:bitLen pt.d=dgN k
  ·rw[if_pos ⟨hR,hal.2 hb⟩]
   by_cases h3:k=3
   ·exact mV k hk 2 g ts so tn sc te _ _ g K pt.d w (by omega) hdb hdb HN (.inr (.inr (.inr (.inr (.inr (.inr ⟨rfl,rfl,.inr (.inr (.inl ⟨hfm,by omega,by omega,rfl,rfl⟩))⟩))))))
   ·have hfr:dgN k-1=frN k:=by
     rcases bO hk with rfl|rfl|rfl|rfl|rfl|rfl|rfl|rfl<;>revert hR h3<;>decide
    have hle:2^frN k≤pt.d:=by rw[←hfr];exact Sx (by omega)
    rw[←Wg hk g _ pt.d hle];exact mV k hk 2 g ts so tn sc te _ _ g K pt.d w (by omega) (Nat.lt_of_le_of_lt (Nat.sub_le _ _) hdb) hdb HN (.inr (.inr (.inr (.inr (.inr (.inr ⟨rfl,rfl,.inr (.inr (.inr ⟨hfm,by omega,by omega,rfl,by rw[hfr]⟩))⟩))))))
  ·rw[if_neg (fun c=>hb (hal.1 c.2)),Nat.add_zero]
   exact mV k hk 2 g ts so tn sc te _ _ g K pt.d w (by omega) hdb hdb HN (.inr (.inr (.inr (.inr (.inr (.inr ⟨rfl,rfl,.inr (.inl ⟨hfm,by omega,rfl,rfl⟩)⟩))))))
 ·have hfm:(fmN k:Int)=2:=by
   rcases bO hk with rfl|rfl|rfl|rfl|rfl|rfl|rfl|rfl<;>revert hR<;>decide
  rw[if_neg (fun c=>hR c.1),Nat.add_zero]
  exact mV k hk 2 g ts so tn sc te _ _ g K pt.d w (by omega) hdb hdb HN (.inr (.inr (.inr (.inr (.inr (.inr ⟨rfl,rfl,.inl ⟨hfm,rfl,rfl⟩⟩))))))
theorem ME {k:Nat}(hk:1≤k∧k≤8)(zs:List Nat)(hl:zs.length=szN k):jT k (jT k zs)=zs:=by
 apply List.ext_getElem (by rw[nM,nM]);intro p hp1 hp2;have e1:(jT k (jT k zs)).getD p 0=(jT k (jT k zs))[p]:=by simp only[List.getD_eq_getElem?_getD,List.getElem?_eq_getElem hp1,Option.getD_some]
 have e2:zs.getD p 0=zs[p]:=by simp only[List.getD_eq_getElem?_getD,List.getElem?_eq_getElem hp2,Option.getD_some]
 have hp:p<szN k:=by omega
 rw[←e1,←e2,Kh k _ p (by rw[nM];exact hl) (by rw[nM];exact hp2),Kh k zs _ hl (by rw[hl];exact Co hk hp),xU hk hp]
theorem Hm (zs:List Nat)(hs:Dg.Small 256 zs):jr (cF zs)=zs:=by
 unfold jr cF;apply List.ext_getElem (by simp);intro p hp1 hp2;have h:=hs p;rw[List.getD_eq_getElem?_getD,List.getElem?_eq_getElem hp2,Option.getD_some] at h;simp;exact h
theorem MF (bf:Nat→Bool): ∀n r,r<n→jY bf n/2^ (n-1-r) % 2=if bf r then 1 else 0
 |0,_,h=>absurd h (Nat.not_lt_zero _)
 |n+1,r,h=>by
  rw[jY]
  by_cases e:r=n
  ·subst e
   rw[show r+1-1-r=0 from by omega,Nat.pow_zero,Nat.div_one]
   split<;>omega
  ·have ih:=MF bf n r (by omega)
   rw[show n+1-1-r=(n-1-r)+1 from by omega,Nat.pow_succ,Nat.mul_comm (2^ (n-1-r)) 2,←Nat.div_div_eq_div_mul]
   rw[show(jY bf n*2+if bf n=true then 1 else 0)/2=jY bf n from by split<;>omega]
   exact ih
theorem XS (bf:Nat→Bool)(n i:Nat)(h:i<8*n):fU (byL bf n) i=if bf i then 1 else 0:=by
 unfold fU;rw[JB bf n _ (by omega)];have:=MF (fun j=>bf (8*(i/8)+j)) 8 (i % 8) (by omega)
 rw[show 8-1-i % 8=7-i % 8 from by omega,show 8*(i/8)+i % 8=i from by omega] at this
 exact this
theorem zk (bf:Nat→Bool)(m f:Nat): ∀n,f+n≤8*m→eH (byL bf m) f n=jY (fun j=>bf (f+j)) n
 |0,_=>rfl
 |n+1,h=>by
  rw[eH,jY,zk bf m f n (by omega),XS bf m (f+n) (by omega)];omega
theorem Fu: ∀(n e:Nat),jY (fun j=>decide (e/2^ (n-1-j) % 2=1)) n=e % 2^n
 |0,e=>by simp[jY,Nat.mod_one]
 |n+1,e=>by
  rw[jY,nz (g:=fun j=>decide (e/2/2^ (n-1-j) % 2=1)) n (fun j hj=>by
   rw[Nat.div_div_eq_div_mul,←Nat.pow_succ',show(n-1-j).succ=n+1-1-j from by omega]),Fu n (e/2),show n+1-1-n=0 from by omega,Nat.pow_zero,Nat.div_one,Nat.pow_succ]
  have h1:e % (2^n*2)=e/2 % 2^n*2+e % 2:=by
   rw[Nat.mul_comm (2^n) 2,Nat.mod_mul];omega
  rw[h1]
  rcases(show e % 2=0∨e % 2=1 by omega) with h|h<;>rw[h]<;>rfl
theorem Uh (bf:Nat→Bool)(n:Nat):Dg.Small 256 (byL bf n):=by
 intro i
 by_cases h:i<n
 ·rw[JB bf n i h]
  exact DZ _ 8
 ·rw[List.getD_eq_getElem?_getD,List.getElem?_eq_none (by rw[xT];omega)]
  simp
theorem Kr {k:Nat}(hk:1≤k∧k≤8)(ng:Bool)(e f:Nat):wG k (cF (kU k ng e f))=byL (Eb (exN k) (frN k) ng e f) (szN k):=by
 unfold wG;rw[xP hk,Hm _ (xi k _ (Uh _ _)),ME hk _ (xT _ _)]
theorem mS {k:Nat}(hk:1≤k∧k≤8)(ng:Bool)(e f:Nat):
  aZ k (cF (kU k ng e f))=ng∧aR k (cF (kU k ng e f))=e % 2^exN k∧aU k (cF (kU k ng e f))=f % 2^frN k∧(cF (kU k ng e f)).size=szN k:=by
 obtain⟨h1,h2,h3,h4,-,h7⟩:=fZ hk;unfold aZ aR aU;rw[Kr hk];refine⟨?_, ?_, ?_, ?_⟩
 ·rw[zk _ _ _ _ (by omega)]
  simp only[jY,Eb]
  cases ng<;>simp
 ·rw[zk _ _ _ _ (by omega),←Fu (exN k) e]
  refine nz _ (fun j hj=> ?_)
  unfold Eb;rw[if_neg (by omega),if_pos (show 1+j≤exN k by omega),show exN k-(1+j)=exN k-1-j from by omega]
 ·rw[zk _ _ _ _ (by omega),←Fu (frN k) f]
  refine nz _ (fun j hj=> ?_)
  unfold Eb;rw[if_neg (by omega),if_neg (show¬1+exN k+j≤exN k by omega),show exN k+frN k-(1+exN k+j)=frN k-1-j from by omega]
 ·rw[fS,Mx]
theorem JK {L:Int}{j:Nat}{t:fz}(hlt:t.d<2^ (j+1)):heE 2 L (2^j) t=(t.p-L).toNat+if 2^j≤t.d then 1 else 0:=by
 have h:=Ni hlt;have hb:=pP t.d j;have hle:=bF t.d (j+1) hlt;unfold heE
 by_cases hc:2^j≤t.d
 ·have h1: ¬bitLen t.d<j+1:=fun c=>(hb.1 c) hc
  rw[if_pos ⟨rfl,h.2 (by omega)⟩,if_pos hc]
 ·have h1:=hb.2 hc
  rw[if_neg (fun c=>by have:=h.1 c.2;omega),if_neg hc]
theorem aaP {L:Int}{ld:Nat}{t:fz}:heE 16 L ld t=(t.p-L).toNat:=by
 unfold heE;rw[if_neg (fun c=>by have:=c.1;omega),Nat.add_zero]
theorem JL {f n:Nat}(h:f<2^n):f|||2^n=f+2^n:=by
 have:=Nat.two_pow_add_eq_or_of_lt h 1;rw[Nat.mul_one] at this;rw[Nat.or_comm,←this,Nat.add_comm]
theorem aaQ {f n:Nat}(h1:2^n≤f)(h2:f<2^ (n+1)):f|||2^n=f:=by
 obtain⟨r,rfl⟩: ∃r,f=r+2^n:=⟨f-2^n,by omega⟩;have hr:r<2^n:=by rw[Nat.pow_succ] at h2;omega
 rw[←JL hr,Nat.or_assoc,Nat.or_self]
theorem LT {d n:Nat}(h1:2^n≤d)(h2:d<2^ (n+1)):d % 2^n=d-2^n:=by
 rw[Nat.pow_succ] at h2;rw[Nat.mod_eq_sub_mod h1,Nat.mod_eq_of_lt (by omega)]
theorem CQ {k:Nat}(hk:1≤k∧k≤8)(ng:Bool)(t:fz)(h1:lsI k≤t.p)(h2:t.p≤gsI k)(h0:t.d≠0)(hlt:t.d<2^ (ai (rdN k)*dgN k))(hf:2^ (ai (rdN k)*(dgN k-1))≤t.d∨(k≤3∧t.p=lsI k)):
  heE (rdN k) (lsI k) (gW k) t<2^exN k∧dh k ng (heE (rdN k) (lsI k) (gW k) t) (t.d % 2^frN k)=2∧iI k (heE (rdN k) (lsI k) (gW k) t) (t.d % 2^frN k)=t.d∧ii k (heE (rdN k) (lsI k) (gW k) t)=t.p:=by
 have hex:(k=4∨k=5)∨k=3∨(k=1∨k=2)∨(k=6∨k=7∨k=8):=by omega
 rcases hex with hx|hx|hx|hx
 ·have hR:(rdN k:Int)=16:=by rcases hx with rfl|rfl<;>rfl
  have hfr:ai (rdN k)*dgN k=frN k:=by rcases hx with rfl|rfl<;>decide
  have hrd:rdN k=16:=by rcases hx with rfl|rfl<;>rfl
  have hgl:gsI k-lsI k<128∧2^exN k=128:=by rcases hx with rfl|rfl<;>decide
  rw[hfr] at hlt;rw[hR,aaP,Nat.mod_eq_of_lt hlt];refine⟨by omega, ?_, ?_, ?_⟩
  ·unfold dh
   rw[if_neg (by omega),if_pos (by omega),if_neg h0]
  ·unfold iI
   rw[if_pos hrd]
  ·unfold ii
   rw[if_pos hrd];omega
 ·subst hx
  have hw:ai ((rdN 3:Nat):Int)=1:=rfl;rw[hw,Nat.one_mul] at hlt hf;have hlt':t.d<2^ (63+1):=hlt;have hf':2^63≤t.d∨(3≤3∧t.p=lsI 3):=hf;have hh:heE ((rdN 3:Nat):Int) (lsI 3) (gW 3) t=(t.p-lsI 3).toNat+if 2^63≤t.d then 1 else 0:=JK (L:=lsI 3) (j:=63) hlt'
  have hm:t.d % 2^frN 3=t.d:=Nat.mod_eq_of_lt hlt';have hl3:lsI 3= -16445:=rfl;have hg3:gsI 3=16320:=rfl;have he3:2^exN 3=32768:=rfl;have ho3:kp 3=32767:=rfl;rw[hh,hm]
  by_cases hc:2^63≤t.d
  ·rw[if_pos hc]
   refine⟨by omega, ?_, ?_, ?_⟩
   ·unfold dh
    rw[if_pos (by omega),if_neg (by omega),if_neg (by omega),if_neg (fun c=>by have:=c.2;omega)]
   ·unfold iI
    rw[if_neg (by decide),if_neg (by omega)];exact aaQ hc hlt'
   ·unfold ii
    rw[if_neg (by decide),if_neg (by omega)];omega
  ·have hp:=(hf'.resolve_left hc).2
   rw[if_neg hc,hp];have hz:(lsI 3-lsI 3).toNat+0=0:=by omega
   rw[hz];refine⟨by omega, ?_, ?_, ?_⟩
   ·unfold dh
    rw[if_pos (by omega),if_pos rfl,if_neg h0]
   ·unfold iI
    rw[if_neg (by decide),if_pos rfl]
   ·unfold ii
    rw[if_neg (by decide),if_pos rfl]
 ·have hR:(rdN k:Int)=2:=by rcases hx with rfl|rfl<;>rfl
  have hrd: ¬rdN k=16:=by rcases hx with rfl|rfl<;>decide
  have hw:ai (rdN k)=1:=by rw[hR];rfl
  have hfr:dgN k=frN k+1:=by rcases hx with rfl|rfl<;>decide
  have hld:gW k=2^frN k:=by rcases hx with rfl|rfl<;>rfl
  have hgl:gsI k-lsI k+1< (kp k:Int)∧2^exN k=kp k+1:=by rcases hx with rfl|rfl<;>decide
  rw[hw,Nat.one_mul,hfr] at hlt hf;rw[Nat.add_sub_cancel] at hf;rw[hR,hld,JK hlt]
  by_cases hc:2^frN k≤t.d
  ·rw[if_pos hc,LT hc hlt]
   have hr:t.d-2^frN k<2^frN k:=by rw[Nat.pow_succ] at hlt;omega
   refine⟨by omega, ?_, ?_, ?_⟩
   ·unfold dh
    rw[if_pos (by omega),if_neg (by omega),if_neg (by omega),if_neg (fun c=>by have:=c.1;omega)]
   ·unfold iI
    rw[if_neg hrd,if_neg (by omega),hld,JL hr];omega
   ·unfold ii
    rw[if_neg hrd,if_neg (by omega)];omega
  ·have hp:=(hf.resolve_left hc).2
   rw[if_neg hc,hp,Nat.mod_eq_of_lt (by omega)];have hz:(lsI k-lsI k).toNat+0=0:=by omega
   rw[hz];refine⟨by omega, ?_, ?_, ?_⟩
   ·unfold dh
    rw[if_pos (by omega),if_pos rfl,if_neg h0]
   ·unfold iI
    rw[if_neg hrd,if_pos rfl]
   ·unfold ii
    rw[if_neg hrd,if_pos rfl]
 ·have hR:(rdN k:Int)=2:=by rcases hx with rfl|rfl|rfl<;>rfl
  have hrd: ¬rdN k=16:=by rcases hx with rfl|rfl|rfl<;>decide
  have hw:ai (rdN k)=1:=by rw[hR];rfl
  have hfr:dgN k=frN k+1:=by rcases hx with rfl|rfl|rfl<;>decide
  have hld:gW k=2^frN k:=by rcases hx with rfl|rfl|rfl<;>rfl
  have hgl:gsI k-lsI k+1< (2^exN k:Nat):=by rcases hx with rfl|rfl|rfl<;>decide
  rw[hw,Nat.one_mul,hfr] at hlt hf;rw[Nat.add_sub_cancel] at hf;have hc:2^frN k≤t.d:=hf.resolve_right (fun c=>by have:=c.1;omega)
  rw[hR,hld,JK hlt,if_pos hc,LT hc hlt];have hr:t.d-2^frN k<2^frN k:=by rw[Nat.pow_succ] at hlt;omega
  refine⟨by omega, ?_, ?_, ?_⟩
  ·unfold dh
   rw[if_neg (by omega),if_neg (by omega),if_neg (by omega)]
  ·unfold iI
   rw[if_neg hrd,if_neg (by omega),hld,JL hr];omega
  ·unfold ii
   rw[if_neg hrd,if_neg (by omega)];omega
theorem abR (n:Int)(R sz ex:Nat)(D L G fam:Int)(gr:Bool)(F:Nat)(ng:Bool)(e f:Nat)(c:Int)(s:ByteArray)(w:World)
  (HR:yJ 63 #[yi n,.string s] (.tuple #[ylV R D L G gr sz ex fam F,yfV ng e f,yi 0]))
  (HC:yJ 117 #[ylV R D L G gr sz ex fam F,yfV ng e f] (yi c)):
  yC 62 #[yi n,.string s] w (yR w (.tuple #[yi c,.bool ng,yi 0])):=by
 have hsf:=cD;have HR':Hid _:=HR;have HC':Hid _:=HC;clear HR HC
 go_enter func62,ntmps62
 go_wp2_with fail
 refine(HR'.out _).mono ?_;rintro z w1 ⟨rfl,b1⟩;have bl:=af w1 (.cells (ylA R D L G gr sz ex fam F) 124);have bf:=af (w1.alloc (.cells (ylA R D L G gr sz ex fam F) 124)) (.cells (yfA ng e f) 127);have l0:=((ah w1 (ylL R D L G gr sz ex fam F) 124).l bf).drew;have m0:=(ah (w1.alloc (.cells (ylA R D L G gr sz ex fam F) 124)) (yfL ng e f) 127).drew;rw[World.size_alloc] at m0;have b0:=(aa (aa b1 bl) bf).drew;obtain⟨x0,x1,x2,x3,x4,x5,x6,x7,x8⟩:=l0.cs9;obtain⟨u0,u1,u2⟩:=m0.cs3
 go_wp2_with fail
 go_region_held3 (fun wq=>(wq.cell? ⟨w1.heap.size,0,none⟩=some (yi R)∧wq.cell? ⟨w1.heap.size,1,none⟩=some (yi D)∧wq.cell? ⟨w1.heap.size,2,none⟩=some (yi L)∧wq.cell? ⟨w1.heap.size,3,none⟩=some (yi G)∧wq.cell? ⟨w1.heap.size,4,none⟩=some (.bool gr)∧wq.cell? ⟨w1.heap.size,5,none⟩=some (yi sz)∧wq.cell? ⟨w1.heap.size,6,none⟩=some (yi ex)∧wq.cell? ⟨w1.heap.size,7,none⟩=some (yi fam)∧wq.cell? ⟨w1.heap.size,8,none⟩=some (.func (.func F) #[] #[]))∧(wq.cell? ⟨w1.heap.size+1,0,none⟩=some (.bool ng)∧wq.cell? ⟨w1.heap.size+1,1,none⟩=some (yi e)∧wq.cell? ⟨w1.heap.size+1,2,none⟩=some (.int .u64 f))) (go_keep) (first
  | (go_at_call 117;refine(HC'.out _).mono ?_;rintro z w2 ⟨rfl,b2⟩;have l2:=l0.l b2;have m2:=m0.l b2;have b02:=aa b0 b2;obtain⟨y0,y1,y2,y3,y4,y5,y6,y7,y8⟩:=l2.cs9;obtain⟨v0,v1,v2⟩:=m2.cs3))
 all_goals go_wp2
 all_goals go_ret3
 all_goals exact⟨rfl,b02⟩
theorem Vk (n:Int)(er:Int)(her:er≠0)(s:ByteArray)(w:World)
  (HR:yJ 63 #[yi n,.string s] (.tuple #[yzV 0 0 0 0 false 0 0 0,yfV false 0 0,yi er])):
  yC 62 #[yi n,.string s] w (yR w (.tuple #[yi 0,.bool false,yi er])):=by
 have hsn:=gn;have HR':Hid _:=HR;have he:(er==0)=false:=by simpa using her
 clear HR her
 go_enter func62,ntmps62
 go_wp2_with fail
 refine(HR'.out _).mono ?_;rintro z w1 ⟨rfl,b1⟩;have bl:=af w1 (.cells (yzA 0 0 0 0 false 0 0 0) 124);have bf:=af (w1.alloc (.cells (yzA 0 0 0 0 false 0 0 0) 124)) (.cells (yfA false 0 0) 127);have b0:=aa (aa b1 bl) bf
 go_wp2
 go_ret3
 exact⟨rfl,b0⟩
def Gi (n:Int)(s:ByteArray):Bool:=if dF n s=0 then aZ n.toNat s else false
theorem Jb n (s:ByteArray)(w:World):yC 62 #[yi n,.string s] w (yR w (.tuple #[yi ((bM n s:Nat):Int),.bool (Gi n s),yi (dF n s)])):=by
 unfold bM Gi
 by_cases h:dF n s=0
 ·rw[if_pos h,if_pos h]
  have hf:dK n≠0:=fun hf=>by
   unfold dF at h;rw[if_pos hf] at h;omega
  obtain⟨h1,h2,h3⟩:=fF hf;have HR:=fun w1=>uM n s w1 h
  have HC:=fun w1=>Gf n.toNat ⟨h1,h2⟩ (aZ n.toNat s) (aR n.toNat s) (aU n.toNat s) w1 (vW ⟨h1,h2⟩ s)
  rw[h];generalize n.toNat=k at*;generalize dh k (aZ k s) (aR k s) (aU k s)=c at*;generalize aZ k s=ng at*;generalize aR k s=e at*;generalize aU k s=f at*
  rcases bO ⟨h1,h2⟩ with rfl|rfl|rfl|rfl|rfl|rfl|rfl|rfl
  all_goals exact abR _ _ _ _ _ _ _ _ _ _ ng e f _ s w HR HC
 ·rw[if_neg h,if_neg h]
  exact Vk n _ h s w (fun w1=>tA n s w1 h)
theorem iO (c p:Int)(g:Bool)(ao bo:Option Addr)(zs:List Nat)(ca cb:Nat)(w:World)(ha:Rd w .u32 (.slice ao zs.length ca) zs)(hb:Rd w .u32 (.slice bo zs.length cb) zs):
  yC 28 #[yvV c g (.slice ao zs.length ca) p,yvV c g (.slice bo zs.length cb) p] w (yR w (.bool true)):=by
 have b0:=aa (af w (.cells (yvA c g (.slice ao zs.length ca) p) 66)) (af _ (.cells (yvA c g (.slice bo zs.length cb) p) 66));have hs:=gM _ _ zs zs _ (ha.l b0) (hb.l b0);rw[decide_eq_true (rfl:zs=zs)] at hs;have HS:Hid (yC 36 #[.slice ao zs.length ca,.slice bo zs.length cb] ((w.alloc (.cells (yvA c g (.slice ao zs.length ca) p) 66)).alloc (.cells (yvA c g (.slice bo zs.length cb) p) 66)) fun e w'=>e= .returned (.bool true)∧Below ((w.alloc (.cells (yvA c g (.slice ao zs.length ca) p) 66)).alloc (.cells (yvA c g (.slice bo zs.length cb) p) 66)).heap.size ((w.alloc (.cells (yvA c g (.slice ao zs.length ca) p) 66)).alloc (.cells (yvA c g (.slice bo zs.length cb) p) 66)) w'):=hs
 clear hs ha hb
 cases g
 all_goals go_enter func28,ntmps28
 all_goals go_wp2_with fail
 all_goals (refine Calls.mono HS.out ?_;rintro z w1 ⟨rfl,b1⟩;go_wp2;go_ret;exact⟨rfl,aa b0 b1⟩)
theorem Gm {k:Nat}(hk:1≤k∧k≤8): -16445≤(ai (rdN k):Int)*lsI k∧(ai (rdN k):Int)*(gsI k+(dgN k:Int))≤16384:=by
 rcases bO hk with rfl|rfl|rfl|rfl|rfl|rfl|rfl|rfl<;>decide
theorem mY {k:Nat}(hk:1≤k∧k≤8){ng:Bool}{xs:List Nat}{p:Int}(hc:chk xs=0)(hx:xs.length≠0)(hp: ¬(p< -20000∨20000<p)):
  enE k ng xs p=if inR (rdN k) (dgN k) (lsI k) (gsI k) (decide (k≤3)) (bare ⟨ng,Dg.vl 4294967296 xs,(ai (rdN k):Int)*p⟩).n (bare ⟨ng,Dg.vl 4294967296 xs,(ai (rdN k):Int)*p⟩).e=true then 0 else 4:=by
 obtain⟨f1,f2,f3,f4,f5,f6,f7,f8,f9,f10,f11,hgc⟩:=eR hk;obtain⟨g1,g2⟩:=Gm hk;have hvn:Dg.vl 4294967296 xs≠0:=fun h=>by
  obtain⟨n1,-⟩:=aF hc;exact Dg.vl_ne_zero 4294967296 (by omega) xs (by intro e;subst e;simp at hx) n1 h
 have hpl:ix xs p (rdN k) (dgN k) (lsI k) (gsI k)=0:=by
  unfold ix;rw[if_pos hc,if_pos hgc,if_neg];unfold eJ;simp;omega
 have hen:enN k ng xs p=bU ⟨ng,Dg.vl 4294967296 xs,(ai (rdN k):Int)*p⟩:=by
  unfold enN cC;rw[if_pos hpl]
 unfold enE;rw[if_neg hp,if_neg hx,hen];have hbn:(bare ⟨ng,Dg.vl 4294967296 xs,(ai (rdN k):Int)*p⟩).n≠0:=fun h=>hvn ((fI _).1 h)
 generalize htt:(⟨ng,Dg.vl 4294967296 xs,(ai (rdN k):Int)*p⟩:ak)=t at*;have hin: ∀hh: ¬1200< (Dg.dg 4294967296 (bare t).n).length,∀h2: ¬((bare t).e< -20000∨20000< (bare t).e),enH k (bare t)=inR (rdN k) (dgN k) (lsI k) (gsI k) (decide (k≤3)) (bare t).n (bare t).e:=fun hh h2=>by
  unfold enH um;have hd:aS (Dg.dg 4294967296 (bare t).n) (bare t).e=0:=by
   unfold aS;rw[if_pos (pJ (Dg.norm_dg 4294967296 (bare t).n (by omega)) (by omega)),if_neg h2]
  have hon:onC (aS (Dg.dg 4294967296 (bare t).n) (bare t).e) (bk (rdN k) (dgN k) (lsI k) (gsI k))=0:=by unfold onC;rw[if_pos hd];exact hgc
  rw[if_pos hon,Dg.vl_dg _ _ (by omega),nN _ _ f7,jK _ _ f7]
 by_cases hi:inR (rdN k) (dgN k) (lsI k) (gsI k) (decide (k≤3)) (bare t).n (bare t).e=true
 ·rw[if_pos hi]
  have hq:(ai (rdN k):Int)*lsI k≤(bare t).e∧(bare t).e+(bitLen (bare t).n:Int)≤(ai (rdN k):Int)*(gsI k+(dgN k:Int)):=by
   have:=hi;unfold inR at this
   rcases of_decide_eq_true this with h|h
   ·exact absurd h hbn
   ·exact⟨h.1,h.2.1⟩
  have hlen: ¬1200< (Dg.dg 4294967296 (bare t).n).length:=by
   have:=jq (d:=(bare t).n) (k:=bitLen (bare t).n) (L:=1200) (bitLen_spec _).1 (by omega);omega
  have h2: ¬((bare t).e< -20000∨20000< (bare t).e):=by omega
  have hsh:bU t=(bare t,0):=by unfold bU;rw[if_neg hlen,if_neg h2]
  rw[hsh,if_pos ⟨rfl,by rw[hin hlen h2];exact hi⟩]
 ·rw[if_neg hi,if_neg]
  rintro⟨h1,h3⟩;unfold bU at h1 h3
  by_cases hlen:1200< (Dg.dg 4294967296 (bare t).n).length
  ·rw[if_pos hlen] at h1
   simp at h1
  ·rw[if_neg hlen] at h1 h3
   by_cases h2:(bare t).e< -20000∨20000< (bare t).e
   ·rw[if_pos h2] at h1
    simp at h1
   ·rw[if_neg h2] at h3
    rw[hin hlen h2] at h3;exact hi h3
theorem KN {xs:List Nat}{L:Nat}(sa:Dg.Small 4294967296 xs)(h:xs.length≤L):(Dg.dg 65536 (Dg.vl 4294967296 xs)).length≤2*L:=by
 refine Dg.dg_len_le 65536 _ _ (by omega) ?_;rw[Nat.pow_mul];exact Nat.lt_of_lt_of_le (Dg.vl_lt 4294967296 xs sa) (Nat.pow_le_pow_right (by omega) h)
end Go.Proofs.YtpgijbdgljkeeaaGreatDoor
