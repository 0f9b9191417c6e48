/-
  Texts laid together: Cr9, Cr11, Eg1, Ce12, Eg2, Eg3.
-/
import Derived.Test.YtpainhklfoaniaaGreatDoorSc42
import Derived.Test.YtpainhklfoaniaaGreatDoorSc43
import Derived.Test.YtpainhklfoaniaaGreatDoorSc40
namespace Go.Proofs.YtpainhklfoaniaaGreatDoor
open Go.RowKit
def FV (k:Nat)(ng:Bool)(E FF:Nat):Int:=
 if k=3 then(if E+1=2^exN k then(if FF=2^ (dgN k-1) then 3 else 4) else if 0<E∧FF<2^ (dgN k-1) then 4 else if FF=0 then 1 else 2)
 else if k≤2 then(if E+1=2^exN k then(if FF=0 then 3 else 4) else if FF+(if 0<E then 2^ (dgN k-1) else 0)=0 then 1 else 2)
 else if k≤5 then(if FF=0 then 1 else 2)
 else(if E=0 then(if ng then 5 else 1) else 2)
def zR (k:Nat)(ng:Bool)(E FF:Nat):Bool:=
 if k=3 then(if E+1=2^exN k then(if FF=2^ (dgN k-1) then ng else false) else if 0<E∧FF<2^ (dgN k-1) then false else ng)
 else if k≤2 then(if E+1=2^exN k then(if FF=0 then ng else false) else ng)
 else if k≤5 then ng
 else(if E=0 then false else ng)
def ji (k:Nat)(ng:Bool)(E FF:Nat):ak:=
 if k=3 then(if E+1=2^exN k∨0<E∧FF<2^ (dgN k-1) then⟨false,0,0⟩ else bare ⟨ng,FF,wdI (rdN k)*(lsI k+(((E-1:Nat):Nat):Int))⟩)
 else if k≤2 then(if E+1=2^exN k then⟨false,0,0⟩ else bare ⟨ng,FF+(if 0<E then 2^ (dgN k-1) else 0),wdI (rdN k)*(lsI k+(((E-1:Nat):Nat):Int))⟩)
 else if k≤5 then bare ⟨ng,FF,wdI (rdN k)*(lsI k+(E:Int))⟩
 else(if E=0 then⟨false,0,0⟩ else bare ⟨ng,FF+2^ (dgN k-1),wdI (rdN k)*(lsI k+(E:Int)-1)⟩)
theorem YC {k:Nat}(hk:1≤k∧k≤8):1≤frN k∧dgN k-1≤63∧ -20000≤lsI k∧lsI k≤0∧1≤wdI (rdN k)∧wdI (rdN k)≤4:=by
 rcases bO hk with rfl|rfl|rfl|rfl|rfl|rfl|rfl|rfl<;>exact⟨by decide,by decide,by decide,by decide,by decide,by decide⟩
theorem KI (k:Nat)(hk:1≤k∧k≤8)(s:ByteArray)(w:World)(hs:s.size=szN k):
  yC 13 #[yi k,.string s] w (JV w (FV k (aZ k s) (aR k s) (aU k s)) (zR k (aZ k s) (aR k s) (aU k s)) (ji k (aZ k s) (aR k s) (aU k s)) (aZ k s)):=by
 obtain⟨h1,h2,h3,h4,-,h7⟩:=fZ hk;obtain⟨g1,g2,g3,g4,g5,g6⟩:=YC hk;have HF:=fun w1=>qU k hk w1
 have HB:=fun w1=>P3 k hk s w1 hs
 have hng:aZ k s=decide (fU (wG k s) 0=1):=by
  unfold aZ;rw[show eH (wG k s) 0 1=fU (wG k s) 0 from by simp[eH]]
 have hE:aR k s=eH (wG k s) 1 (exN k):=rfl;have hFF:aU k s=eH (wG k s) (1+exN k) (frN k):=rfl;generalize aZ k s=ng at*;generalize aR k s=E at*;generalize aU k s=FF at*;generalize wG k s=ts at*
 rcases bO hk with rfl|rfl|rfl|rfl|rfl|rfl|rfl|rfl
 ·unfold FV zR ji
  rw[if_neg (show¬1=3 by decide),if_pos (show 1≤2 by decide),if_neg (show¬1=3 by decide),if_pos (show 1≤2 by decide),if_neg (show¬1=3 by decide),if_pos (show 1≤2 by decide)]
  exact BQ 1 (szN 1) (exN 1) (frN 1) (dgN 1-1) 2 24 (lsI 1) 104 (wdI ((rdN 1:Nat):Int)) true s ts ng E FF w hng hE hFF h1 h2 h7 h3 h4 g1 (by decide) g2 g3 g4 g5 g6 HF HB (fun w1=>eG 2 24 (lsI 1) 104 true w1) (by decide)
 ·unfold FV zR ji
  rw[if_neg (show¬2=3 by decide),if_pos (show 2≤2 by decide),if_neg (show¬2=3 by decide),if_pos (show 2≤2 by decide),if_neg (show¬2=3 by decide),if_pos (show 2≤2 by decide)]
  exact BQ 2 (szN 2) (exN 2) (frN 2) (dgN 2-1) 2 53 (lsI 2) 971 (wdI ((rdN 2:Nat):Int)) true s ts ng E FF w hng hE hFF h1 h2 h7 h3 h4 g1 (by decide) g2 g3 g4 g5 g6 HF HB (fun w1=>eG 2 53 (lsI 2) 971 true w1) (by decide)
 ·unfold FV zR ji
  rw[if_pos (show 3=3 from rfl),if_pos (show 3=3 from rfl),if_pos (show 3=3 from rfl)]
  exact Ll (szN 3) (exN 3) (frN 3) (dgN 3-1) 2 64 (lsI 3) 16320 (wdI ((rdN 3:Nat):Int)) true s ts ng E FF w hng hE hFF h1 h2 h7 h3 h4 g1 (by decide) g2 g3 g4 g5 g6 HF HB (fun w1=>eG 2 64 (lsI 3) 16320 true w1)
 ·unfold FV zR ji
  rw[if_neg (show¬4=3 by decide),if_neg (show¬4≤2 by decide),if_pos (show 4≤5 by decide),if_neg (show¬4=3 by decide),if_neg (show¬4≤2 by decide),if_pos (show 4≤5 by decide),if_neg (show¬4=3 by decide),if_neg (show¬4≤2 by decide),if_pos (show 4≤5 by decide)]
  exact A7 4 (szN 4) (exN 4) (frN 4) (dgN 4-1) 16 6 (lsI 4) 57 (wdI ((rdN 4:Nat):Int)) false s ts ng E FF w hng hE hFF h1 h2 h7 h3 h4 g1 (by decide) g2 g3 g4 g5 g6 HF HB (fun w1=>eG 16 6 (lsI 4) 57 false w1)
 ·unfold FV zR ji
  rw[if_neg (show¬5=3 by decide),if_neg (show¬5≤2 by decide),if_pos (show 5≤5 by decide),if_neg (show¬5=3 by decide),if_neg (show¬5≤2 by decide),if_pos (show 5≤5 by decide),if_neg (show¬5=3 by decide),if_neg (show¬5≤2 by decide),if_pos (show 5≤5 by decide)]
  exact A7 5 (szN 5) (exN 5) (frN 5) (dgN 5-1) 16 14 (lsI 5) 49 (wdI ((rdN 5:Nat):Int)) false s ts ng E FF w hng hE hFF h1 h2 h7 h3 h4 g1 (by decide) g2 g3 g4 g5 g6 HF HB (fun w1=>eG 16 14 (lsI 5) 49 false w1)
 ·unfold FV zR ji
  rw[if_neg (show¬6=3 by decide),if_neg (show¬6≤2 by decide),if_neg (show¬6≤5 by decide),if_neg (show¬6=3 by decide),if_neg (show¬6≤2 by decide),if_neg (show¬6≤5 by decide),if_neg (show¬6=3 by decide),if_neg (show¬6≤2 by decide),if_neg (show¬6≤5 by decide)]
  exact qN 6 (szN 6) (exN 6) (frN 6) (dgN 6-1) 2 24 (lsI 6) 103 (wdI ((rdN 6:Nat):Int)) false s ts ng E FF w hng hE hFF h1 h2 h7 h3 h4 g1 (by decide) g2 g3 g4 g5 g6 HF HB (fun w1=>eG 2 24 (lsI 6) 103 false w1)
 ·unfold FV zR ji
  rw[if_neg (show¬7=3 by decide),if_neg (show¬7≤2 by decide),if_neg (show¬7≤5 by decide),if_neg (show¬7=3 by decide),if_neg (show¬7≤2 by decide),if_neg (show¬7≤5 by decide),if_neg (show¬7=3 by decide),if_neg (show¬7≤2 by decide),if_neg (show¬7≤5 by decide)]
  exact qN 7 (szN 7) (exN 7) (frN 7) (dgN 7-1) 2 56 (lsI 7) 71 (wdI ((rdN 7:Nat):Int)) false s ts ng E FF w hng hE hFF h1 h2 h7 h3 h4 g1 (by decide) g2 g3 g4 g5 g6 HF HB (fun w1=>eG 2 56 (lsI 7) 71 false w1)
 ·unfold FV zR ji
  rw[if_neg (show¬8=3 by decide),if_neg (show¬8≤2 by decide),if_neg (show¬8≤5 by decide),if_neg (show¬8=3 by decide),if_neg (show¬8≤2 by decide),if_neg (show¬8≤5 by decide),if_neg (show¬8=3 by decide),if_neg (show¬8≤2 by decide),if_neg (show¬8≤5 by decide)]
  exact qN 8 (szN 8) (exN 8) (frN 8) (dgN 8-1) 2 53 (lsI 8) 970 (wdI ((rdN 8:Nat):Int)) false s ts ng E FF w hng hE hFF h1 h2 h7 h3 h4 g1 (by decide) g2 g3 g4 g5 g6 HF HB (fun w1=>eG 2 53 (lsI 8) 970 false w1)
theorem YD (k:Nat)(hk:1≤k∧k≤8)(ng:Bool)(E FF:Nat):FV k ng E FF=((dh k ng E FF:Nat):Int):=by
 unfold FV dh;have ho:kp k=2^exN k-1:=rfl;have hp:0<2^exN k:=Nat.pow_pos (by omega);have hd:0<2^ (dgN k-1):=Nat.pow_pos (by omega);have h1:2≤2^exN k:=by
  have h7:=(fZ hk).2.2.2.2.2;have:2^1≤2^exN k:=Nat.pow_le_pow_right (by omega) (by omega);omega
 by_cases h3:k=3
 ·have hd3:2^ (dgN k-1)=2^63:=by rw[h3];rfl
  rw[if_pos h3,if_pos (show k≤3 by omega),ho,hd3,if_pos h3]
  generalize(2:Nat)^exN k=px at*;generalize(2:Nat)^63=p63 at*
  by_cases e0:E=0
  ·rw[if_neg (show¬E+1=px by omega),if_pos e0,if_neg (show¬(0<E∧FF<p63) by omega)]
   split<;>rfl
  ·rw[if_neg e0]
   by_cases e1:E+1=px
   ·rw[if_pos e1,if_pos (show E=px-1 by omega)]
    split<;>rfl
   ·rw[if_neg e1,if_neg (show¬E=px-1 by omega)]
    by_cases ef:FF<p63
    ·rw[if_pos (show 0<E∧FF<p63 by omega),if_pos (show k=3∧FF<p63 from⟨h3,ef⟩)]
     rfl
    ·rw[if_neg (show¬(0<E∧FF<p63) by omega),if_neg (show¬(k=3∧FF<p63) from fun h=>ef h.2),if_neg (show¬FF=0 by omega)]
     rfl
 ·rw[if_neg h3]
  by_cases h2:k≤2
  ·rw[if_pos h2,if_pos (show k≤3 by omega),ho,if_neg h3]
   generalize(2:Nat)^exN k=px at*;generalize(2:Nat)^ (dgN k-1)=pd at*
   by_cases e0:E=0
   ·rw[if_neg (show¬E+1=px by omega),if_pos e0,if_neg (show¬0<E by omega),Nat.add_zero]
    split<;>rfl
   ·rw[if_neg e0]
    by_cases e1:E+1=px
    ·rw[if_pos e1,if_pos (show E=px-1 by omega)]
     split<;>rfl
    ·rw[if_neg e1,if_neg (show¬E=px-1 by omega),if_pos (show 0<E by omega),if_neg (show¬FF+pd=0 by omega),if_neg (show¬(k=3∧FF<2^63) from fun h=>h3 h.1)]
     rfl
  ·rw[if_neg h2,if_neg (show¬k≤3 by omega)]
   by_cases h5:k≤5
   ·rw[if_pos h5,if_pos h5]
    split<;>rfl
   ·rw[if_neg h5,if_neg h5]
    split
    ·split<;>rfl
    ·rfl
theorem xu (n:Int)(s:ByteArray)(w:World):yC 11 #[yi n,.string s] w (yR w (yi (dF n s))):=by
 unfold dF
 by_cases hf:dK n=0
 ·rw[if_pos hf]
  exact T3 n s w hf
 ·rw[if_neg hf]
  obtain⟨h1,h2,h3⟩:=fF hf;obtain⟨k,rfl⟩: ∃k:Nat,n=(k:Int):=⟨n.toNat,h3.symm⟩;rw[Int.toNat_natCast] at h1 h2⊢;have HF:=fun w1=>qU k ⟨h1,h2⟩ w1
  rcases bO ⟨h1,h2⟩ with rfl|rfl|rfl|rfl|rfl|rfl|rfl|rfl
  all_goals exact acZ _ _ _ _ _ _ _ _ _ _ s w HF
theorem mW n (s:ByteArray)(w:World)(h:dF n s=0):
  yC 13 #[yi n,.string s] w (JV w ((bM n s:Nat):Int) (zR n.toNat (aZ n.toNat s) (aR n.toNat s) (aU n.toNat s)) (ji n.toNat (aZ n.toNat s) (aR n.toNat s) (aU n.toNat s)) (Gi n s)):=by
 have hf:dK n≠0:=fun hf=>by
  unfold dF at h;rw[if_pos hf] at h;omega
 have hs:s.size=szN n.toNat:=by
  unfold dF at h;rw[if_neg hf] at h
  by_cases c:s.size=szN n.toNat
  ·exact c
  ·rw[if_neg c] at h
   omega
 obtain⟨h1,h2,h3⟩:=fF hf;have:=KI n.toNat ⟨h1,h2⟩ s w hs;rw[YD _ ⟨h1,h2⟩,h3] at this;unfold bM Gi;rw[if_pos h,if_pos h];exact this
theorem FZ (r:Nat)(hr:2≤r): ∀(j n q:Nat) (p:Int),q % r≠0→r^j*q<2^n→lJ r n (r^j*q) p=(q,p+(j:Int))
 |0,n,q,p,hq,hn=>by
  rw[Nat.pow_zero,Nat.one_mul] at hn⊢
  cases n with
  |zero=>
   have:q=0:=by simpa using hn
   subst this;simp at hq
  |succ n=>
   rw[lJ,if_neg hq];simp
 |j+1,n,q,p,hq,hn=>by
  have e1:r^ (j+1)*q=r*(r^j*q):=by rw[Nat.pow_succ,Nat.mul_comm (r^j) r,Nat.mul_assoc]
  rw[e1] at hn⊢
  cases n with
  |zero=>
   exfalso
   have h0:r*(r^j*q)=0:=by simpa using hn
   have hq0:q≠0:=fun h=>hq (by rw[h];simp)
   have h1:0<r^j*q:=Nat.mul_pos (Nat.pow_pos (by omega)) (Nat.pos_of_ne_zero hq0);have h2:0<r*(r^j*q):=Nat.mul_pos (by omega) h1;omega
  |succ n=>
   rw[lJ,if_pos (Nat.mul_mod_right _ _),Nat.mul_div_cancel_left _ (by omega)];have hlt:r^j*q<2^n:=by
    have h2:2*(r^j*q)≤r*(r^j*q):=Nat.mul_le_mul_right _ hr;rw[Nat.pow_succ] at hn;omega
   rw[FZ r hr j n q (p+1) hq hlt]
   congr 1
   push_cast
   omega
theorem YZ {f n:Nat}(h:f<2^n):f|||2^n=f+2^n:=by
 rw[Nat.or_comm,nat_join n (2^n) f (Nat.mod_self _) h];omega
theorem adg {f n:Nat}(h1:2^n≤f)(h2:f<2^ (n+1)):f|||2^n=f:=by
 rw[Nat.pow_succ] at h2;have e:f=2^n||| (f-2^n):=by
  rw[nat_join n (2^n) (f-2^n) (Nat.mod_self _) (by omega)];omega
 rw[e,Nat.or_comm,←Nat.or_assoc,Nat.or_self]
theorem iq {k:Nat}(hk:1≤k∧k≤8){ng:Bool}{E F:Nat}(hE:E<2^exN k)(hF:F<2^frN k)(hc:dh k ng E F=2):ji k ng E F=bare ⟨ng,iI k E F,wdI (rdN k)*ii k E⟩:=by
 unfold ji
 by_cases h3:k=3
 ·subst h3
  rw[if_pos rfl];unfold dh at hc;rw[if_pos (show 3≤3 by omega),show kp 3=2^exN 3-1 from rfl] at hc
  have hp:2≤2^exN 3:=by decide
  have hF':F<2^64:=hF;have hlead:gW 3=2^63:=rfl;unfold iI ii;rw[if_neg (show¬rdN 3=16 by decide),if_neg (show¬rdN 3=16 by decide),hlead]
  generalize(2:Nat)^exN 3=px at*
  by_cases e0:E=0
  ·rw[if_neg (show¬(E+1=px∨0<E∧F<2^ (dgN 3-1)) by omega),if_pos e0,if_pos e0]
   subst e0;simp
  ·rw[if_neg e0] at hc
   by_cases e1:E=px-1
   ·rw[if_pos e1] at hc
    by_cases hz:F=(if 3=3 then 2^63 else 0)
    ·rw[if_pos hz] at hc
     omega
    ·rw[if_neg hz] at hc
     omega
   ·rw[if_neg e1] at hc
    have hf: ¬F<2^63:=fun hf=>by
     rw[if_pos ⟨rfl,hf⟩] at hc;omega
    rw[if_neg (show¬(E+1=px∨0<E∧F<2^ (dgN 3-1)) from fun h=>by
     rcases h with h|h
     ·omega
     ·exact hf h.2),if_neg e0,if_neg e0,adg (by omega) hF',show lsI 3+(((E-1:Nat):Nat):Int)=lsI 3+(E:Int)-1 from by omega]
 ·rw[if_neg h3]
  by_cases h2:k≤2
  ·rw[if_pos h2]
   have hfd:frN k=dgN k-1∧rdN k=2∧2≤2^exN k:=by rcases(show k=1∨k=2 by omega) with rfl|rfl<;>decide
   unfold dh at hc;rw[if_pos (show k≤3 by omega),show kp k=2^exN k-1 from rfl,if_neg h3] at hc
   rw[hfd.1] at hF;unfold iI ii;rw[if_neg (show¬rdN k=16 by omega),if_neg (show¬rdN k=16 by omega)]
   have hp:=hfd.2.2;have hL:gW k=2^ (dgN k-1):=rfl;rw[hL]
   by_cases e0:E=0
   ·rw[if_neg (show¬E+1=2^exN k by omega),if_pos e0,if_pos e0,if_neg (show¬0<E by omega)]
    subst e0;simp
   ·rw[if_neg e0] at hc
    by_cases e1:E=2^exN k-1
    ·rw[if_pos e1] at hc
     split at hc<;>omega
    ·rw[if_neg (show¬E+1=2^exN k by omega),if_neg e0,if_neg e0,if_pos (show 0<E by omega),YZ hF,show lsI k+(((E-1:Nat):Nat):Int)=lsI k+(E:Int)-1 from by omega]
  ·rw[if_neg h2]
   by_cases h5:k≤5
   ·rw[if_pos h5]
    have hr:rdN k=16:=by rcases(show k=4∨k=5 by omega) with rfl|rfl<;>rfl
    unfold iI ii;rw[if_pos hr,if_pos hr]
   ·rw[if_neg h5]
    have hfd:frN k=dgN k-1∧rdN k=2:=by rcases(show k=6∨k=7∨k=8 by omega) with rfl|rfl|rfl<;>decide
    rw[hfd.1] at hF;unfold dh at hc;rw[if_neg (show¬k≤3 by omega),if_neg h5] at hc
    have e0:E≠0:=fun e0=>by
     rw[if_pos e0] at hc
     split at hc<;>omega
    unfold iI ii;rw[if_neg (show¬rdN k=16 by omega),if_neg (show¬rdN k=16 by omega),if_neg e0,if_neg e0,if_neg e0,show gW k=2^ (dgN k-1) from rfl,YZ hF]
theorem Nu {k:Nat}(hk:1≤k∧k≤8)(ng:Bool)(E F:Nat):zR k ng E F=kt k ng E F:=by
 unfold zR kt dh;have ho:kp k=2^exN k-1:=rfl;have h1:2≤2^exN k:=by
  have h7:=(fZ hk).2.2.2.2.2;have:2^1≤2^exN k:=Nat.pow_le_pow_right (by omega) (by omega);omega
 by_cases h3:k=3
 ·have hd3:2^ (dgN k-1)=2^63:=by rw[h3];rfl
  rw[if_pos h3,if_pos (show k≤3 by omega),ho,hd3,if_pos h3]
  generalize(2:Nat)^exN k=px at*;generalize(2:Nat)^63=p63 at*
  by_cases e0:E=0
  ·rw[if_neg (show¬E+1=px by omega),if_neg (show¬(0<E∧F<p63) by omega),if_pos e0]
   split<;>simp
  ·rw[if_neg e0]
   by_cases e1:E+1=px
   ·rw[if_pos e1,if_pos (show E=px-1 by omega)]
    split<;>simp
   ·rw[if_neg e1,if_neg (show¬E=px-1 by omega)]
    by_cases ef:F<p63
    ·rw[if_pos (show 0<E∧F<p63 by omega),if_pos (show k=3∧F<p63 from⟨h3,ef⟩)]
     simp
    ·rw[if_neg (show¬(0<E∧F<p63) by omega),if_neg (show¬(k=3∧F<p63) from fun h=>ef h.2)]
     simp
 ·rw[if_neg h3]
  by_cases h2:k≤2
  ·rw[if_pos h2,if_pos (show k≤3 by omega),ho,if_neg h3]
   generalize(2:Nat)^exN k=px at*
   by_cases e0:E=0
   ·rw[if_neg (show¬E+1=px by omega),if_pos e0]
    split<;>simp
   ·rw[if_neg e0]
    by_cases e1:E+1=px
    ·rw[if_pos e1,if_pos (show E=px-1 by omega)]
     split<;>simp
    ·rw[if_neg e1,if_neg (show¬E=px-1 by omega),if_neg (show¬(k=3∧F<2^63) from fun h=>h3 h.1)]
     simp
  ·rw[if_neg h2,if_neg (show¬k≤3 by omega)]
   by_cases h5:k≤5
   ·rw[if_pos h5,if_pos h5]
    split<;>simp
   ·rw[if_neg h5,if_neg h5]
    by_cases e0:E=0
    ·rw[if_pos e0,if_pos e0]
     cases ng<;>simp
    ·rw[if_neg e0,if_neg e0]
     simp
theorem Va {k:Nat}(hk:1≤k∧k≤8){ng:Bool}{E F:Nat}(hE:E<2^exN k)(hF:F<2^frN k)(hF64:F<2^64)(hc:dh k ng E F=2)(hr:rdN k=2):
  ge k ng E F=(ji k ng E F).n∧gw k ng E F=(ji k ng E F).e:=by
 rw[iq hk hE hF hc];unfold ge gw;rw[if_pos hc,if_pos hc,hr];have h0:=jX hc;have hl:=vS hk E hF64;generalize iI k E F=D at*;generalize ii k E=P at*;obtain⟨m,hm⟩:=fO (n:=D) (by omega);have hd:=lI hm;have hs:=FZ 2 (by omega) (tz D) 64 (2*m+1) P (by omega) (by rw[←hm];exact hl);rw[←hm] at hs;rw[hs];unfold bare;rw[if_neg (by show¬D=0;omega)]
 refine⟨hd.symm, ?_⟩
 show P+(tz D:Int)=wdI ((2:Nat):Int)*P+(tz D:Int)
 rw[show wdI ((2:Nat):Int)=1 from by decide,Int.one_mul]
theorem I5 {k:Nat}(hk:1≤k∧k≤8){ng:Bool}{E F:Nat}(hE:E<2^exN k)(hF:F<2^frN k)(hF64:F<2^64)(hc:dh k ng E F=2)(hr:rdN k=16):
  4*gw k ng E F≤(ji k ng E F).e∧(ji k ng E F).e<4*gw k ng E F+4∧ge k ng E F=shN (ji k ng E F).n ((ji k ng E F).e-4*gw k ng E F):=by
 rw[iq hk hE hF hc];unfold ge gw;rw[if_pos hc,if_pos hc,hr];have h0:=jX hc;have hl:=vS hk E hF64;generalize iI k E F=D at*;generalize ii k E=P at*;obtain⟨m,hm⟩:=fO (n:=D) (by omega);have hd:=lI hm;obtain⟨a,b,hab,hb⟩: ∃a b,tz D=4*a+b∧b<4:=⟨tz D/4,tz D % 4,by omega,Nat.mod_lt _ (by omega)⟩;have e16:D=16^a*(2^b*(2*m+1)):=by
  rw[hm,hab,Nat.pow_add,Nat.pow_mul,Nat.mul_assoc]
 have hq:2^b*(2*m+1) % 16≠0:=by
  rcases(show b=0∨b=1∨b=2∨b=3 by omega) with rfl|rfl|rfl|rfl<;>omega
 have hs:=FZ 16 (by omega) a 64 (2^b*(2*m+1)) P hq (by rw[←e16];exact hl);rw[←e16] at hs;rw[hs];unfold bare;rw[if_neg (by show¬D=0;omega),show wdI ((16:Nat):Int)=4 from by decide]
 simp only;rw[hab];refine⟨by push_cast;omega,by push_cast;omega, ?_⟩;rw[show 4*P+((4*a+b:Nat):Int)-4*(P+(a:Int))=(b:Int) from by push_cast;omega]
 unfold shN;rw[if_neg (by omega),Int.toNat_natCast,←hab,hd,Nat.mul_comm]
structure EnF (w:World) (bf:Nat) (vv fl:List Value) (W:World):Prop where
 v:au W w.heap.size 77 vv
 z:au W (w.heap.size+1) 37 (yoL 0 false false yN 0)
 f:au W bf 28 fl
 b:yB w W
theorem EnF.l {w W W':World}{bf:Nat}{vv fl:List Value}(h:EnF w bf vv fl W)(b:yB W W'):EnF w bf vv fl W':=
 ⟨h.v.l b,h.z.l b,h.f.l b,aa h.b b⟩
theorem EnF.lt {w W:World}{bf:Nat}{vv fl:List Value}(h:EnF w bf vv fl W):w.heap.size+1<W.heap.size∧bf<W.heap.size:=⟨h.z.lt,h.f.lt⟩
def gI (n c:Int)(ng:Bool)(xs:List Nat)(p:Int):Int:=
 if dK n=0∨c<1∨5<c then 6 else if chk xs≠0 then chk xs else if c=2 then enE n.toNat ng xs p else qX n.toNat c.toNat xs.length ng p
def fq (n c:Int)(ng:Bool)(xs:List Nat)(p:Int):ByteArray:=
 if dK n=0∨c<1∨5<c then⟨#[]⟩ else if chk xs≠0 then⟨#[]⟩ else if c=2 then enS n.toNat ng xs p else Fv n.toNat c.toNat xs.length ng p
theorem jj (n c:Int)(ng:Bool)(ao:Option Addr)(ca:Nat)(xs:List Nat)(p:Int)(w:World)(hr:Rd w .u32 (.slice ao xs.length ca) xs)(sa:Dg.Small 4294967296 xs)(hT:Tab w):
  yC 37 #[yi n,yvV c ng (.slice ao xs.length ca) p] w (yR w (.tuple #[.string (fq n c ng xs p),yi (gI n c ng xs p)])):=by
 have HN:yH w 71 #[.slice ao xs.length ca] (yi (chk xs)):=fun w1 b=>(jC _ xs w1 (hr.l b)).mono (fun _ _ h=>⟨h.1,by rw[h.2];exact Below.refl _ _⟩)
 unfold gI fq
 by_cases hf:dK n=0
 ·rw[if_pos (.inl hf),if_pos (.inl hf)]
  exact LX n c p ng ao xs.length ca w (fun w1=>lR n w1 hf)
 ·obtain⟨h1,h2,h3⟩:=fF hf
  obtain⟨k,rfl⟩: ∃k:Nat,n=(k:Int):=⟨n.toNat,h3.symm⟩;rw[Int.toNat_natCast] at h1 h2⊢;have HL:=fun w1=>pU k ⟨h1,h2⟩ w1
  by_cases hc1:c<1
  ·rw[if_pos (.inr (.inl hc1)),if_pos (.inr (.inl hc1))]
   rcases bO ⟨h1,h2⟩ with rfl|rfl|rfl|rfl|rfl|rfl|rfl|rfl
   all_goals exact aaS _ _ _ _ _ _ _ _ _ _ c p ng ao xs.length ca w HL hc1
  ·by_cases hc5:5<c
   ·rw[if_pos (.inr (.inr hc5)),if_pos (.inr (.inr hc5))]
    rcases bO ⟨h1,h2⟩ with rfl|rfl|rfl|rfl|rfl|rfl|rfl|rfl
    all_goals exact Xj _ _ _ _ _ _ _ _ _ _ c p ng ao xs.length ca w HL hc5
   ·have hno: ¬(dK (k:Int)=0∨c<1∨5<c):=by
     rintro(h|h|h)
     ·exact hf h
     ·exact hc1 h
     ·exact hc5 h
    rw[if_neg hno,if_neg hno]
    by_cases hn:chk xs=0
    ·rw[if_neg (show¬chk xs≠0 from fun h=>h hn),if_neg (show¬chk xs≠0 from fun h=>h hn)]
     by_cases hc2:c=2
     ·subst hc2
      rw[if_pos rfl,if_pos rfl];have HO:=fun w1 (b:yB w w1)=>B5 k ⟨h1,h2⟩ ng ao ca xs p w1 (hr.l b) sa hn (hT.l b)
      generalize enS k ng xs p=st at*;generalize enE k ng xs p=er at*
      rcases bO ⟨h1,h2⟩ with rfl|rfl|rfl|rfl|rfl|rfl|rfl|rfl
      all_goals exact QD _ _ _ _ _ _ _ _ _ _ p ng ao xs.length ca w HL _ HN st er HO hn
     ·rw[if_neg hc2,if_neg hc2]
      obtain⟨m,hm⟩: ∃m:Nat,c=(m:Int):=⟨c.toNat,by omega⟩;subst hm;rw[Int.toNat_natCast];have HO:=fun w1=>wE k m ⟨h1,h2⟩ (by omega) ng ao xs.length ca p w1
      generalize Fv k m xs.length ng p=st at*;generalize qX k m xs.length ng p=er at*
      rcases bO ⟨h1,h2⟩ with rfl|rfl|rfl|rfl|rfl|rfl|rfl|rfl
      all_goals exact Ip _ _ _ _ _ _ _ _ _ _ _ p ng ao xs.length ca w HL _ HN st er HO (by omega) (by omega) (by omega) hn
    ·rw[if_pos hn,if_pos hn]
     rcases bO ⟨h1,h2⟩ with rfl|rfl|rfl|rfl|rfl|rfl|rfl|rfl
     all_goals exact EF _ _ _ _ _ _ _ _ _ _ c p ng ao xs.length ca w HL _ HN (by omega) (by omega) hn
theorem Gm {k:Nat}(hk:1≤k∧k≤8): -16445≤(ai (rdN k):Int)*lsI k∧(ai (rdN k):Int)*(gsI k+(dgN k:Int))≤16384:=by
 rcases bO hk with rfl|rfl|rfl|rfl|rfl|rfl|rfl|rfl<;>decide
theorem mY {k:Nat}(hk:1≤k∧k≤8){ng:Bool}{xs:List Nat}{p:Int}(hc:chk xs=0)(hx:xs.length≠0)(hp: ¬(p< -20000∨20000<p)):
  enE k ng xs p=if inR (rdN k) (dgN k) (lsI k) (gsI k) (decide (k≤3)) (bare ⟨ng,Dg.vl 4294967296 xs,(ai (rdN k):Int)*p⟩).n (bare ⟨ng,Dg.vl 4294967296 xs,(ai (rdN k):Int)*p⟩).e=true then 0 else 4:=by
 obtain⟨f1,f2,f3,f4,f5,f6,f7,f8,f9,f10,f11,hgc⟩:=eR hk;obtain⟨g1,g2⟩:=Gm hk;have hvn:Dg.vl 4294967296 xs≠0:=fun h=>by
  obtain⟨n1,-⟩:=aF hc;exact Dg.vl_ne_zero 4294967296 (by omega) xs (by intro e;subst e;simp at hx) n1 h
 have hpl:ix xs p (rdN k) (dgN k) (lsI k) (gsI k)=0:=by
  unfold ix;rw[if_pos hc,if_pos hgc,if_neg];unfold eJ;simp;omega
 have hen:enN k ng xs p=bU ⟨ng,Dg.vl 4294967296 xs,(ai (rdN k):Int)*p⟩:=by
  unfold enN cC;rw[if_pos hpl]
 unfold enE;rw[if_neg hp,if_neg hx,hen];have hbn:(bare ⟨ng,Dg.vl 4294967296 xs,(ai (rdN k):Int)*p⟩).n≠0:=fun h=>hvn ((fI _).1 h)
 generalize htt:(⟨ng,Dg.vl 4294967296 xs,(ai (rdN k):Int)*p⟩:ak)=t at*;have hin: ∀hh: ¬1200< (Dg.dg 4294967296 (bare t).n).length,∀h2: ¬((bare t).e< -20000∨20000< (bare t).e),enH k (bare t)=inR (rdN k) (dgN k) (lsI k) (gsI k) (decide (k≤3)) (bare t).n (bare t).e:=fun hh h2=>by
  unfold enH um;have hd:aS (Dg.dg 4294967296 (bare t).n) (bare t).e=0:=by
   unfold aS;rw[if_pos (pJ (Dg.norm_dg 4294967296 (bare t).n (by omega)) (by omega)),if_neg h2]
  have hon:onC (aS (Dg.dg 4294967296 (bare t).n) (bare t).e) (bk (rdN k) (dgN k) (lsI k) (gsI k))=0:=by unfold onC;rw[if_pos hd];exact hgc
  rw[if_pos hon,Dg.vl_dg _ _ (by omega),nN _ _ f7,jK _ _ f7]
 by_cases hi:inR (rdN k) (dgN k) (lsI k) (gsI k) (decide (k≤3)) (bare t).n (bare t).e=true
 ·rw[if_pos hi]
  have hq:(ai (rdN k):Int)*lsI k≤(bare t).e∧(bare t).e+(bitLen (bare t).n:Int)≤(ai (rdN k):Int)*(gsI k+(dgN k:Int)):=by
   have:=hi;unfold inR at this
   rcases of_decide_eq_true this with h|h
   ·exact absurd h hbn
   ·exact⟨h.1,h.2.1⟩
  have hlen: ¬1200< (Dg.dg 4294967296 (bare t).n).length:=by
   have:=jq (d:=(bare t).n) (k:=bitLen (bare t).n) (L:=1200) (bitLen_spec _).1 (by omega);omega
  have h2: ¬((bare t).e< -20000∨20000< (bare t).e):=by omega
  have hsh:bU t=(bare t,0):=by unfold bU;rw[if_neg hlen,if_neg h2]
  rw[hsh,if_pos ⟨rfl,by rw[hin hlen h2];exact hi⟩]
 ·rw[if_neg hi,if_neg]
  rintro⟨h1,h3⟩;unfold bU at h1 h3
  by_cases hlen:1200< (Dg.dg 4294967296 (bare t).n).length
  ·rw[if_pos hlen] at h1
   simp at h1
  ·rw[if_neg hlen] at h1 h3
   by_cases h2:(bare t).e< -20000∨20000< (bare t).e
   ·rw[if_pos h2] at h1
    simp at h1
   ·rw[if_neg h2] at h3
    rw[hin hlen h2] at h3;exact hi h3
theorem KN {xs:List Nat}{L:Nat}(sa:Dg.Small 4294967296 xs)(h:xs.length≤L):(Dg.dg 65536 (Dg.vl 4294967296 xs)).length≤2*L:=by
 refine Dg.dg_len_le 65536 _ _ (by omega) ?_;rw[Nat.pow_mul];exact Nat.lt_of_lt_of_le (Dg.vl_lt 4294967296 xs sa) (Nat.pow_le_pow_right (by omega) h)
theorem AE {t:ak}(h0:t.n≠0):(Dg.dg 65536 (bare t).n).length≤(Dg.dg 65536 t.n).length∧t.e≤(bare t).e∧(bare t).e≤t.e+(bitLen t.n:Int):=by
 obtain⟨-,h2,h3⟩:=gN h0;refine⟨IZ (kR t),by omega,by omega⟩
theorem JN {xs:List Nat}(hc:chk xs=0)(hx:xs.length≠0):Dg.vl 4294967296 xs≠0:=fun h=>by
 obtain⟨n1,-⟩:=aF hc;exact Dg.vl_ne_zero 4294967296 (by omega) xs (by intro e;subst e;simp at hx) n1 h
theorem qr {s:Bool}{n:Nat}{e:Int}(h:n≠0):(bare ⟨s,n,e⟩).s=s:=by
 unfold bare;rw[if_neg h]
theorem AW {k:Nat}{ng:Bool}{xs:List Nat}{p:Int}(hx:chk xs=0)(hl:xs.length≠0)(hp: ¬(p< -20000∨20000<p))(sa:Dg.Small 4294967296 xs)(hE:enE k ng xs p=0):
  (enN k ng xs p).1=bare ⟨ng,Dg.vl 4294967296 xs,(ai (rdN k):Int)*p⟩∧(Dg.dg 65536 (bare ⟨ng,Dg.vl 4294967296 xs,(ai (rdN k):Int)*p⟩).n).length≤20000∧ -79000≤(bare ⟨ng,Dg.vl 4294967296 xs,(ai (rdN k):Int)*p⟩).e∧(bare ⟨ng,Dg.vl 4294967296 xs,(ai (rdN k):Int)*p⟩).e≤200000:=by
 have h2:(enN k ng xs p).2=0:=by
  refine Decidable.byContradiction fun c=> ?_
  unfold enE at hE;rw[if_neg hp,if_neg hl,if_neg (fun h=>c h.1)] at hE
  omega
 have hr:=wI (show cC (ix xs p (rdN k) (dgN k) (lsI k) (gsI k)) ⟨ng,Dg.vl 4294967296 xs,(ai (rdN k):Int)*p⟩=((enN k ng xs p).1,0) from Prod.ext rfl h2)
 have hd:=hr.2;rw[hr.1] at hd;obtain⟨-,e1,e2⟩:=bL hd;have hb:=AE (t:=⟨ng,Dg.vl 4294967296 xs,(ai (rdN k):Int)*p⟩) (JN hx hl);have hl2:=KN sa (aF hx).2;refine⟨hr.1,Nat.le_trans hb.1 ?_,by omega,by omega⟩
 show(Dg.dg 65536 (Dg.vl 4294967296 xs)).length≤20000
 omega
end Go.Proofs.YtpainhklfoaniaaGreatDoor
