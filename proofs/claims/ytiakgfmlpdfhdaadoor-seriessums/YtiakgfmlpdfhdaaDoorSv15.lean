/-
  Texts laid together: Dz, Dk1, Dl3, Dl8, Dn1, Bm3, Gm2, Cr9, Nx2, Ar2, Ar4, Cv5.
-/
import Derived.Test.YtiakgfmlpdfhdaaDoorSv05
import Derived.Test.YtiakgfmlpdfhdaaDoorSv06
import Derived.Test.YtiakgfmlpdfhdaaDoorSv07
import Derived.Test.YtiakgfmlpdfhdaaDoorSv08
import Derived.Test.YtiakgfmlpdfhdaaDoorSv10
namespace Go.Proofs.YtiakgfmlpdfhdaaDoor
open Go.RowKit
theorem fH {K:Nat}{a b:ak}(ha: -(K:Int)≤a.e)(hb: -(K:Int)≤b.e)(h:V K a=V K b):bare a=bare b:=by
 rw[eV,eV] at h;have p1:0<2^ (a.e+K).toNat:=Nat.pow_pos (by omega);have p2:0<2^ (b.e+K).toNat:=Nat.pow_pos (by omega);unfold bare
 by_cases h0:a.n=0
 ·have:b.n=0:=by
   rw[h0,Nat.zero_mul] at h
   by_cases hb0:b.n=0
   ·exact hb0
   ·have hne:b.n*2^ (b.e+K).toNat≠0:=Nat.ne_of_gt (Nat.mul_pos (by omega) p2)
    have:=(QI h.symm hne).2;omega
  rw[if_pos h0,if_pos this]
 ·have hne:a.n*2^ (a.e+K).toNat≠0:=Nat.ne_of_gt (Nat.mul_pos (by omega) p1)
  obtain⟨hs,hm⟩:=QI h hne;have hb0:b.n≠0:=by
   intro e;rw[e,Nat.zero_mul] at hm;exact hne hm
  rw[if_neg h0,if_neg hb0];obtain⟨m,h1⟩:=fO h0;obtain⟨k,h2⟩:=fO hb0;have e1:=lI h1;have e2:=lI h2;have h3:2^ (tz a.n+(a.e+K).toNat)*(2*m+1)=2^ (tz b.n+(b.e+K).toNat)*(2*k+1):=by
   rw[Nat.pow_add,Nat.pow_add,Nat.mul_assoc,Nat.mul_comm (2^ (a.e+K).toNat),←Nat.mul_assoc,←h1,Nat.mul_assoc,Nat.mul_comm (2^ (b.e+K).toNat),←Nat.mul_assoc,←h2];exact hm
  obtain⟨h4,h5⟩:=Dh h3;rw[e1,e2,hs,h5];have:a.e+(tz a.n:Int)=b.e+(tz b.n:Int):=by omega
  rw[this]
theorem dw {K:Nat}{a:ak}(ha: -(K:Int)≤a.e):V K (bare a)=V K a:=by
 rw[eV,eV];unfold bare
 by_cases h:a.n=0
 ·rw[if_pos h,h];simp[sz]
 ·rw[if_neg h]
  obtain⟨m,h1⟩:=fO h;simp only;rw[lI h1];have:(a.e+(tz a.n:Int)+K).toNat=tz a.n+(a.e+K).toNat:=by omega
  rw[this,Nat.pow_add,←Nat.mul_assoc,Nat.mul_comm _ (2^tz a.n),←h1]
theorem iH (a:ak):bare (bare a)=bare a:=by
 have h1: -((a.e.natAbs:Nat):Int)≤a.e:=by omega
 exact fH (eL h1) h1 (dw h1)
def dE (t:ak)(b:Int)(up:Bool):ak:=
 if(bitLen t.n:Int)-b≤0 then t
 else bare ⟨t.s,t.n/2^ ((bitLen t.n:Int)-b).toNat+(if 0<t.n % 2^ ((bitLen t.n:Int)-b).toNat∧(up != t.s)=true then 1 else 0),t.e+((bitLen t.n:Int)-b)⟩
theorem oQ (A:ak)(b:Int)(up:Bool)(hb:1≤b):bare (aY A b up)=dE (bare A) b up:=by
 obtain⟨s,n,e⟩:=A
 by_cases h0:n=0
 ·subst h0
  have hz:bare ⟨s,0,e⟩=⟨false,0,0⟩:=rfl;have c1:aY ⟨s,0,e⟩ b up=⟨s,0,e⟩:=if_pos (by
   show((bitLen 0:Nat):Int)-b≤((if(0:Nat)=0 then 0 else tz 0:Nat):Int)
   rw[gP,if_pos rfl];omega)
  have c2:dE ⟨false,0,0⟩ b up=⟨false,0,0⟩:=if_pos (by
   show((bitLen 0:Nat):Int)-b≤0
   rw[gP];omega)
  rw[c1,hz,c2]
 ·obtain⟨m,hm⟩:=fO h0
  have hd:=lI hm;have hba:bare ⟨s,n,e⟩=⟨s,2*m+1,e+tz n⟩:=by
   unfold bare;rw[if_neg h0];simp only[hd]
  obtain⟨k,hk⟩: ∃k,tz n=k:=⟨_,rfl⟩;rw[hk] at hba hm;have hbl:=Ad (2*m+1) k (by omega);rw[←hm] at hbl;rw[hba];unfold aY dE;simp only[if_neg h0,hk,hbl];obtain⟨L,hL⟩: ∃L,bitLen (2*m+1)=L:=⟨_,rfl⟩;rw[hL]
  by_cases h1:(L:Int)-b≤0
  ·rw[if_pos h1,if_pos (by omega)]
   exact hba
  ·rw[if_neg h1,if_neg (by omega)]
   obtain⟨j,hj⟩: ∃j:Nat,(L:Int)-b=(j:Int):=⟨((L:Int)-b).toNat,by omega⟩;have hj2:((k+L:Nat):Int)-b=((k+j:Nat):Int):=by omega
   rw[hj2,hj,Int.toNat_natCast,Int.toNat_natCast];have hdiv:n/2^ (k+j)=(2*m+1)/2^j:=by
    rw[hm,Nat.pow_add,Nat.mul_div_mul_left _ _ (Nat.pow_pos (by omega))]
   have hmod:0< (2*m+1) % 2^j:=by
    rcases Nat.eq_zero_or_pos ((2*m+1) % 2^j) with h|h
    ·exfalso
     obtain⟨i,hi⟩: ∃i,j=i+1:=⟨j-1,by omega⟩;have hdv:=Nat.dvd_of_mod_eq_zero h;rw[hi,Nat.pow_succ'] at hdv;have:2∣2*m+1:=Nat.dvd_trans (Nat.dvd_mul_right 2 _) hdv;omega
    ·exact h
   rw[hdiv];have he:e+((k+j:Nat):Int)=e+(k:Int)+(j:Int):=by omega
   rw[he];simp only[hmod,true_and]
theorem WQ {A:ak}{b:Int}{up:Bool}{L:Nat}(h:(Dg.dg 4294967296 A.n).length≤L)(hb:1≤b):A.e≤(aY A b up).e∧(aY A b up).e≤A.e+32*L:=by
 have hl:=gf h;unfold aY
 by_cases hc:(bitLen A.n:Int)-b≤((if A.n=0 then 0 else tz A.n:Nat):Int)
 ·rw[if_pos hc]
  omega
 ·rw[if_neg hc]
  show A.e≤A.e+((bitLen A.n:Int)-b)∧A.e+((bitLen A.n:Int)-b)≤A.e+32*L
  omega
theorem eT {t:ak}(h:(Dg.dg 4294967296 t.n).length≤1200)(h1: -20000≤t.e)(h2:t.e≤20000):(Dg.dg 65536 (bare t).n).length≤2400∧ -20000≤(bare t).e∧(bare t).e≤58400:=by
 have h3:=gZ t.n 1200 h;have h4:=im t.n 1200 h;unfold bare
 split
 ·exact⟨by show([]:List Nat).length≤2400;simp,by simp,by simp⟩
 ·refine⟨Nat.le_trans (aH 65536 _ t.n (by omega) (Nat.div_le_self _ _)) (by omega), ?_, ?_⟩
  ·simp only;omega
  ·simp only;omega
theorem lP (A B:ak):dJ (bare (cO (bare A) (dB (bare B))))=dJ (aG A (dV B)):=by
 have h1: -((A.e.natAbs+B.e.natAbs:Nat):Int)≤A.e:=by omega
 have h2: -((A.e.natAbs+B.e.natAbs:Nat):Int)≤B.e:=by omega
 have h3: -((A.e.natAbs+B.e.natAbs:Nat):Int)≤(dB (bare B)).e:=eL h2;rw[acR (A.e.natAbs+B.e.natAbs),dw (zy (eL h1) h3),zx (eL h1) h3,EI,dw h1,dw h2,CB]
 congr 1
theorem FW (t:ak):(bare t).n≤t.n:=by
 unfold bare
 split
 ·exact Nat.zero_le _
 ·exact Nat.div_le_self _ _
theorem lE {K:Nat}(A:ak)(b:Int)(hb:1≤b)(hK: -(K:Int)≤A.e):V K (aY A b false)≤V K A∧V K A≤V K (aY A b true)∧ -(K:Int)≤(aY A b false).e∧ -(K:Int)≤(aY A b true).e:=by
 have one: ∀up,-(K:Int)≤(aY A b up).e:=fun up=>by
  rcases mX A b up hb with⟨_,h2⟩| ⟨j,q,_,_,_,_,_,_,_,_,_,h2⟩
  ·rw[h2];exact hK
  ·rw[h2];show _≤A.e+(j:Int);omega
 have two: ∀up,(up=false→V K (aY A b up)≤V K A)∧(up=true→V K A≤V K (aY A b up)):=fun up=>by
  rcases mX A b up hb with⟨_,h2⟩| ⟨j,q,_,_,_,_,g1,g2,_,_,_,h2⟩
  ·rw[h2];exact⟨fun _=>Int.le_refl _,fun _=>Int.le_refl _⟩
  ·have e1:(A.e+(j:Int)+(K:Int)).toNat=j+(A.e+(K:Int)).toNat:=by omega
   rw[h2,eV,eV];simp only;rw[e1,Nat.pow_add,←Nat.mul_assoc];generalize 2^ (A.e+(K:Int)).toNat=P;generalize 2^j=J at g1 g2;have l1:q*J*P≤A.n*P:=Nat.mul_le_mul_right _ g1;have l2:A.n*P≤(q+1)*J*P:=Nat.mul_le_mul_right _ (Nat.le_of_lt g2)
   cases hs:A.s
   ·refine⟨fun h=> ?_,fun h=> ?_⟩
    ·subst h
     simp only[sz,bne_self_eq_false,Bool.false_eq_true,if_false,Nat.add_zero];omega
    ·subst h
     simp only[sz,Bool.true_bne,Bool.not_false,Bool.false_eq_true,if_false,if_true];omega
   ·refine⟨fun h=> ?_,fun h=> ?_⟩
    ·subst h
     simp only[sz,Bool.false_bne,if_true];omega
    ·subst h
     simp only[sz,bne_self_eq_false,Bool.false_eq_true,if_false,Nat.add_zero,if_true];omega
 exact⟨(two false).1 rfl,(two true).2 rfl,one false,one true⟩
theorem wM {K:Nat}(A y:ak)(b:Int)(hb:1≤b)(hA: -(K:Int)≤A.e)(hn:y.n<2^b.toNat)(h:V K y≤V K A):V K y≤V K (aY A b false):=by
 rcases Iw A b false hb with h2| ⟨j,q,g1,g2,hq,h2⟩
 ·rw[h2];exact h
 ·have e1:(A.e+(j:Int)+(K:Int)).toNat=j+(A.e+(K:Int)).toNat:=by omega
  rw[h2,eV,eV];rw[eV,eV] at h;simp only;have hP:0<2^ (A.e+(K:Int)).toNat:=Nat.pow_pos (by omega);have l1:q*2^ (A.e+(j:Int)+(K:Int)).toNat<A.n*2^ (A.e+(K:Int)).toNat:=by
   rw[e1,Nat.pow_add,←Nat.mul_assoc];exact Nat.mul_lt_mul_of_pos_right g1 hP
  have l2:A.n*2^ (A.e+(K:Int)).toNat< (q+1)*2^ (A.e+(j:Int)+(K:Int)).toNat:=by
   rw[e1,Nat.pow_add,←Nat.mul_assoc];exact Nat.mul_lt_mul_of_pos_right g2 hP
  have nb:q*2^ (A.e+(j:Int)+(K:Int)).toNat<y.n*2^ (y.e+(K:Int)).toNat→y.n*2^ (y.e+(K:Int)).toNat< (q+1)*2^ (A.e+(j:Int)+(K:Int)).toNat→False:=fun a1 a2=>Ak hn hq a1 a2
  generalize 2^ (A.e+(j:Int)+(K:Int)).toNat=U at l1 l2 nb⊢;generalize A.n*2^ (A.e+(K:Int)).toNat=Z at l1 l2 h;generalize y.n*2^ (y.e+(K:Int)).toNat=Y at h nb⊢;rw[Nat.add_mul,Nat.one_mul] at l2 nb
  cases hs:A.s
  ·simp only[bne_self_eq_false,Bool.false_eq_true,if_false,Nat.add_zero]
   rw[hs] at h;generalize q*U=W at l1 l2 nb⊢
   cases hy:y.s
   ·rw[hy] at h
    simp only[sz,Bool.false_eq_true,if_false] at h⊢
    rcases Nat.lt_or_ge W Y with h3|h3
    ·exact(nb h3 (by omega)).elim
    ·omega
   ·simp only[sz,Bool.false_eq_true,if_false,if_true]
    omega
  ·simp only[Bool.false_bne,if_true]
   rw[hs] at h;rw[Nat.add_mul,Nat.one_mul];generalize q*U=W at l1 l2 nb⊢
   cases hy:y.s
   ·rw[hy] at h
    simp only[sz,Bool.false_eq_true,if_false,if_true] at h⊢;omega
   ·rw[hy] at h
    simp only[sz,if_true] at h⊢
    rcases Nat.lt_or_ge Y (W+U) with h3|h3
    ·exact(nb (by omega) h3).elim
    ·omega
theorem aaW (A:ak)(b:Int)(up:Bool):aY (dV A) b (!up)=dV (aY A b up):=by
 unfold aY dV;simp only
 by_cases h:(bitLen A.n:Int)-b≤((if A.n=0 then 0 else tz A.n:Nat):Int)
 ·rw[if_pos h,if_pos h]
 ·rw[if_neg h,if_neg h]
  cases up<;>cases A.s<;>rfl
theorem xZ {K:Nat}(A y:ak)(b:Int)(hb:1≤b)(hA: -(K:Int)≤A.e)(hn:y.n<2^b.toNat)(h:V K A≤V K y):V K (aY A b true)≤V K y:=by
 have h1:=wM (K:=K) (dV A) (dV y) b hb hA hn (by rw[pC,pC];omega);have h2:=aaW A b true;simp only[Bool.not_true] at h2;rw[h2,pC,pC] at h1;omega
theorem gN {t:ak}(h:t.n≠0):(bare t).n≠0∧(bare t).e=t.e+(tz t.n:Int)∧(bare t).e+(bitLen (bare t).n:Int)=t.e+(bitLen t.n:Int):=by
 obtain⟨m,hm⟩:=fO h;have e:(bare t).n=2*m+1∧(bare t).e=t.e+(tz t.n:Int):=by
  unfold bare;rw[if_neg h];exact⟨lI hm,rfl⟩
 have hb:bitLen t.n=tz t.n+bitLen (2*m+1):=by
  have:=Ad (2*m+1) (tz t.n) (by omega)
  rwa [←hm] at this
 refine⟨by omega,e.2, ?_⟩;rw[e.1,e.2,hb];omega
def ji (k:Nat)(ng:Bool)(E FF:Nat):ak:=
 if k=3 then(if E+1=2^exN k∨0<E∧FF<2^ (dgN k-1) then⟨false,0,0⟩ else bare ⟨ng,FF,wdI (rdN k)*(lsI k+(((E-1:Nat):Nat):Int))⟩)
 else if k≤2 then(if E+1=2^exN k then⟨false,0,0⟩ else bare ⟨ng,FF+(if 0<E then 2^ (dgN k-1) else 0),wdI (rdN k)*(lsI k+(((E-1:Nat):Nat):Int))⟩)
 else if k≤5 then bare ⟨ng,FF,wdI (rdN k)*(lsI k+(E:Int))⟩
 else(if E=0 then⟨false,0,0⟩ else bare ⟨ng,FF+2^ (dgN k-1),wdI (rdN k)*(lsI k+(E:Int)-1)⟩)
def nxT (k:Nat)(s:ByteArray):ak:=ji k (aZ k s) (aR k s) (aU k s)
def opT (n:Int)(p:ByteArray):ak:=if dF n p=0 then nxT n.toNat p else⟨false,0,0⟩
def opC (n : Int) (p : ByteArray) (v : Value) : List Value := [.int .i64 ((bM n p : Nat) : Int), .bool (dz n p), .bool (opT n p).s, v, .int .i64 (opT n p).e]
def F7 (w:World)(n:Int)(g:Option Nat)(p:ByteArray)(v:Value):Prop:=
 (∃so sc,v= .slice so (Dg.dg 4294967296 (opT n p).n).length sc)∧Rd w .u32 v (Dg.dg 4294967296 (opT n p).n)∧ ∀b,g=some b→wF b v (Dg.dg 4294967296 (opT n p).n)
def sV (w:World)(n:Int)(g:Option Nat):List ByteArray→List Value→Prop
 | [],cs=>cs=[]
 |p::ps,cs=> ∃v rest,cs=opC n p v++rest∧F7 w n g p v∧sV w n g ps rest
theorem sV.mono {w w':World}{n:Int}{g g':Option Nat}(h: ∀p v,F7 w n g p v→F7 w' n g' p v): ∀{ps:List ByteArray} {cs:List Value},sV w n g ps cs→sV w' n g' ps cs
 | [],_,hc=>hc
 |p::_,_,hc=>by
  obtain⟨v,rest,h1,h2,h3⟩:=hc;exact⟨v,rest,h1,h p v h2,sV.mono h h3⟩
structure sF (w:World) (n:Int) (ps:List ByteArray) (g cap:Nat):Prop where
 fit:ps.length≤cap
 most:cap≤maxLen
 each: ∀(i:Nat) p,ps[i]? =some p→ ∃so sc,w.rangeAt g (i*5) (opC n p (.slice so (Dg.dg 4294967296 (opT n p).n).length sc))∧Rd w .u32 (.slice so (Dg.dg 4294967296 (opT n p).n).length sc) (Dg.dg 4294967296 (opT n p).n)
theorem fromI_end {d:Nat}{ys:List Nat}(h:FromI d 0 ys):ys=Dg.dg 65536 d:=by
 obtain⟨h1,h2,h3⟩:=h;rw[Nat.mul_zero,Nat.add_zero] at h1;rw[←h1,Dg.dg_vl 65536 (by omega) ys h2 (h3 rfl)]
theorem fromI_len {d x:Nat}{ys:List Nat}(h:FromI d x ys)(hx:x≠0)(hd:d<18446744073709551616):ys.length≤3:=by
 refine Nat.le_of_not_lt fun c=> ?_
 have h1:65536^4≤65536^ys.length:=Nat.pow_le_pow_right (by omega) c;have h2:65536^ys.length*1≤65536^ys.length*x:=Nat.mul_le_mul_left _ (by omega);have h3:=h.1;have h4:(65536:Nat)^4=18446744073709551616:=by decide
 omega
end Go.Proofs.YtiakgfmlpdfhdaaDoor
