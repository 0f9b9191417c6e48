/-
  Texts laid together: Bl1, Sp1, Sp6, Bl11, Sp9, Sp10.
-/
import Derived.Test.YtiakgfmlpdfhdaaGreatDoorTa21
import Derived.Test.YtiakgfmlpdfhdaaGreatDoorTa33
import Derived.Test.YtiakgfmlpdfhdaaGreatDoorTa34
import Derived.Test.YtiakgfmlpdfhdaaGreatDoorTa35
import Derived.Test.YtiakgfmlpdfhdaaGreatDoorTa36
set_option maxRecDepth 100000
set_option maxHeartbeats 3200000
namespace Go.Proofs.YtiakgfmlpdfhdaaGreatDoor
open _root_.Go.Proofs.Tryz
open Go.RowKit
theorem qK (s:Bool)(ao:Option Addr)(ca:Nat)(xs:List Nat)(e:Int)(t:Bool)(bo:Option Addr)(cb:Nat)(ys:List Nat)(f:Int)(w:World)
  (hr:Rd w .u32 (.slice ao xs.length ca) xs) (hq:Rd w .u32 (.slice bo ys.length cb) ys) (sa:Dg.Small 4294967296 xs) (sb:Dg.Small 4294967296 ys):
  yC 21 #[.agg #[.bool s,.slice ao xs.length ca,yi e,.bool t,.slice bo ys.length cb,yi f]] w (yR w (yi (cu s xs e t ys f))):=by
 have bA:=af w (.cells #[.bool s,.slice ao xs.length ca,yi e,.bool t,.slice bo ys.length cb,yi f] 27);have hc:=lT s ao ca xs e t bo cb ys f _ (hr.l bA) (hq.l bA) sa sb;unfold xw at hc;unfold cu;obtain⟨c,hcc⟩: ∃c,dQ xs e ys f=c:=⟨_,rfl⟩;obtain⟨g,hg⟩: ∃g,dJ (aG ⟨s,Dg.vl 4294967296 xs,e⟩ (dV ⟨t,Dg.vl 4294967296 ys,f⟩))=g:=⟨_,rfl⟩;rw[hcc,hg] at hc⊢;clear hcc hg hr hq sa sb
 by_cases h:c=0
 ·subst h
  simp only[if_true] at hc⊢
  by_cases h2:0<g
  ·rw[if_pos h2]
   go_enter func21,ntmps21
   go_wp2_with fail
   refine hc.mono ?_;rintro z w1 ⟨rfl,b1⟩;have b01:=aa bA b1;clear hc
   go_wp2
   go_ret
   exact⟨rfl,b01⟩
  ·rw[if_neg h2]
   go_enter func21,ntmps21
   go_wp2_with fail
   refine hc.mono ?_;rintro z w1 ⟨rfl,b1⟩;have b01:=aa bA b1;clear hc
   go_wp2
   go_ret
   exact⟨rfl,b01⟩
 ·simp only[if_neg h] at hc⊢
  go_enter func21,ntmps21
  go_wp2_with fail
  refine hc.mono ?_;rintro z w1 ⟨rfl,b1⟩;have b01:=aa bA b1;clear hc
  go_wp2
  go_ret
  exact⟨rfl,b01⟩
theorem sminus_any (v u:Value)(a b p q:ak)(w:World)(hv:SpanV w v a b)(hu:SpanV w u p q)(fa:FitsT a)(fb:FitsT b)(fp:FitsT p)(fq:FitsT q):yC 61 #[v,u] w (aeT w (aG a (dV q)) (aG b (dV p))):=by
 obtain⟨s1,s2,rfl,r1,r2⟩:=hv;obtain⟨s3,s4,rfl,r3,r4⟩:=hu;obtain⟨ao,ac,rfl⟩:=r1.shape;obtain⟨bo,bc,rfl⟩:=r2.shape;obtain⟨po,pc,rfl⟩:=r3.shape;obtain⟨qo,qc,rfl⟩:=r4.shape;exact spanMinus_W a b p q _ _ _ _ _ _ _ _ _ _ w
  (fun w1=>spanOpp_W p q _ _ _ _ w1 (fun w2=>YA q.s _ _ _ q.e w2) (fun w2=>YA p.s _ _ _ p.e w2))
  (fun w1 hb=>splus_any _ _ a b (dV q) (dV p) w1 ⟨_,_,rfl,r1.l hb,r2.l hb⟩ ⟨_,_,rfl,r4.l hb,r3.l hb⟩ fa fb fq fp)
theorem satan_any (n k:Nat)(w:World)(hn:2≤n∧n<65536)(hk:k≤60000):yC 38 #[yi n,yi k] w (aeT w (invLo (lp (n*n) 1 (k+1) 0 (2^k/n) 0 0) k) (invHi (lp (n*n) 1 (k+1) 0 (2^k/n) 0 0) k)):=
 sumsAtan_W _ _ _ _ w (fun w1 _=>inverse_any n k 1 w1 hn hk (.inr rfl))
theorem satanh_any (n k:Nat)(w:World)(hn:2≤n∧n<65536)(hk:k≤60000):yC 80 #[yi n,yi k] w (aeT w (invLo (lp (n*n) 0 (k+1) 0 (2^k/n) 0 0) k) (invHi (lp (n*n) 0 (k+1) 0 (2^k/n) 0 0) k)):=
 sumsAtanh_W _ _ _ _ w (fun w1 _=>inverse_any n k 0 w1 hn hk (.inl rfl))
theorem spi_any (k:Nat)(w:World)(hk:k≤60000):yC 36 #[yi k] w (aeT w (piLo k) (piHi k)):=by
 obtain⟨f1,f2,-⟩:=inv_fits 5 k 1 (by omega) (by omega) hk;obtain⟨f3,f4,-⟩:=inv_fits 239 k 1 (by omega) (by omega) hk;obtain⟨e1,e2⟩:=inv_e (lp (5*5) 1 (k+1) 0 (2^k/5) 0 0) k;obtain⟨e3,e4⟩:=inv_e (lp (239*239) 1 (k+1) 0 (2^k/239) 0 0) k;have s5:=fun w1=>satan_any 5 k w1 ⟨by omega,by omega⟩ hk
 have s239:=fun w1=>satan_any 239 k w1 ⟨by omega,by omega⟩ hk
 unfold piLo piHi;generalize invLo (lp (5*5) 1 (k+1) 0 (2^k/5) 0 0) k=a at*;generalize invHi (lp (5*5) 1 (k+1) 0 (2^k/5) 0 0) k=b at*;generalize invLo (lp (239*239) 1 (k+1) 0 (2^k/239) 0 0) k=p at*;generalize invHi (lp (239*239) 1 (k+1) 0 (2^k/239) 0 0) k=q at*;exact sumsPi_W a b p q _ _ _ _ _ _ _ w (fun w1 _=>s5 w1) (fun ao ac bo bc w1=>scaled_ret a b ao bo ac bc 4 w1 ⟨by omega,by omega⟩ ⟨by omega,by omega⟩ ⟨by omega,by omega⟩) (fun w1 _=>s239 w1) (fun ao ac bo bc w1=>scaled_ret p q ao bo ac bc 2 w1 ⟨by omega,by omega⟩ ⟨by omega,by omega⟩ ⟨by omega,by omega⟩)
  (fun ao ac bo bc po pc qo qc w1 _ ra rb rp rq=>sminus_any _ _ (upT a 4) (upT b 4) (upT p 2) (upT q 2) w1 ⟨_,_,rfl,ra,rb⟩ ⟨_,_,rfl,rp,rq⟩ (fits_up (n:=4) f1 (by omega) (by omega)) (fits_up (n:=4) f2 (by omega) (by omega)) (fits_up (n:=2) f3 (by omega) (by omega)) (fits_up (n:=2) f4 (by omega) (by omega)))
theorem nH (n:Int)(b:Nat)(s:Bool)(ao:Option Addr)(ca:Nat)(xs:List Nat)(e:Int)(t:Bool)(bo:Option Addr)(cb:Nat)(ys:List Nat)(f:Int)(r:Bool)(co:Option Addr)(cc:Nat)(zs:List Nat)(g:Int)(u:Bool)(d':Option Addr)(cd:Nat)(us:List Nat)(k:Int)(w0:World)
  (ha:Rd w0 .u32 (.slice ao xs.length ca) xs) (hb:Rd w0 .u32 (.slice bo ys.length cb) ys) (hc:Rd w0 .u32 (.slice co zs.length cc) zs) (hd:Rd w0 .u32 (.slice d' us.length cd) us) (sa:Dg.Small 4294967296 xs) (sb:Dg.Small 4294967296 ys) (sc:Dg.Small 4294967296 zs) (sd:Dg.Small 4294967296 us)
  (w:World) (bw:yB w0 w)
  (h:w.cell? ⟨b,0,none⟩=some (.bool s)∧w.cell? ⟨b,1,none⟩=some (.slice ao xs.length ca)∧w.cell? ⟨b,2,none⟩=some (yi e)∧w.cell? ⟨b,3,none⟩=some (.bool t)∧w.cell? ⟨b,4,none⟩=some (.slice bo ys.length cb)∧w.cell? ⟨b,5,none⟩=some (yi f)∧w.cell? ⟨b,6,none⟩=some (.bool r)∧w.cell? ⟨b,7,none⟩=some (.slice co zs.length cc)∧w.cell? ⟨b,8,none⟩=some (yi g)∧w.cell? ⟨b,9,none⟩=some (.bool u)∧w.cell? ⟨b,10,none⟩=some (.slice d' us.length cd)∧w.cell? ⟨b,11,none⟩=some (yi k)):
  yC 64 #[yi n,.slice (some ⟨b,0,none⟩) 2 2] w (yR w (yi (cW n (cu s xs e t ys f) (cu r zs g u us k)))):=by
 obtain⟨h0,h1,h2,h3,h4,h5,j0,j1,j2,j3,j4,j5⟩:=h;exact NK n b s ao ca xs.length e t bo cb ys.length f _ r co cc zs.length g u d' cd us.length k _ w h0 h1 h2 h3 h4 h5 j0 j1 j2 j3 j4 j5
  (fun w1 b1=>qK s ao ca xs e t bo cb ys f w1 (ha.l (aa bw b1)) (hb.l (aa bw b1)) sa sb)
  (fun w1 b1=>qK r co cc zs g u d' cd us k w1 (hc.l (aa bw b1)) (hd.l (aa bw b1)) sc sd)
def lnA (n k:Nat):ak:=invLo (lp (n*n) 0 (k+1) 0 (2^k/n) 0 0) k
def lnB (n k:Nat):ak:=invHi (lp (n*n) 0 (k+1) 0 (2^k/n) 0 0) k
def lnM (k:Nat):ak:=loT (fourT (lnA 26 k) (lnB 26 k) ⟨false,18,0⟩ ⟨false,18,0⟩) 3
def lnN (k:Nat):ak:=hiT (fourT (lnA 26 k) (lnB 26 k) ⟨false,18,0⟩ ⟨false,18,0⟩) 3
def lnU (k:Nat):ak:=aG (lnM k) (dV (upT (lnB 4801 k) 1))
def lnV (k:Nat):ak:=aG (lnN k) (dV (upT (lnA 4801 k) 1))
def lnLo (k:Nat):ak:=aG (lnU k) (upT (lnA 8749 k) 3)
def lnHi (k:Nat):ak:=aG (lnV k) (upT (lnB 8749 k) 3)
theorem lnA_V (n k:Nat):V k (lnA n k)=(XA n 0 k:Int)-((3+3*NA n 0 k:Nat):Int)∧V k (lnB n k)=(XA n 0 k:Int)+((3+3*NA n 0 k:Nat):Int)∧(lnA n k).e=0-(k:Int)∧(lnB n k).e=0-(k:Int):=by
 obtain⟨e1,e2⟩:=inv_e (lp (n*n) 0 (k+1) 0 (2^k/n) 0 0) k;obtain⟨v1,v2⟩:=V_inv (lp (n*n) 0 (k+1) 0 (2^k/n) 0 0) k;exact⟨v1,v2,e1,e2⟩
theorem ln_V (k:Nat):(V k (lnU k)=18*((XA 26 0 k:Int)-((3+3*NA 26 0 k:Nat):Int))-2*((XA 4801 0 k:Int)+((3+3*NA 4801 0 k:Nat):Int))∧V k (lnV k)=18*((XA 26 0 k:Int)+((3+3*NA 26 0 k:Nat):Int))-2*((XA 4801 0 k:Int)-((3+3*NA 4801 0 k:Nat):Int)))∧
  (V k (lnLo k)=18*((XA 26 0 k:Int)-((3+3*NA 26 0 k:Nat):Int))-2*((XA 4801 0 k:Int)+((3+3*NA 4801 0 k:Nat):Int))+8*((XA 8749 0 k:Int)-((3+3*NA 8749 0 k:Nat):Int))∧V k (lnHi k)=18*((XA 26 0 k:Int)+((3+3*NA 26 0 k:Nat):Int))-2*((XA 4801 0 k:Int)-((3+3*NA 4801 0 k:Nat):Int))+8*((XA 8749 0 k:Int)+((3+3*NA 8749 0 k:Nat):Int)))∧
  ((lnM k).e=0-(k:Int)∧(lnN k).e=0-(k:Int)∧(lnU k).e=0-(k:Int)∧(lnV k).e=0-(k:Int)∧(lnLo k).e=0-(k:Int)∧(lnHi k).e=0-(k:Int))∧V k (lnM k)=18*((XA 26 0 k:Int)-((3+3*NA 26 0 k:Nat):Int))∧V k (lnN k)=18*((XA 26 0 k:Int)+((3+3*NA 26 0 k:Nat):Int)):=by
 obtain⟨v1,v2,e1,e2⟩:=lnA_V 26 k;obtain⟨v3,v4,e3,e4⟩:=lnA_V 4801 k;obtain⟨v5,v6,e5,e6⟩:=lnA_V 8749 k;obtain⟨m1,m2⟩:=four18 (k:=k) (a:=lnA 26 k) (b:=lnB 26 k) (by omega) (by omega) (by omega);obtain⟨m3,m4⟩:=four_e e1 e2;have u3:=V_up (k:=k) (t:=lnA 4801 k) 1 (by omega);have u4:=V_up (k:=k) (t:=lnB 4801 k) 1 (by omega);have u5:=V_up (k:=k) (t:=lnA 8749 k) 3 (by omega);have u6:=V_up (k:=k) (t:=lnB 8749 k) 3 (by omega);rw[v3] at u3;rw[v4] at u4;rw[v5] at u5;rw[v6] at u6;rw[v1] at m1;rw[v2] at m2;have m1':V k (lnM k)=_:=m1;have m2':V k (lnN k)=_:=m2;have m3':(lnM k).e=0-(k:Int):=m3;have m4':(lnN k).e=0-(k:Int):=m4;have i3:(dV (upT (lnA 4801 k) 1)).e=0-(k:Int)+1:=by show _+_=_;rw[e3]
 have i4:(dV (upT (lnB 4801 k) 1)).e=0-(k:Int)+1:=by show _+_=_;rw[e4]
 have i5:(upT (lnA 8749 k) 3).e=0-(k:Int)+3:=by show _+_=_;rw[e5]
 have i6:(upT (lnB 8749 k) 3).e=0-(k:Int)+3:=by show _+_=_;rw[e6]
 have mn: ∀x y E:Int,x=E→E≤y→min x y=E:=fun x y E h1 h2=>by omega
 have eU:(lnU k).e=0-(k:Int):=by unfold lnU;rw[plus_e_min,m3',i4];exact mn _ _ _ rfl (by omega)
 have eV:(lnV k).e=0-(k:Int):=by unfold lnV;rw[plus_e_min,m4',i3];exact mn _ _ _ rfl (by omega)
 have eL:(lnLo k).e=0-(k:Int):=by unfold lnLo;rw[plus_e_min,eU,i5];exact mn _ _ _ rfl (by omega)
 have eH:(lnHi k).e=0-(k:Int):=by unfold lnHi;rw[plus_e_min,eV,i6];exact mn _ _ _ rfl (by omega)
 have w3:V k (upT (lnA 4801 k) 1)=((XA 4801 0 k:Int)-((3+3*NA 4801 0 k:Nat):Int))*2:=u3;have w4:V k (upT (lnB 4801 k) 1)=((XA 4801 0 k:Int)+((3+3*NA 4801 0 k:Nat):Int))*2:=u4;have w5:V k (upT (lnA 8749 k) 3)=((XA 8749 0 k:Int)-((3+3*NA 8749 0 k:Nat):Int))*8:=u5;have w6:V k (upT (lnB 8749 k) 3)=((XA 8749 0 k:Int)+((3+3*NA 8749 0 k:Nat):Int))*8:=u6;have vU:V k (lnU k)=18*((XA 26 0 k:Int)-((3+3*NA 26 0 k:Nat):Int))-2*((XA 4801 0 k:Int)+((3+3*NA 4801 0 k:Nat):Int)):=by
  unfold lnU;rw[dH (by omega) (by omega),pC,m1',w4];omega
 have vV:V k (lnV k)=18*((XA 26 0 k:Int)+((3+3*NA 26 0 k:Nat):Int))-2*((XA 4801 0 k:Int)-((3+3*NA 4801 0 k:Nat):Int)):=by
  unfold lnV;rw[dH (by omega) (by omega),pC,m2',w3];omega
 refine⟨⟨vU,vV⟩,⟨?_, ?_⟩,⟨m3',m4',eU,eV,eL,eH⟩,m1',m2'⟩
 ·unfold lnLo
  rw[dH (by omega) (by omega),vU,w5];omega
 ·unfold lnHi
  rw[dH (by omega) (by omega),vV,w6];omega
theorem ln_fits (k:Nat)(hk:k≤60000):FitsT (lnM k)∧FitsT (lnN k)∧FitsT (lnU k)∧FitsT (lnV k)∧FitsT (lnLo k)∧FitsT (lnHi k):=by
 obtain⟨⟨v1,v2⟩,⟨v3,v4⟩,⟨e1,e2,e3,e4,e5,e6⟩,v5,v6⟩:=ln_V k;obtain⟨-,-,s1⟩:=inv_fits 26 k 0 (by omega) (by omega) hk;obtain⟨-,-,s2⟩:=inv_fits 4801 k 0 (by omega) (by omega) hk;obtain⟨-,-,s3⟩:=inv_fits 8749 k 0 (by omega) (by omega) hk;have hp:(2:Nat)^ (k+23)=2^ (k+17)*64:=by rw[show k+23=k+17+6 by omega,Nat.pow_add]
 have hI:((2^ (k+23):Nat):Int)=((2^ (k+17):Nat):Int)*64:=by rw[hp,Int.natCast_mul];rfl
 have a1:(XA 26 0 k:Int)+((3+3*NA 26 0 k:Nat):Int)< ((2^ (k+17):Nat):Int):=by rw[←Int.natCast_add];exact Int.ofNat_lt.2 s1
 have a2:(XA 4801 0 k:Int)+((3+3*NA 4801 0 k:Nat):Int)< ((2^ (k+17):Nat):Int):=by rw[←Int.natCast_add];exact Int.ofNat_lt.2 s2
 have a3:(XA 8749 0 k:Int)+((3+3*NA 8749 0 k:Nat):Int)< ((2^ (k+17):Nat):Int):=by rw[←Int.natCast_add];exact Int.ofNat_lt.2 s3
 generalize((2^ (k+17):Nat):Int)=P at*;have F: ∀t:ak,t.e=0-(k:Int)→V k t<P*64→ -(P*64)<V k t→FitsT t:=fun t he h1 h2=>fits_of_V (j:=k+23) (by omega) (by omega) hk (by omega) (by rw[hI];exact h1) (by rw[hI];exact h2)
 exact⟨F _ e1 (by omega) (by omega),F _ e2 (by omega) (by omega),F _ e3 (by omega) (by omega),F _ e4 (by omega) (by omega),F _ e5 (by omega) (by omega),F _ e6 (by omega) (by omega)⟩
theorem sln_any (k:Nat)(w:World)(hk:k≤60000):yC 48 #[yi k] w (aeT w (lnLo k) (lnHi k)):=by
 obtain⟨f1,f2,g1⟩:=inv_fits 26 k 0 (by omega) (by omega) hk;obtain⟨f3,f4,-⟩:=inv_fits 4801 k 0 (by omega) (by omega) hk;obtain⟨f5,f6,-⟩:=inv_fits 8749 k 0 (by omega) (by omega) hk;obtain⟨v1,v2,e1,e2⟩:=lnA_V 26 k;obtain⟨-,-,e3,e4⟩:=lnA_V 4801 k;obtain⟨-,-,e5,e6⟩:=lnA_V 8749 k;obtain⟨h1,h2,h3,h4,h5,h6⟩:=ln_fits k hk;have s1:=fun w1=>satanh_any 26 k w1 ⟨by omega,by omega⟩ hk
 have s2:=fun w1=>satanh_any 4801 k w1 ⟨by omega,by omega⟩ hk
 have s3:=fun w1=>satanh_any 8749 k w1 ⟨by omega,by omega⟩ hk
 have hx: ∀j,FitsT (fourT (lnA 26 k) (lnB 26 k) ⟨false,18,0⟩ ⟨false,18,0⟩ j):=by
  have na: ∀t:ak,t.e=0-(k:Int)→V k t< ((2^ (k+17):Nat):Int)→ -((2^ (k+17):Nat):Int)<V k t→FitsT (aK t ⟨false,18,0⟩):=fun t he a1 a2=>by
   have hv:=V_by18 k t;have hI:((2^ (k+23):Nat):Int)=((2^ (k+17):Nat):Int)*64:=by rw[show k+23=k+17+6 by omega,Nat.pow_add,Int.natCast_mul];rfl
   have ht:(aK t ⟨false,18,0⟩).e=0-(k:Int):=by show t.e+0=_;omega
   refine fits_of_V (k:=k) (j:=k+23) (by omega) (by omega) hk (by omega) ?_ ?_
   ·rw[hv,hI];generalize((2^ (k+17):Nat):Int)=P at*;omega
   ·rw[hv,hI];generalize((2^ (k+17):Nat):Int)=P at*;omega
  have g1':(XA 26 0 k:Int)+((3+3*NA 26 0 k:Nat):Int)< ((2^ (k+17):Nat):Int):=by rw[←Int.natCast_add];exact Int.ofNat_lt.2 g1
  have ta:=na (lnA 26 k) e1 (by omega) (by omega);have tb:=na (lnB 26 k) e2 (by omega) (by omega);intro j
  match j with
  |0=>exact ta
  |1=>exact ta
  |2=>exact tb
  |_+3=>exact tb
 have f18:FitsT ⟨false,18,0⟩:=⟨⟨5,by omega,by decide⟩,by simp,by simp⟩;refine sumsLn2_W (lnA 26 k) (lnB 26 k) ⟨false,18,0⟩ (lnM k) (lnN k) (lnA 4801 k) (lnB 4801 k) (lnA 8749 k) (lnB 8749 k) (lnU k) (lnV k) _ _ _ _ _ _ _ w (fun w1 _=>s1 w1) (fun w1 _=>spanWhole_W 18 ⟨false,18,0⟩ w1 (fun w2=>whole_any 18 w2 (by omega)) (fun xo xc w2=>Qy _ _ _ _ _ w2))
  (fun ao ac bo bc co cc eo ec w1 _ ra rb rc re=>stimes_any _ _ (lnA 26 k) (lnB 26 k) ⟨false,18,0⟩ ⟨false,18,0⟩ w1 ⟨_,_,rfl,ra,rb⟩ ⟨_,_,rfl,rc,re⟩ f1 f2 f18 f18 hx)
  (fun w1 _=>s2 w1) (fun ao ac bo bc w1=>scaled_ret (lnA 4801 k) (lnB 4801 k) ao bo ac bc 1 w1 ⟨by omega,by omega⟩ ⟨by omega,by omega⟩ ⟨by omega,by omega⟩)
  (fun w1 _=>s3 w1) (fun ao ac bo bc w1=>scaled_ret (lnA 8749 k) (lnB 8749 k) ao bo ac bc 3 w1 ⟨by omega,by omega⟩ ⟨by omega,by omega⟩ ⟨by omega,by omega⟩)
  (fun mo mc no nc po pc qo qc w1 _ rm rn rp rq=>sminus_any _ _ (lnM k) (lnN k) (upT (lnA 4801 k) 1) (upT (lnB 4801 k) 1) w1 ⟨_,_,rfl,rm,rn⟩ ⟨_,_,rfl,rp,rq⟩ h1 h2 (fits_up (n:=1) f3 (by omega) (by show(lnA 4801 k).e≤_;omega)) (fits_up (n:=1) f4 (by omega) (by show(lnB 4801 k).e≤_;omega)))
  (fun uo uc vo vc ro rc so sc w1 _ ru rv rr rs=>splus_any _ _ (lnU k) (lnV k) (upT (lnA 8749 k) 3) (upT (lnB 8749 k) 3) w1 ⟨_,_,rfl,ru,rv⟩ ⟨_,_,rfl,rr,rs⟩ h3 h4 (fits_up (n:=3) f5 (by omega) (by show(lnA 8749 k).e≤_;omega)) (fits_up (n:=3) f6 (by omega) (by show(lnB 8749 k).e≤_;omega)))
theorem ln_tell {b:Nat}(hb:10≤b∧b≤1000)(hX:chkN XLn=true)(hL:1119≤Nat.log2 XLn):
  ∃c q B,2^b≤2*c∧c<2^b∧((c*2^q:Nat):Int)≤V (b+64) (lnLo (b+64))∧V (b+64) (lnLo (b+64))≤V (b+64) (lnHi (b+64))∧V (b+64) (lnHi (b+64))< (((c+1)*2^q:Nat):Int)∧(c+1)*2^q≤2^B∧B≤9000∧GoodB XLn b (bare (aY (lnLo (b+64)) b false)) (bare (aY (lnHi (b+64)) b true)):=by
 obtain⟨L,L1,L2,L0,L3,L4,-⟩:=chk_len hX;obtain⟨-,⟨v1,v2⟩,⟨-,-,-,-,e1,e2⟩,-⟩:=ln_V (b+64);obtain⟨D,hD⟩: ∃D,2^ (1120-(b+64))=D:=⟨_,rfl⟩;obtain⟨p1,p2,p3⟩:=lies_I (n:=26) (tn:=0) (by omega) (by omega) hb hD;obtain⟨q1,q2,q3⟩:=lies_I (n:=4801) (tn:=0) (by omega) (by omega) hb hD;obtain⟨r1,r2,r3⟩:=lies_I (n:=8749) (tn:=0) (by omega) (by omega) hb hD;have h16:2*XA 4801 0 1120≤18*XA 26 0 1120+8*XA 8749 0 1120:=by
  have:XLn≠0:=by
   intro e;rw[e] at hL;simp at hL
  unfold XLn at this;omega
 have hXI:(XLn:Int)=18*(XA 26 0 1120:Int)+8*(XA 8749 0 1120:Int)-2*(XA 4801 0 1120:Int):=by
  unfold XLn;rw[Int.ofNat_sub h16];omega
 obtain⟨lo,hlo⟩: ∃x,V (b+64) (lnLo (b+64))=x:=⟨_,rfl⟩;obtain⟨hi,hhi⟩: ∃x,V (b+64) (lnHi (b+64))=x:=⟨_,rfl⟩;rw[hlo] at v1;rw[hhi] at v2;clear h16;generalize(XA 26 0 1120:Int)=X1 at*;generalize(XA 4801 0 1120:Int)=X2 at*;generalize(XA 8749 0 1120:Int)=X3 at*;generalize((3+3*NA 26 0 (b+64):Nat):Int)=w1 at*;generalize((3+3*NA 4801 0 (b+64):Nat):Int)=w2 at*;generalize((3+3*NA 8749 0 (b+64):Nat):Int)=w3 at*;generalize(XA 26 0 (b+64):Int)=x1 at*;generalize(XA 4801 0 (b+64):Int)=x2 at*;generalize(XA 8749 0 (b+64):Int)=x3 at*;have z1:lo*(D:Int)≤(XLn:Int):=by
  rw[v1,hXI];simp only[Int.sub_mul,Int.add_mul,Int.mul_assoc];clear v1 v2 hXI e1 e2 hX hL L3 L4;omega
 have z2:(XLn:Int)≤hi*(D:Int):=by
  rw[v2,hXI];simp only[Int.sub_mul,Int.add_mul,Int.mul_assoc];clear v1 v2 hXI e1 e2 hX hL L3 L4;omega
 have h25:(2:Nat)^23=8388608:=by decide
 have z3:hi≤lo+((2^23:Nat):Int):=by
  rw[h25];omega
 have z4:2^23*D<XLn:=by
  rw[←hD,←Nat.pow_add];exact Nat.lt_of_lt_of_le (Nat.pow_lt_pow_right (by omega) (by omega)) L3
 have z0:=to_nat z2 z3 z4;clear p1 p2 q1 q2 r1 r2 v1 v2 hXI;obtain⟨lN,rfl⟩: ∃n:Nat,lo=(n:Int):=⟨lo.toNat,by omega⟩;have hz:0≤hi:=by
  rcases Int.lt_trichotomy hi 0 with c|c|c
  ·have:=Int.mul_nonpos_of_nonpos_of_nonneg (Int.le_of_lt c) (Int.natCast_nonneg D)
   have:=Int.natCast_nonneg XLn;have:XLn=0:=by omega
   rw[this] at hL;simp at hL
  ·omega
  ·omega
 obtain⟨hN,rfl⟩: ∃n:Nat,hi=(n:Int):=⟨hi.toNat,by omega⟩;rw[←Int.natCast_mul] at z1 z2;refine fam_tell (A:=1119) hX (by omega) hL hb (by omega) (by omega) hlo hhi ?_ ?_ ?_
 ·rw[hD];exact Int.ofNat_le.1 z1
 ·rw[hD];exact Int.ofNat_le.1 z2
 ·exact Int.ofNat_le.1 (by rw[Int.natCast_add];exact z3)
end Go.Proofs.YtiakgfmlpdfhdaaGreatDoor
