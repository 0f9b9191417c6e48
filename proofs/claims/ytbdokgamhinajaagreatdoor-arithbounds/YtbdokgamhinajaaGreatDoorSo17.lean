/-
  Texts laid together: Dy7, Dy9, Dl3, Dt1, Dk1, Gm2, Gm3, Gh1, Gh2.
-/
import Derived.Test.YtbdokgamhinajaaGreatDoorSo16
set_option maxRecDepth 100000
set_option maxHeartbeats 6400000
namespace Go.Proofs.YtbdokgamhinajaaGreatDoor
open _root_.Go.Proofs.Tryz
open Go.RowKit
theorem jw {w:World}{s:Bool}{ao:Option Addr}{ca:Nat}{xs:List Nat}{e:Int}(hr:Rd w .u32 (.slice ao xs.length ca) xs)(sa:Dg.Small 4294967296 xs)(hn:Dg.Norm xs):
  Dv w (ydV s (.slice ao xs.length ca) e) ⟨s,Dg.vl 4294967296 xs,e⟩:=by
 have h:=Dg.eq_dg 4294967296 (by omega) xs _ sa hn rfl;refine⟨_,rfl, ?_⟩;simp only;rw[←h];exact hr
theorem Ac (v u:Value)(a b:ak)(w:World)(hv:Dv w v a)(hu:Dv w u b)(hLa:(Dg.dg 4294967296 a.n).length≤100000)(hLb:(Dg.dg 4294967296 b.n).length≤100000)
  (ha1: -100000≤a.e) (ha2:a.e≤100000) (hb1: -100000≤b.e) (hb2:b.e≤100000):
  Calls Tryz.prog 81 #[v,u] w (jN w (aK a b)):=by
 obtain⟨s0,rfl,ra⟩:=hv;obtain⟨ao,ca,rfl⟩:=ra.shape;obtain⟨s1,rfl,rb⟩:=hu;obtain⟨bo,cb,rfl⟩:=rb.shape;obtain⟨sa,an,ae⟩:=a;obtain⟨sb,bn,be⟩:=b;simp only at ra rb hLa hLb ha1 ha2 hb1 hb2⊢;have HTI:Hid (∀w1,Below w.heap.size w w1→Calls Tryz.prog 116 #[.slice ao (Dg.dg 4294967296 an).length ca,.slice bo (Dg.dg 4294967296 bn).length cb] w1 (Num w1 (an*bn))):=fun w1 b1=>by
  have:=qC _ _ _ _ w1 (ra.l b1) (rb.l b1) (Dg.small_dg _ _ (by omega)) (Dg.small_dg _ _ (by omega)) (by omega) (by omega);rw[Dg.vl_dg _ _ (by omega),Dg.vl_dg _ _ (by omega)] at this;exact this
 unfold aK;simp only;obtain⟨X,hX⟩: ∃X,an*bn=X:=⟨_,rfl⟩;obtain⟨ma,hma⟩: ∃m,(Dg.dg 4294967296 an).length=m:=⟨_,rfl⟩;obtain⟨mb,hmb⟩: ∃m,(Dg.dg 4294967296 bn).length=m:=⟨_,rfl⟩;rw[hX,hma,hmb] at HTI;rw[hX,hma,hmb];clear hX hma hmb ra rb hLa hLb;obtain⟨la,lb,lc,b01,sW⟩:=ju w (.bool sa) (.slice ao ma ca) (.int .i64 ae) (.bool sb) (.slice bo mb cb) (.int .i64 be) (.bool false) (.slice none 0 0) (.int .i64 0) 74 74 74;clear sW;obtain⟨W,hW⟩: ∃W,(((w.alloc (.cells #[.bool sa,.slice ao ma ca,.int .i64 ae] 74)).alloc (.cells #[.bool sb,.slice bo mb cb,.int .i64 be] 74)).alloc (.cells #[.bool false,.slice none 0 0,.int .i64 0] 74))=W:=⟨_,rfl⟩;rw[hW] at la lb lc b01;have bd:Below W.heap.size W W.drew:=(Below.refl _ _).drew;have la:=la.l bd;have lb:=lb.l bd;have lc:=lc.l bd;have b02:=aa b01 bd;rw[←hW] at la lb lc b02;clear bd b01 hW;obtain⟨-,⟨ca0,ca1,ca2⟩,-⟩:=id la;obtain⟨-,⟨cb0,cb1,cb2⟩,-⟩:=id lb;have ne3:w.heap.size+1+1≠w.heap.size:=by omega
 have ne4:w.heap.size≠w.heap.size+1+1:=by omega
 have e4:IntKind.i64.wrap (ae+be)=ae+be:=IntWalk.i64_in _ ⟨by omega,by omega⟩
 go_enter func81,ntmps81
 go_wp2_with fail
 go_region_held3 (fun wq=>(wq.cell? ⟨w.heap.size,0,none⟩=some (.bool sa)∧wq.cell? ⟨w.heap.size,1,none⟩=some (.slice ao ma ca)∧wq.cell? ⟨w.heap.size,2,none⟩=some (.int .i64 ae))∧wq.cell? ⟨w.heap.size+1,0,none⟩=some (.bool sb)∧wq.cell? ⟨w.heap.size+1,1,none⟩=some (.slice bo mb cb)∧wq.cell? ⟨w.heap.size+1,2,none⟩=some (.int .i64 be)) (go_keep) (first
  | (go_at_call 115;refine(cN sa ao ma ca ae _).mono ?_;rintro z w3 ⟨rfl,b3⟩;have la3:=la.l b3;have lb3:=lb.l b3;have lc3:=lc.l b3;have b03:=aa b02 b3;obtain⟨-,⟨p0,p1,p2⟩,-⟩:=id la3;obtain⟨-,⟨p3,p4,p5⟩,-⟩:=id lb3;clear b02)
  | (go_at_call 115;refine(cN sb bo mb cb be w3).mono ?_;rintro z w4 ⟨rfl,b4⟩;have la4:=la3.l b4;have lb4:=lb3.l b4;have lc4:=lc3.l b4;have b04:=aa b03 b4;obtain⟨-,⟨q0,q1,q2⟩,-⟩:=id la4;obtain⟨-,⟨q3,q4,q5⟩,-⟩:=id lb4)
  | (go_at_call 116;refine(HTI.out w4 b04).mono ?_;rintro z w5 ⟨vs,rfl,o5,b5⟩;have la5:=la4.l b5;have lb5:=lb4.l b5;have lc5:=lc4.l b5;have b05:=aa b04 b5;obtain⟨-,⟨t0,t1,t2⟩,-⟩:=id la5;obtain⟨-,⟨t3,t4,t5⟩,-⟩:=id lb5;obtain⟨so,sc,hvs⟩:=o5.rd.shape;subst hvs)
  | (go_at_call 106;refine(l9 (sa != sb) so _ sc _ w5).mono ?_;rintro z w6 ⟨rfl,b6⟩;have la6:=la5.l b6;have lb6:=lb5.l b6;have lc6:=lc5.l b6;have b06:=aa b05 b6;obtain⟨-,⟨u0,u1,u2⟩,-⟩:=id la6;obtain⟨-,⟨u3,u4,u5⟩,-⟩:=id lb6;obtain⟨hl6,⟨d0,d1,d2⟩,f0,f1,f2⟩:=id lc6))
 all_goals go_wp2
 obtain⟨-,⟨g0,g1,g2⟩,-⟩:=aD lc6 (.bool (sa != sb)) (.slice so (Dg.dg 4294967296 X).length sc) (.int .i64 (ae+be));have o7:=(o5.l b6).apart3 (b:=w.heap.size+1+1) lc4.1 (.bool (sa != sb)) (.slice so (Dg.dg 4294967296 X).length sc) (.int .i64 (ae+be));have b8:=am b06 (show w.heap.size≤w.heap.size+1+1 by omega) (.bool (sa != sb)) (.slice so (Dg.dg 4294967296 X).length sc) (.int .i64 (ae+be))
 refine bodyPost_ret (v:= .agg #[.bool (sa != sb),.slice so (Dg.dg 4294967296 X).length sc,.int .i64 (ae+be)]) (by simp[results,results81,go_sem,g0,g1,g2]) rfl ?_;exact⟨_,rfl,o7.lower b04.size,b8⟩
def dJ (t:ak):Int:=if t.n=0 then 0 else if t.s then-1 else 1
theorem qB (v:Value)(t:ak)(w:World)(hv:Dv w v t):yC 104 #[v] w (yR w (yi (dJ t))):=by
 obtain⟨s0,rfl,hr⟩:=hv;obtain⟨ao,ca,rfl⟩:=hr.shape;obtain⟨ts,n,e⟩:=t;have hnl:=Dg.dg_nil_iff 4294967296 n (by omega);simp only at hr⊢;unfold dJ;simp only;obtain⟨m,hm⟩: ∃m,(Dg.dg 4294967296 n).length=m:=⟨_,rfl⟩;have hz:m=0↔n=0:=by rw[←hm,List.length_eq_zero_iff];exact hnl
 rw[hm];have bA:=af w (.cells (ydA ts (.slice ao m ca) e) 74);clear hm hr hnl
 by_cases h:n=0
 ·rw[if_pos h]
  have hm0:=hz.2 h;subst hm0;clear hz h
  go_enter func104,ntmps104
  go_wp2
  go_ret
  exact⟨rfl,bA⟩
 ·rw[if_neg h]
  have hm0:((m:Int)==0)=false:=by
   have: ¬m=0:=fun e=>h (hz.1 e)
   simp;exact this
  clear hz h
  cases ts
  ·go_enter func104,ntmps104
   go_wp2
   go_ret
   exact⟨rfl,bA⟩
  ·go_enter func104,ntmps104
   go_wp2
   go_ret
   exact⟨rfl,bA⟩
theorem YA (s:Bool)(ao:Option Addr)(la ca:Nat)(e:Int)(w:World):
  yC 169 #[ydV s (.slice ao la ca) e] w (yR w (ydV (!s) (.slice ao la ca) e)):=by
 go_enter func169,ntmps169
 go_wp2
 go_returns
 exact⟨rfl,((Below.refl _ _).alloc (Nat.le_refl _) _).alloc (by simp[World.size_alloc]) _⟩
theorem FT (v u:Value)(a b:ak)(w:World)(hv:Dv w v a)(hu:Dv w u b)(hLa:(Dg.dg 4294967296 a.n).length≤100000)(hLb:(Dg.dg 4294967296 b.n).length≤100000)
  (ha1: -100000≤a.e) (ha2:a.e≤100000) (hb1: -100000≤b.e) (hb2:b.e≤100000):
  Calls Tryz.prog 143 #[v,u] w (jN w (aG a (dV b))):=by
 obtain⟨s0,rfl,ra⟩:=hv;obtain⟨ao,ca,rfl⟩:=ra.shape;obtain⟨s1,rfl,rb⟩:=hu;obtain⟨bo,cb,rfl⟩:=rb.shape;obtain⟨sa,an,ae⟩:=a;obtain⟨sb,bn,be⟩:=b;simp only at ra rb hLa hLb ha1 ha2 hb1 hb2⊢;have HP:Hid (∀w1,Below w.heap.size w w1→Calls Tryz.prog 62 #[.agg #[.bool sa,.slice ao (Dg.dg 4294967296 an).length ca,.int .i64 ae],.agg #[.bool (!sb),.slice bo (Dg.dg 4294967296 bn).length cb,.int .i64 be]] w1 (jN w1 (aG ⟨sa,an,ae⟩ (dV ⟨sb,bn,be⟩)))):=fun w1 b1=>
  uj _ _ ⟨sa,an,ae⟩ (dV ⟨sb,bn,be⟩) w1 ⟨_,rfl,ra.l b1⟩ ⟨_,rfl,rb.l b1⟩ hLa hLb ha1 ha2 hb1 hb2
 obtain⟨ma,hma⟩: ∃m,(Dg.dg 4294967296 an).length=m:=⟨_,rfl⟩;obtain⟨mb,hmb⟩: ∃m,(Dg.dg 4294967296 bn).length=m:=⟨_,rfl⟩;rw[hma,hmb] at HP⊢;obtain⟨⟨rs,rn,re⟩,hrr⟩: ∃r,aG ⟨sa,an,ae⟩ (dV ⟨sb,bn,be⟩)=r:=⟨_,rfl⟩;rw[hrr] at HP⊢;clear hma hmb hrr ra rb hLa hLb;obtain⟨la,lb,lc,b01,-⟩:=ju w (.bool sa) (.slice ao ma ca) (.int .i64 ae) (.bool sb) (.slice bo mb cb) (.int .i64 be) (.bool false) (.slice none 0 0) (.int .i64 0) 74 74 74;obtain⟨W,hW⟩: ∃W,(((w.alloc (.cells #[.bool sa,.slice ao ma ca,.int .i64 ae] 74)).alloc (.cells #[.bool sb,.slice bo mb cb,.int .i64 be] 74)).alloc (.cells #[.bool false,.slice none 0 0,.int .i64 0] 74))=W:=⟨_,rfl⟩;rw[hW] at la lb lc b01;have bd:Below W.heap.size W W.drew:=(Below.refl _ _).drew;replace la:=la.l bd;replace lb:=lb.l bd;replace lc:=lc.l bd;have b02:=aa b01 bd;rw[←hW] at la lb lc b02;clear bd b01 hW;obtain⟨-,⟨ca0,ca1,ca2⟩,-⟩:=id la;obtain⟨-,⟨cb0,cb1,cb2⟩,-⟩:=id lb;have ne3:w.heap.size+1+1≠w.heap.size:=by omega
 have ne4:w.heap.size≠w.heap.size+1+1:=by omega
 go_enter func143,ntmps143
 go_wp2_with fail
 go_region_held3 (fun wq=>(wq.cell? ⟨w.heap.size,0,none⟩=some (.bool sa)∧wq.cell? ⟨w.heap.size,1,none⟩=some (.slice ao ma ca)∧wq.cell? ⟨w.heap.size,2,none⟩=some (.int .i64 ae))∧wq.cell? ⟨w.heap.size+1,0,none⟩=some (.bool sb)∧wq.cell? ⟨w.heap.size+1,1,none⟩=some (.slice bo mb cb)∧wq.cell? ⟨w.heap.size+1,2,none⟩=some (.int .i64 be)) (go_keep) (first
  | (go_at_call 169;refine(YA sb bo mb cb be _).mono ?_;rintro z w5 ⟨rfl,b5⟩;have la5:=la.l b5;have lb5:=lb.l b5;have lc5:=lc.l b5;have b05:=aa b02 b5;obtain⟨-,⟨t0,t1,t2⟩,-⟩:=id la5;obtain⟨-,⟨t3,t4,t5⟩,-⟩:=id lb5)
  | (go_at_call 62;refine(HP.out w5 b05).mono ?_;rintro z w6 ⟨vr,rfl,o6,b6⟩;have la6:=la5.l b6;have lb6:=lb5.l b6;have lc6:=lc5.l b6;have b06:=aa b05 b6;obtain⟨-,⟨u0,u1,u2⟩,-⟩:=id la6;obtain⟨-,⟨u3,u4,u5⟩,-⟩:=id lb6;obtain⟨so,sc,hvt⟩:=o6.rd.shape;subst hvt;obtain⟨hl6,⟨d0,d1,d2⟩,f0,f1,f2⟩:=id lc6))
 all_goals go_wp2
 have hlt:=lc5.1;obtain⟨-,⟨g0,g1,g2⟩,-⟩:=aD lc6 (.bool rs) (.slice so (Dg.dg 4294967296 rn).length sc) (.int .i64 re);have b8:=am b06 (show w.heap.size≤w.heap.size+1+1 by omega) (.bool rs) (.slice so (Dg.dg 4294967296 rn).length sc) (.int .i64 re)
 refine bodyPost_ret (v:= .agg #[.bool rs,.slice so (Dg.dg 4294967296 rn).length sc,.int .i64 re]) (by simp[results,results143,go_sem,g0,g1,g2]) rfl ?_;exact⟨_,rfl,(o6.apart3 hlt _ _ _).lower (by have:=b05.size;omega),b8⟩
theorem iE (v u:Value)(a b:ak)(w:World)(hv:Dv w v a)(hu:Dv w u b)(hLa:(Dg.dg 4294967296 a.n).length≤100000)(hLb:(Dg.dg 4294967296 b.n).length≤100000)
  (ha1: -100000≤a.e) (ha2:a.e≤100000) (hb1: -100000≤b.e) (hb2:b.e≤100000):
  yC 101 #[v,u] w (yR w (yi (dJ (aG a (dV b))))):=by
 have HM:Hid (∀w1,yB w w1→yC 143 #[v,u] w1 (jN w1 (aG a (dV b)))):=fun w1 b1=>FT v u a b w1 (hv.l b1) (hu.l b1) hLa hLb ha1 ha2 hb1 hb2
 obtain⟨s0,rfl,ra⟩:=hv;obtain⟨ao,ca,rfl⟩:=ra.shape;obtain⟨s1,rfl,rb⟩:=hu;obtain⟨bo,cb,rfl⟩:=rb.shape;obtain⟨T,hT⟩: ∃T,aG a (dV b)=T:=⟨_,rfl⟩;rw[hT] at HM⊢;obtain⟨ma,hma⟩: ∃m,(Dg.dg 4294967296 a.n).length=m:=⟨_,rfl⟩;obtain⟨mb,hmb⟩: ∃m,(Dg.dg 4294967296 b.n).length=m:=⟨_,rfl⟩;rw[hma,hmb] at HM⊢;clear hT hma hmb ra rb;have bA:=aa (af w (.cells (ydA a.s (.slice ao ma ca) a.e) 74)) (af _ (.cells (ydA b.s (.slice bo mb cb) b.e) 74))
 go_enter func101,ntmps101
 go_wp2_with fail
 refine(HM.out _ bA).mono ?_;rintro z w1 ⟨vr,rfl,o1,b1⟩;have b01:=aa bA b1
 go_wp2_with fail
 refine(qB _ T w1 ⟨_,rfl,o1.rd⟩).mono ?_;rintro z w2 ⟨rfl,b2⟩;have b02:=aa b01 b2
 go_wp2
 go_ret
 exact⟨rfl,b02⟩
theorem kR (t:ak):(bare t).n≤t.n:=by
 unfold bare
 split
 ·exact Nat.zero_le _
 ·exact Nat.div_le_self _ _
theorem nt {n:Nat}{e:Int}(h:(Dg.dg 4294967296 n).length≤1200)(h1: -20000≤e)(h2:e≤20000):aS (Dg.dg 4294967296 n) e=0:=by
 unfold aS;rw[pJ (Dg.norm_dg _ _ (by omega)) h,if_pos rfl,if_neg (by omega)]
theorem Ad (q k:Nat)(h:q≠0):bitLen (2^k*q)=k+bitLen q:=by
 have hd:2^k*q/2^k=q:=Nat.mul_div_cancel_left q (Nat.pow_pos (by omega));have:=bitLen_shift (2^k*q) k (by rw[hd];exact h)
 rwa [hd] at this
theorem gf {a L:Nat}(h:(Dg.dg 4294967296 a).length≤L):bitLen a≤32*L:=by
 refine bF a _ ?_;rw[Nat.pow_mul];have h1:=Dg.vl_lt 4294967296 _ (Dg.small_dg 4294967296 a (by omega));rw[Dg.vl_dg _ _ (by omega)] at h1;exact Nat.lt_of_lt_of_le h1 (Nat.pow_le_pow_right (by omega) h)
def cP (R D L:Int)(gr:Bool)(n:Nat)(e:Int):Int:=
 if(decide (aT R D ((bitLen n:Int)-1+e)<L)&&gr)=true then L else aT R D ((bitLen n:Int)-1+e)
def dA (R D L G:Int)(gr:Bool)(n:Nat)(e:Int):Bool:=
 decide (n=0∨(L≤cP R D L gr n e∧cP R D L gr n e≤G∧(ai R:Int)*cP R D L gr n e≤e+(tz n:Int)))
def inR (R D L G:Int)(gr:Bool)(m:Nat)(e:Int):Bool:=
 decide (m=0∨((ai R:Int)*L≤e∧e+(bitLen m:Int)≤(ai R:Int)*(G+D)∧(gr=true∨L≤aT R D (e+(bitLen m:Int)-1))∧(ai R:Int)*max L (aT R D (e+(bitLen m:Int)-1))≤e))
theorem gN {t:ak}(h:t.n≠0):(bare t).n≠0∧(bare t).e=t.e+(tz t.n:Int)∧(bare t).e+(bitLen (bare t).n:Int)=t.e+(bitLen t.n:Int):=by
 obtain⟨m,hm⟩:=fO h;have e:(bare t).n=2*m+1∧(bare t).e=t.e+(tz t.n:Int):=by
  unfold bare;rw[if_neg h];exact⟨lI hm,rfl⟩
 have hb:bitLen t.n=tz t.n+bitLen (2*m+1):=by
  have:=Ad (2*m+1) (tz t.n) (by omega)
  rwa [←hm] at this
 refine⟨by omega,e.2, ?_⟩;rw[e.1,e.2,hb];omega
theorem jK {R D L G:Int}(gr:Bool)(t:ak)(hLG:L≤G):inR R D L G gr (bare t).n (bare t).e=dA R D L G gr t.n t.e:=by
 unfold inR dA;refine decide_eq_decide.2 ?_
 by_cases h:t.n=0
 ·have:(bare t).n=0:=by unfold bare;rw[if_pos h]
  simp only[h,this,true_or]
 ·obtain⟨h1,h2,h3⟩:=gN h
  rw[h3];simp only[h1,h,false_or,h2];unfold cP;rw[show t.e+(bitLen t.n:Int)-1=(bitLen t.n:Int)-1+t.e by omega]
  obtain⟨p,hp⟩: ∃p,(bitLen t.n:Int)-1+t.e=p:=⟨_,rfl⟩;rw[show t.e+(bitLen t.n:Int)=p+1 by omega,hp]
  clear h1 h2 h3 h;obtain⟨z,hz⟩: ∃z,t.e+(tz t.n:Int)=z:=⟨_,rfl⟩;rw[hz];have hw:aT R D p=p/(ai R:Int)-(D-1):=rfl;obtain⟨k,hk⟩: ∃k,aT R D p=k:=⟨_,rfl⟩;rw[hk] at hw⊢;clear hp hz hk;unfold ai at*
  cases gr<;>by_cases h16:R=16<;>simp only[h16,if_true,if_false] at hw⊢ <;>by_cases hl:k<L<;>simp[hl]<;>omega
theorem aaN {d j k:Nat}(h1:2^j≤d)(h2:d<2^k):j<bitLen d∧bitLen d≤k:=by
 have a:=pP d j;have b:=bF d k h2;omega
theorem Ep {R D k:Int}{d:Nat}(hD:1≤D)(h1:2^ (ai R*(D-1).toNat)≤d)(h2:d<2^ (ai R*D.toNat)):aT R D ((bitLen d:Int)-1+(ai R:Int)*k)=k:=by
 obtain⟨b1,b2⟩:=aaN h1 h2;unfold aT;obtain⟨b,hb⟩: ∃b,bitLen d=b:=⟨_,rfl⟩;rw[hb] at b1 b2⊢;unfold ai at*
 split at b1<;>simp_all<;>omega
theorem Il {R D k:Int}{d:Nat}(hD:1≤D)(h2:d<2^ (ai R*D.toNat)):aT R D ((bitLen d:Int)-1+(ai R:Int)*k)≤k:=by
 have b2:=bF d _ h2;unfold aT;obtain⟨b,hb⟩: ∃b,bitLen d=b:=⟨_,rfl⟩;rw[hb] at b2⊢;unfold ai at*
 split at b2<;>simp_all<;>omega
theorem Sg {R D L k:Int}{gr:Bool}{d:Nat}(hD:1≤D)(h2:d<2^ (ai R*D.toNat))(hk:L≤k)(hf:2^ (ai R*(D-1).toNat)≤d∨(gr=true∧k=L)):cP R D L gr d ((ai R:Int)*k)=k:=by
 unfold cP
 rcases hf with h1| ⟨rfl,rfl⟩
 ·rw[Ep hD h1 h2,decide_eq_false (by omega)]
  rfl
 ·have h:=Il (k:=k) hD h2
  by_cases c:aT R D ((bitLen d:Int)-1+(ai R:Int)*k)<k
  ·rw[decide_eq_true c]
   rfl
  ·rw[decide_eq_false c]
   show aT R D ((bitLen d:Int)-1+(ai R:Int)*k)=k
   omega
theorem tN {R D L G k:Int}{gr:Bool}{d:Nat}(hD:1≤D)(h2:d<2^ (ai R*D.toNat))(hk:L≤k)(hf:2^ (ai R*(D-1).toNat)≤d∨(gr=true∧k=L))(h0:d≠0):dA R D L G gr d ((ai R:Int)*k)=decide (k≤G):=by
 unfold dA;rw[Sg hD h2 hk hf];refine decide_eq_decide.2 ?_;omega
theorem tO (R D L G:Int)(gr:Bool)(e:Int):dA R D L G gr 0 e=true:=decide_eq_true (.inl rfl)
def D7 (w:World)(h:Bool)(d:Nat)(k:Int)(e:Ending)(w':World):Prop:=
 ∃u,e= .returned (.tuple #[.agg #[u,yi k],.bool h])∧Own w' w.heap.size 148 .u32 u (Dg.dg 4294967296 d)∧yB w w'
theorem G0 (b:Bool)(x:Option Addr)(y z:Nat)(e:Int)(W:World):(Instr.field 74 (ydV b (.slice x y z) e) 0).run Tryz.prog W= .ok (ydV b (.slice x y z) e) W:=by kernel_rfl
theorem Ju (b:Bool)(x:Option Addr)(y z:Nat)(e:Int)(W:World):(Instr.field 72 (ydV b (.slice x y z) e) 2).run Tryz.prog W= .ok (yi e) W:=by kernel_rfl
theorem RT (R D L G:Int)(gr s:Bool)(ao:Option Addr)(la ca:Nat)(e:Int)(w:World)
  (HSG:yH w 104 #[ydV s (.slice ao la ca) e] (yi 0)):
  yC 198 #[ygV R D L G gr,ydV s (.slice ao la ca) e] w (D7 w true 0 L):=by
 replace HSG:Hid _:=HSG;have b1:=aa (aa (af w (.cells (ygA R D L G gr) 140)) (af _ (.cells (ydA s (.slice ao la ca) e) 74))) (af _ (.cells #[yN,yi 0] 182));have g1:=((ah w (ygL R D L G gr) 140).l (af _ (.cells (ydA s (.slice ao la ca) e) 74))).l (af _ (.cells #[yN,yi 0] 182));have q1:=(ah (w.alloc (.cells (ygA R D L G gr) 140)) (ydL s (.slice ao la ca) e) 74).l (af _ (.cells #[yN,yi 0] 182));have c1:=ah ((w.alloc (.cells (ygA R D L G gr) 140)).alloc (.cells (ydA s (.slice ao la ca) e) 74)) [yN,yi 0] 182;simp only[World.size_alloc] at q1 c1;obtain⟨y0,y1,y2⟩:=q1.cs3
 go_enter func198,ntmps198
 go_wp2_with fail
 refine(HSG.out _ b1).mono ?_;rintro z w2 ⟨rfl,bb2⟩;clear y0 y1 y2;have g_2:=g1.l bb2;have q_2:=q1.l bb2;have c_2:=c1.l bb2;have b0_2:=aa b1 bb2;clear g1 q1 c1 b1 bb2;have x2:=g_2.c 2 rfl;have d0:=c_2.c 0 rfl;have f0:=c_2.f 0;have d1:=c_2.c 1 rfl;have f1:=c_2.f 1
 go_wp2
 have bu:But (w.heap.size+1+1) w2 ((w2.setCell ⟨w.heap.size+1+1,0,none⟩ yN).setCell ⟨w.heap.size+1+1,1,none⟩ (yi L)):=(ag w2 (w.heap.size+1+1) 0 yN).trans (ag _ (w.heap.size+1+1) 1 (yi L));have cX:au ((w2.setCell ⟨w.heap.size+1+1,0,none⟩ yN).setCell ⟨w.heap.size+1+1,1,none⟩ (yi L)) (w.heap.size+1+1) 182 [yN,yi L]:=(c_2.set 0 yN).set 1 (yi L);have bX:=bu.below b0_2 (show w.heap.size≤w.heap.size+1+1 by omega)
 obtain⟨s0,s1⟩:=cX.cs2;refine bodyPost_ret (v:= .tuple #[.agg #[yN,yi L],.bool true]) (by simp[results,results198,go_sem,s0,s1]) rfl ?_;exact⟨_,rfl,aQ _ _ _ _,bX⟩
theorem adT (R D L G:Int)(gr s:Bool)(ao:Option Addr)(la ca:Nat)(e sg bl pw K wd:Int)(bs:Bool)(bn:Nat)(be:Int)(un bb hb:Bool)(rd:Nat)(rk:Int)(w:World)
  (hsg:(sg==0)=false) (W1:IntKind.i64.wrap (bl-1)=bl-1) (W2:IntKind.i64.wrap (bl-1+e)=bl-1+e) (W3:IntKind.i64.wrap (wd*K)=wd*K) (W4:IntKind.i64.wrap (e-wd*K)=e-wd*K)
  (hun:un=decide (pw<L)) (hbb:(un&&gr)=bb) (HP1:bb=true→K=L) (HP2:bb=false→K=pw)
  (HH1:hb=true→ ¬K<L∧ ¬G<K∧ ¬be<wd*K) (HH2:hb=false→K<L∨(¬K<L∧G<K)∨(¬K<L∧ ¬G<K∧be<wd*K)) (HR1:hb=true→rk=K) (HR2:hb=false→rd=0∧rk=0)
  (HSG:yH w 104 #[ydV s (.slice ao la ca) e] (yi sg))
  (HDI:yJ 115 #[ydV s (.slice ao la ca) e] (.slice ao la ca))
  (HBI:yH w 138 #[.slice ao la ca] (yi bl))
  (HPW:yJ 126 #[ygV R D L G gr,yi (bl-1+e)] (yi pw))
  (HWD:yJ 129 #[ygV R D L G gr] (yi wd))
  (HBA: ∀w1,yB w w1→yC 201 #[ydV s (.slice ao la ca) e] w1 (jN w1 ⟨bs,bn,be⟩))
  (HSH:hb=true→ ∀w1,yB w w1→yC 130 #[.slice ao la ca,yi (e-wd*K)] w1 (Num w1 rd)):
  yC 198 #[ygV R D L G gr,ydV s (.slice ao la ca) e] w (D7 w hb rd rk):=by
 replace HP1:Hid _:=HP1;replace HP2:Hid _:=HP2;replace HH1:Hid _:=HH1;replace HH2:Hid _:=HH2;replace HR1:Hid _:=HR1;replace HR2:Hid _:=HR2;replace HSG:Hid _:=HSG;replace HDI:Hid _:=HDI;replace HBI:Hid _:=HBI;replace HPW:Hid _:=HPW;replace HWD:Hid _:=HWD;replace HBA:Hid _:=HBA;replace HSH:Hid _:=HSH;have HUN:Hid _:=hun;have HBB:Hid _:=hbb;clear hun hbb;have b1:=aa (aa (af w (.cells (ygA R D L G gr) 140)) (af _ (.cells (ydA s (.slice ao la ca) e) 74))) (af _ (.cells #[yN,yi 0] 182));have g1:=((ah w (ygL R D L G gr) 140).l (af _ (.cells (ydA s (.slice ao la ca) e) 74))).l (af _ (.cells #[yN,yi 0] 182));have q1:=(ah (w.alloc (.cells (ygA R D L G gr) 140)) (ydL s (.slice ao la ca) e) 74).l (af _ (.cells #[yN,yi 0] 182));have c1:=ah ((w.alloc (.cells (ygA R D L G gr) 140)).alloc (.cells (ydA s (.slice ao la ca) e) 74)) [yN,yi 0] 182;simp only[World.size_alloc] at q1 c1;obtain⟨y0,y1,y2⟩:=q1.cs3
 go_enter func198,ntmps198
 go_wp2_with fail
 refine(HSG.out _ b1).mono ?_;rintro z w2 ⟨rfl,bb2⟩;clear y0 y1 y2;have g_2:=g1.l bb2;have q_2:=q1.l bb2;have c_2:=c1.l bb2;have b0_2:=aa b1 bb2;clear g1 q1 c1 b1 bb2;have bd_2:yB w2 w2.drew:=(Below.refl _ _).drew;have g_3:=g_2.l bd_2;have q_3:=q_2.l bd_2;have c_3:=c_2.l bd_2;have b0_3:=aa b0_2 bd_2;clear g_2 q_2 c_2 b0_2 bd_2;obtain⟨x0,x1,x2,x3,x4⟩:=g_3.cs5;obtain⟨y0,y1,y2⟩:=q_3.cs3
 go_wp2_with fail
 go_region_held3 (fun wq=>(wq.cell? ⟨w.heap.size,0,none⟩=some (yi R)∧wq.cell? ⟨w.heap.size,1,none⟩=some (yi D)∧wq.cell? ⟨w.heap.size,2,none⟩=some (yi L)∧wq.cell? ⟨w.heap.size,3,none⟩=some (yi G)∧wq.cell? ⟨w.heap.size,4,none⟩=some (.bool gr))∧wq.cell? ⟨w.heap.size+1,0,none⟩=some (.bool s)∧wq.cell? ⟨w.heap.size+1,1,none⟩=some (.slice ao la ca)∧wq.cell? ⟨w.heap.size+1,2,none⟩=some (yi e)) (go_keep) (first
  | (go_at_call 115;have hgd:=b0_3;clear hgd;refine(HDI.out _).mono ?_;rintro z wa ⟨rfl,bb_wa⟩;have b0_wa:=aa b0_3 bb_wa;have g_wa:=g_3.l bb_wa;have q_wa:=q_3.l bb_wa;have c_wa:=c_3.l bb_wa;obtain⟨xwa0,xwa1,xwa2,xwa3,xwa4⟩:=g_wa.cs5;obtain⟨ywa0,ywa1,ywa2⟩:=q_wa.cs3;clear b0_3)
  | (go_at_call 138;have hgd:=b0_wa;clear hgd;refine(HBI.out _ b0_wa).mono ?_;rintro z wb ⟨rfl,bb_wb⟩;have b0_wb:=aa b0_wa bb_wb;have g_wb:=g_wa.l bb_wb;have q_wb:=q_wa.l bb_wb;have c_wb:=c_wa.l bb_wb;obtain⟨xwb0,xwb1,xwb2,xwb3,xwb4⟩:=g_wb.cs5;obtain⟨ywb0,ywb1,ywb2⟩:=q_wb.cs3;clear b0_wa)
  | (go_at_call 126;have hgd:=b0_wb;clear hgd;refine(HPW.out _).mono ?_;rintro z wc ⟨rfl,bb_wc⟩;have b0_wc:=aa b0_wb bb_wc;have g_wc:=g_wb.l bb_wc;have q_wc:=q_wb.l bb_wc;have c_wc:=c_wb.l bb_wc;obtain⟨xwc0,xwc1,xwc2,xwc3,xwc4⟩:=g_wc.cs5;obtain⟨ywc0,ywc1,ywc2⟩:=q_wc.cs3;clear b0_wb))
 go_goals
 clear x0 x1 x2 x3 x4 y0 y1 y2 xwa0 xwa1 xwa2 xwa3 xwa4 xwb0 xwb1 xwb2 xwb3 xwb4 xwc0 xwc1 xwc2 xwc3 xwc4 ywa0 ywa1 ywa2 ywb0 ywb1 ywb2 ywc0 ywc1 ywc2;have x2:=g_wc.c 2 rfl;have x4:=g_wc.c 4 rfl;have hlt:decide (pw<L)=un:=HUN.out.symm
 go_upto_region 4 with fail
 skip
 go_cut [34] (fun s34 wx=>s34= .bool bb∧wx=wc)
 case first=>
  cases un
  ·go_wp2_with fail
   go_meet
   exact⟨by rw[←HBB.out];rfl,rfl⟩
  ·go_wp2_with fail
   go_meet
   exact⟨by rw[←HBB.out];rfl,rfl⟩
 case rest=>
  obtain⟨rfl,hw34⟩:=hcut;subst hw34
  go_upto_if 34 with fail
  go_cut [6] (fun s6 wx=>s6=yi K∧wx=wc)
  case first=>
   cases bb
   ·have eK:Hid (K=pw):=HP2.out rfl
    go_wp2_with fail
    go_meet
    exact⟨by rw[eK.out],rfl⟩
   ·have eK:Hid (K=L):=HP1.out rfl
    go_wp2_with fail
    go_meet
    exact⟨by rw[eK.out],rfl⟩
  case rest=>
   obtain⟨rfl,hw6⟩:=hcut;subst hw6;clear x2 x4 hlt HP1 HP2;obtain⟨x0,x1,x2,x3,x4⟩:=g_wc.cs5
   go_wp2_with fail
   refine(HWD.out _).mono ?_;rintro z w5 ⟨rfl,bb5⟩;clear x0 x1 x2 x3 x4;have g_11:=g_wc.l bb5;have q_11:=q_wc.l bb5;have c_11:=c_wc.l bb5;have b0_11:=aa b0_wc bb5;clear g_wc q_wc c_wc b0_wc bb5;obtain⟨x0,x1,x2,x3,x4⟩:=g_11.cs5;obtain⟨y0,y1,y2⟩:=q_11.cs3
   cases hb
   ·obtain⟨rfl,rfl⟩:=HR2.out rfl
    have hx:=HH2.out rfl;clear HH1 HH2 HR1 HR2 HSH
    rcases hx with hx| ⟨hx1,hx⟩| ⟨hx1,hx2,hx⟩
    ·skip
     have d0:=c_11.c 0 rfl;have f0:=c_11.f 0;have d1:=c_11.c 1 rfl;have f1:=c_11.f 1
     go_wp2
     have bu:But (w.heap.size+1+1) w5 ((w5.setCell ⟨w.heap.size+1+1,0,none⟩ yN).setCell ⟨w.heap.size+1+1,1,none⟩ (yi 0)):=(ag w5 (w.heap.size+1+1) 0 yN).trans (ag _ (w.heap.size+1+1) 1 (yi 0));have cX:au ((w5.setCell ⟨w.heap.size+1+1,0,none⟩ yN).setCell ⟨w.heap.size+1+1,1,none⟩ (yi 0)) (w.heap.size+1+1) 182 [yN,yi 0]:=(c_11.set 0 yN).set 1 (yi 0);have bX:=bu.below b0_11 (show w.heap.size≤w.heap.size+1+1 by omega)
     obtain⟨s0,s1⟩:=cX.cs2;refine bodyPost_ret (v:= .tuple #[.agg #[yN,yi 0],.bool false]) (by simp[results,results198,go_sem,s0,s1]) rfl ?_;exact⟨_,rfl,aQ _ _ _ _,bX⟩
    ·have e1:decide (K<L)=false:=decide_eq_false (by omega)
     have d0:=c_11.c 0 rfl;have f0:=c_11.f 0;have d1:=c_11.c 1 rfl;have f1:=c_11.f 1
     go_wp2
     have bu:But (w.heap.size+1+1) w5 ((w5.setCell ⟨w.heap.size+1+1,0,none⟩ yN).setCell ⟨w.heap.size+1+1,1,none⟩ (yi 0)):=(ag w5 (w.heap.size+1+1) 0 yN).trans (ag _ (w.heap.size+1+1) 1 (yi 0));have cX:au ((w5.setCell ⟨w.heap.size+1+1,0,none⟩ yN).setCell ⟨w.heap.size+1+1,1,none⟩ (yi 0)) (w.heap.size+1+1) 182 [yN,yi 0]:=(c_11.set 0 yN).set 1 (yi 0);have bX:=bu.below b0_11 (show w.heap.size≤w.heap.size+1+1 by omega)
     obtain⟨s0,s1⟩:=cX.cs2;refine bodyPost_ret (v:= .tuple #[.agg #[yN,yi 0],.bool false]) (by simp[results,results198,go_sem,s0,s1]) rfl ?_;exact⟨_,rfl,aQ _ _ _ _,bX⟩
    ·have e1:decide (K<L)=false:=decide_eq_false (by omega)
     have e2:decide (G<K)=false:=decide_eq_false (by omega)
     go_wp2_with fail
     refine(HBA.out _ b0_11).mono ?_;rintro z w6 ⟨vb,rfl,ob6,bb6⟩;obtain⟨vo6,vc6,hvb6⟩:=ob6.rd.shape;subst hvb6;clear ob6;have hfd:=fun W=>G0 bs vo6 (Dg.dg 4294967296 bn).length vc6 be W
     have hfe:=fun W=>Ju bs vo6 (Dg.dg 4294967296 bn).length vc6 be W
     clear x0 x1 x2 x3 x4 y0 y1 y2;have g_12:=g_11.l bb6;have q_12:=q_11.l bb6;have c_12:=c_11.l bb6;have b0_12:=aa b0_11 bb6;clear g_11 q_11 c_11 b0_11 bb6;have d0:=c_12.c 0 rfl;have f0:=c_12.f 0;have d1:=c_12.c 1 rfl;have f1:=c_12.f 1
     go_wp2
     have bu:But (w.heap.size+1+1) w6 ((w6.setCell ⟨w.heap.size+1+1,0,none⟩ yN).setCell ⟨w.heap.size+1+1,1,none⟩ (yi 0)):=(ag w6 (w.heap.size+1+1) 0 yN).trans (ag _ (w.heap.size+1+1) 1 (yi 0));have cX:au ((w6.setCell ⟨w.heap.size+1+1,0,none⟩ yN).setCell ⟨w.heap.size+1+1,1,none⟩ (yi 0)) (w.heap.size+1+1) 182 [yN,yi 0]:=(c_12.set 0 yN).set 1 (yi 0);have bX:=bu.below b0_12 (show w.heap.size≤w.heap.size+1+1 by omega)
     obtain⟨s0,s1⟩:=cX.cs2;refine bodyPost_ret (v:= .tuple #[.agg #[yN,yi 0],.bool false]) (by simp[results,results198,go_sem,s0,s1]) rfl ?_;exact⟨_,rfl,aQ _ _ _ _,bX⟩
   ·obtain⟨h1,h2,h3⟩:=HH1.out rfl
    have hrk:=HR1.out rfl;have HS1:Hid _:=HSH.out rfl;clear HH1 HH2 HR1 HR2 HSH;subst hrk;have e1:decide (rk<L)=false:=decide_eq_false (by omega);have e2:decide (G<rk)=false:=decide_eq_false (by omega);have e3:decide (be<wd*rk)=false:=decide_eq_false (by omega)
    go_wp2_with fail
    refine(HBA.out _ b0_11).mono ?_;rintro z w6 ⟨vb,rfl,ob6,bb6⟩;obtain⟨vo6,vc6,hvb6⟩:=ob6.rd.shape;subst hvb6;clear ob6;have hfd:=fun W=>G0 bs vo6 (Dg.dg 4294967296 bn).length vc6 be W
    have hfe:=fun W=>Ju bs vo6 (Dg.dg 4294967296 bn).length vc6 be W
    clear x0 x1 x2 x3 x4 y0 y1 y2;have g_12:=g_11.l bb6;have q_12:=q_11.l bb6;have c_12:=c_11.l bb6;have b0_12:=aa b0_11 bb6;clear g_11 q_11 c_11 b0_11 bb6;have bd_12:yB w6 w6.drew:=(Below.refl _ _).drew;have g_13:=g_12.l bd_12;have q_13:=q_12.l bd_12;have c_13:=c_12.l bd_12;have b0_13:=aa b0_12 bd_12;clear g_12 q_12 c_12 b0_12 bd_12;obtain⟨y0,y1,y2⟩:=q_13.cs3;have nA:w.heap.size+1+1≠w.heap.size+1:=by omega
    go_wp2_with fail
    go_region_held3 (fun wq=>wq.cell? ⟨w.heap.size+1,0,none⟩=some (.bool s)∧wq.cell? ⟨w.heap.size+1,1,none⟩=some (.slice ao la ca)∧wq.cell? ⟨w.heap.size+1,2,none⟩=some (yi e)) (go_keep) (first
     | (go_at_call 115;have hgd:=b0_13;clear hgd;refine(HDI.out _).mono ?_;rintro z wf ⟨rfl,bb_wf⟩;have b0_wf:=aa b0_13 bb_wf;have g_wf:=g_13.l bb_wf;have q_wf:=q_13.l bb_wf;have c_wf:=c_13.l bb_wf;obtain⟨ywf0,ywf1,ywf2⟩:=q_wf.cs3;clear b0_13)
     | (go_at_call 130;have hgd:=b0_wf;clear hgd;refine(HS1.out _ b0_wf).mono ?_;rintro z wg ⟨vs,rfl,os,bb_wg⟩;have b0_wg:=aa b0_wf bb_wg;have g_wg:=g_wf.l bb_wg;have q_wg:=q_wf.l bb_wg;have c_wg:=c_wf.l bb_wg;obtain⟨ywg0,ywg1,ywg2⟩:=q_wg.cs3;obtain⟨so,sc,hvs⟩:=os.rd.shape;subst hvs;obtain⟨d0,d1⟩:=c_wg.cs2;have f0:=c_wg.f 0;have f1:=c_wg.f 1;have oL:=os.lower b0_wf.size;clear b0_wf))
    go_goals
    clear d0 d1 f0 f1;have d0:=c_wg.c 0 rfl;have f0:=c_wg.f 0;have d1:=c_wg.c 1 rfl;have f1:=c_wg.f 1
    go_wp2
    have bu:But (w.heap.size+1+1) wg ((wg.setCell ⟨w.heap.size+1+1,0,none⟩ (yT so rd sc)).setCell ⟨w.heap.size+1+1,1,none⟩ (yi rk)):=(ag wg (w.heap.size+1+1) 0 (yT so rd sc)).trans (ag _ (w.heap.size+1+1) 1 (yi rk));have cX:au ((wg.setCell ⟨w.heap.size+1+1,0,none⟩ (yT so rd sc)).setCell ⟨w.heap.size+1+1,1,none⟩ (yi rk)) (w.heap.size+1+1) 182 [yT so rd sc,yi rk]:=(c_wg.set 0 (yT so rd sc)).set 1 (yi rk);have bX:=bu.below b0_wg (show w.heap.size≤w.heap.size+1+1 by omega)
    have oX:=bu.own oL c_wg (by decide);obtain⟨s0,s1⟩:=cX.cs2;refine bodyPost_ret (v:= .tuple #[.agg #[yT so rd sc,yi rk],.bool true]) (by simp[results,results198,go_sem,s0,s1]) rfl ?_;exact⟨_,rfl,oX,bX⟩
def nm (R D L:Int)(gr:Bool)(n:Nat)(e:Int):Nat:=shN n (e-(ai R:Int)*cP R D L gr n e)
def fD (R D L G:Int)(gr:Bool)(n:Nat)(e:Int):Nat:=if n=0 then 0 else if dA R D L G gr n e=true then nm R D L gr n e else 0
def fK (R D L G:Int)(gr:Bool)(n:Nat)(e:Int):Int:=if n=0 then L else if dA R D L G gr n e=true then cP R D L gr n e else 0
theorem Og {R D L G:Int}{gr:Bool}{n:Nat}{e:Int}(hg:bk R D L G=0)(hb:bitLen n≤40000)(e1: -100000≤e)(e2:e≤100000):
  -341000≤cP R D L gr n e∧cP R D L gr n e≤341000∧ -341000≤(ai R:Int)*cP R D L gr n e∧(ai R:Int)*cP R D L gr n e≤341000:=by
 obtain⟨hR,d1,d2,l1,l2,-,-,-,-⟩:=cB hg;have hp:=Bp (R:=R) (D:=D) (t:=(bitLen n:Int)-1+e) d1 d2 (by omega) (by omega);unfold cP
 split
 ·unfold ai
  split<;>simp<;>omega
 ·exact hp
theorem GK {R D L G:Int}{gr:Bool}{n:Nat}{e:Int}(h0:n≠0):dA R D L G gr n e=true↔L≤cP R D L gr n e∧cP R D L gr n e≤G∧(ai R:Int)*cP R D L gr n e≤e+(tz n:Int):=by
 unfold dA;rw[decide_eq_true_iff]
 constructor
 ·rintro(h|h)
  ·exact absurd h h0
  ·exact h
 ·exact .inr
theorem VU (R D L G:Int)(gr s:Bool)(ao:Option Addr)(ca n:Nat)(e:Int)(w:World)(hg:bk R D L G=0)(hr:Rd w .u32 (.slice ao (Dg.dg 4294967296 n).length ca) (Dg.dg 4294967296 n))(hl:(Dg.dg 4294967296 n).length≤1200)(e1: -20000≤e)(e2:e≤20000)(hT:Tab w):
  Calls Tryz.prog 198 #[.agg #[.int .i64 R,.int .i64 D,.int .i64 L,.int .i64 G,.bool gr],.agg #[.bool s,.slice ao (Dg.dg 4294967296 n).length ca,.int .i64 e]] w (D7 w (dA R D L G gr n e) (fD R D L G gr n e) (fK R D L G gr n e)):=by
 have hdv:Dv w (.agg #[.bool s,.slice ao (Dg.dg 4294967296 n).length ca,.int .i64 e]) ⟨s,n,e⟩:=⟨_,rfl,hr⟩;obtain⟨hR,d1,d2,l1,l2,g1,g2,lg,l16⟩:=cB hg
 by_cases h0:n=0
 ·have hh:dA R D L G gr n e=true:=decide_eq_true (.inl h0)
  rw[hh,show fD R D L G gr n e=0 from if_pos h0,show fK R D L G gr n e=L from if_pos h0]
  refine RT R D L G gr s ao _ ca e w (fun w1 b=> ?_)
  have:=qB _ _ w1 (hdv.l b)
  rwa [show dJ ⟨s,n,e⟩=0 from if_pos h0] at this
 ·have hbn:bitLen n≤32*1200:=oP hl
  have htz:=gZ n 1200 hl;obtain⟨k1,k2,k3,k4⟩:=Og (gr:=gr) (n:=n) (e:=e) hg (by omega) (by omega) (by omega);have hbe:(bare ⟨s,n,e⟩).e=e+(tz n:Int):=(gN (t:=⟨s,n,e⟩) h0).2.1;obtain⟨⟨bs,bn,be⟩,hbt⟩: ∃b,bare ⟨s,n,e⟩=b:=⟨_,rfl⟩;rw[hbt] at hbe;simp only at hbe;have hi:=GK (R:=R) (D:=D) (L:=L) (G:=G) (gr:=gr) (e:=e) h0;refine adT R D L G gr s ao _ ca e (dJ ⟨s,n,e⟩) (bitLen n) (aT R D ((bitLen n:Int)-1+e)) (cP R D L gr n e) (ai R) bs bn be (decide (aT R D ((bitLen n:Int)-1+e)<L)) (decide (aT R D ((bitLen n:Int)-1+e)<L)&&gr) (dA R D L G gr n e) (fD R D L G gr n e) (fK R D L G gr n e) w ?_ ?_ ?_ ?_ ?_ rfl rfl ?_ ?_ ?_ ?_ ?_ ?_ ?_ ?_ ?_ ?_ ?_ ?_ ?_
  ·have:dJ ⟨s,n,e⟩≠0:=by
    unfold dJ;rw[if_neg h0]
    split<;>decide
   simpa using this
  ·exact IntWalk.i64_in _ ⟨by omega,by omega⟩
  ·exact IntWalk.i64_in _ ⟨by omega,by omega⟩
  ·exact IntWalk.i64_in _ ⟨by omega,by omega⟩
  ·exact IntWalk.i64_in _ ⟨by omega,by omega⟩
  ·intro h
   exact if_pos h
  ·intro h
   exact if_neg (by rw[h];decide)
  ·intro h
   have:=hi.1 h;omega
  ·intro h
   have: ¬(L≤cP R D L gr n e∧cP R D L gr n e≤G∧(ai R:Int)*cP R D L gr n e≤e+(tz n:Int)):=fun c=>by
    rw[hi.2 c] at h
    cases h
   omega
  ·intro h
   exact(if_neg h0).trans (if_pos h)
  ·intro h
   have h2: ¬dA R D L G gr n e=true:=by rw[h];decide
   exact⟨(if_neg h0).trans (if_neg h2),(if_neg h0).trans (if_neg h2)⟩
  ·intro w1 b
   exact qB _ _ w1 (hdv.l b)
  ·intro w1
   exact cN s ao _ ca e w1
  ·intro w1 b
   have:=kE _ _ w1 (hr.l b) (Dg.small_dg _ _ (by omega)) (Dg.norm_dg _ _ (by omega)) (by omega);rw[Dg.vl_dg _ _ (by omega)] at this;refine this.mono ?_;rintro z w' ⟨rfl,rfl⟩;exact⟨rfl,Below.refl _ _⟩
  ·intro w1
   exact FE R D L G gr _ w1 d1 d2 (by omega) (by omega)
  ·intro w1
   have:=tY R D L G gr w1
   rwa [jf] at this
  ·intro w1 b
   have:=II _ ⟨s,n,e⟩ w1 (hdv.l b) (by simp only;omega) ⟨by simp only;omega,by simp only;omega⟩ (hT.l b) (by simp only;omega)
   rwa [hbt] at this
  ·intro h w1 b
   have:=eO _ _ (e-(ai R:Int)*cP R D L gr n e) w1 (hr.l b) (Dg.small_dg _ _ (by omega)) (by omega) (by omega) (by omega);rw[Dg.vl_dg _ _ (by omega)] at this;rw[show fD R D L G gr n e=shN n (e-(ai R:Int)*cP R D L gr n e) from(if_neg h0).trans (if_pos h)]
   exact this
end Go.Proofs.YtbdokgamhinajaaGreatDoor
