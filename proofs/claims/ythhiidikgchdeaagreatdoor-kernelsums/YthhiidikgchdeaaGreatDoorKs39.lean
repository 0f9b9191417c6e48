/- Texts laid together. -/
import Derived.Test.YthhiidikgchdeaaGreatDoorKs31
import Derived.Test.YthhiidikgchdeaaGreatDoorKs33
import Derived.Test.YthhiidikgchdeaaGreatDoorKs34
import Derived.Test.YthhiidikgchdeaaGreatDoorKs35
set_option maxRecDepth 100000
set_option maxHeartbeats 3200000
namespace Go.Proofs.YthhiidikgchdeaaGreatDoor
open _root_.Go.Proofs.Tryz
open Go.RowKit
theorem acz {K:Nat}{a:ak}{e:Int}(c: -(K:Int)≤e)(b:a.n=0∨e≤a.e):V K a=sz a.s (a.n*2^ (max 0 (a.e-e)).toNat)*((2^ (e+K).toNat:Nat):Int):=by
 rcases b with b|b
 ·rw[eV,b,Nat.zero_mul,Nat.zero_mul];simp[sz]
 ·rw[adk c b]
  have:max 0 (a.e-e)=a.e-e:=by omega
  rw[this]
theorem zx {K:Nat}{a b:ak}(i: -(K:Int)≤a.e)(j: -(K:Int)≤b.e):V K (cO a b)=V K a+V K b:=by
 obtain⟨e,c⟩: ∃e,(if b.n=0 then a.e else if a.n=0 then b.e else min a.e b.e)=e:=⟨_,rfl⟩
 have d: -(K:Int)≤e:=by rw[←c];split<;>(try split)<;>omega
 have g:a.n=0∨e≤a.e:=by
  rw[←c]
  by_cases x:b.n=0
  ·rw[if_pos x];exact .inr (Int.le_refl _)
  ·rw[if_neg x]
   by_cases y:a.n=0
   ·exact .inl y
   ·rw[if_neg y];exact .inr (Int.min_le_left _ _)
 have h:b.n=0∨e≤b.e:=by
  rw[←c]
  by_cases x:b.n=0
  ·exact .inl x
  ·rw[if_neg x]
   by_cases y:a.n=0
   ·rw[if_pos y];exact .inr (Int.le_refl _)
   ·rw[if_neg y];exact .inr (Int.min_le_right _ _)
 rw[acz d g,acz d h,←Int.add_mul,Y6];unfold cO V;simp only[c]
 split
 ·rfl
 ·by_cases f:b.n*2^ (max 0 (b.e-e)).toNat≤a.n*2^ (max 0 (a.e-e)).toNat
  ·rw[if_pos f,if_neg (by omega)]
  ·rw[if_neg f,if_pos (by omega)]
theorem uw {w:World}{a:Option Addr}{len cap:Nat}{zs:List Int}
  (h:(a=none∧len=0∧cap=0∧zs=[])∨ ∃x,a=some x∧len≤cap∧cap≤maxLen∧zs.length=cap∧(∀i,i<zs.length→w.cell? (x.add i)=some (.int .u32 (zs.getD i 0)))∧ ∀n∈zs,(Lit.int .u32 n).wf=true):
  ∃xs,Rd w .u32 (.slice a len cap) xs∧Dg.Small 4294967296 xs:=by
 rcases h with⟨rfl,rfl,rfl,rfl⟩| ⟨x,rfl,l,m,t,f,q⟩
 ·exact⟨[],⟨none,0,rfl,by simp,by unfold maxLen;omega,fun h=>by simp at h⟩,Dg.small_nil _ (by omega)⟩
 ·obtain⟨b,r,s⟩:=x
  have e: ∀i,i<zs.length→0≤zs.getD i 0∧zs.getD i 0<4294967296:=fun i c=>by
   have:=bounds_u32 (q (zs.getD i 0) (by simp[List.getD_eq_getElem?_getD,c]));omega
  have d:((zs.take len).map Int.toNat).length=len:=by simp;omega
  have g: ∀i,i<len→(((zs.take len).map Int.toNat).getD i 0:Nat)=(zs.getD i 0).toNat:=fun i c=>by
   have k:i<zs.length:=by omega
   simp[List.getD_eq_getElem?_getD,c,k]
  refine⟨(zs.take len).map Int.toNat,⟨_,cap,by rw[d],by rw[d];exact l,m,fun o=> ?_⟩,fun i=> ?_⟩
  ·rw[d] at o
   have j:=f 0 (by omega);have p:s=none:=by simpa[Addr.add] using World.cell?_spot j
   subst p;refine⟨b,r,rfl,fun i c=> ?_⟩
   rw[d] at c;have:=f i (by omega);rw[rO] at this;rw[this,g i c];have:=(e i (by omega)).1
   congr 2
   omega
  ·by_cases c:i<len
   ·rw[g i c];have:=e i (by omega);omega
   ·rw[Dg.getD_of_le _ _ (by rw[d];omega)];omega
def RVF (w:World)(c:Int)(g:Bool)(t:ak)(fl:Int)(z:Ending)(w':World):Prop:=
 ∃s,z= .returned (.tuple #[yoV c g t.s s t.e,yi fl])∧Rd w' .i64 s (Dg.dg 65536 t.n)∧yB w w'
theorem ik.store {w:World}{g:Nat}{zs:List Nat}(h:ik w g zs)(j x:Nat):ik (w.setCell ⟨g,j,none⟩ (.int .u8 x)) g (zs.set j x):=by
 refine⟨fun i a=> ?_,fun i a=> ?_,by simpa[World.setCell] using h.lt⟩
 ·rw[List.length_set] at a
  by_cases e:j=i
  ·subst e
   rw[World.cell?_setCell_same (h:=h.c j a)];simp[List.getD_eq_getElem?_getD,a]
  ·rw[World.cell?_setCell_other (h:=by intro k;cases k;exact e rfl),h.c i a]
   simp[List.getD_eq_getElem?_getD,e]
 ·rw[List.length_set] at a
  rw[O7];exact h.f i a
theorem au.grown {w w':World}{b g:Nat}{a:TypeId}{c:List Value}(h:au w b a c)(d:w.grownBy w' (some g))(f:b≠g):au w' b a c:=
 (d.block b h.lt (fun e=>f (Option.some.inj e))).trans h
theorem CB (a b:ak):dJ (aG a (dV b))=sgn (V (a.e.natAbs+b.e.natAbs) a-V (a.e.natAbs+b.e.natAbs) b):=by
 have f: -((a.e.natAbs+b.e.natAbs:Nat):Int)≤a.e:=by omega
 have g: -((a.e.natAbs+b.e.natAbs:Nat):Int)≤(dV b).e:=by show _≤b.e;omega
 have c:=dH f g;rw[pC] at c;have d:=Di (a.e.natAbs+b.e.natAbs) (aG a (dV b));rw[c] at d;unfold dJ;rw[←d]
 congr 1
theorem EI (K:Nat)(t:ak):V K (dB t)= -V K t:=by
 rw[←pC,eV,eV];unfold dB dV;simp only
 by_cases h:0<t.n
 ·simp[h]
 ·have a:t.n=0:=by omega
  rw[a,Nat.zero_mul];simp[sz]
theorem acR (K:Nat)(t:ak):dJ t=sgn (V K t):=(Di K t).symm
theorem ZB.off {w w':World}{q b:Nat}(h:ZB w q)(a:w.grownBy w' (some b))(f:q≠b):ZB w' q:=by
 obtain⟨c,g,d⟩:=h;exact⟨Nat.lt_of_lt_of_le c a.size,g,(a.block q c (by intro e;cases e;exact f rfl)).trans d⟩
theorem ZB6.off {w w':World}{q b:Nat}(h:ZB6 w q)(a:w.grownBy w' (some b))(f:q≠b):ZB6 w' q:=by
 obtain⟨c,g,d⟩:=h;exact⟨Nat.lt_of_lt_of_le c a.size,g,(a.block q c (by intro e;cases e;exact f rfl)).trans d⟩
theorem j8 {n k L:Nat}(h:n<2^k)(a:k≤32*L):(Dg.dg 4294967296 n).length≤L:=by
 refine Dg.dg_len_le 4294967296 n L (by omega) (Nat.lt_of_lt_of_le h ?_);rw[show(4294967296:Nat)=2^32 from rfl,←Nat.pow_mul]
 exact Nat.pow_le_pow_right (by omega) a
theorem TE (s:Bool)(a:Option Addr)(c o:Nat)(e:Int)(t:Bool)(b:Option Addr)(d p:Nat)(f:Int)(r:Bool)(j:Option Addr)(h q:Nat)(g:Int)(u:Bool)(m:Option Addr)(i x:Nat)(k:Int)(n:Int)(R:ak×ak×Int)(w:World)
  (B: ∀L,yB w L→yC 56 #[.agg #[.bool s,.slice a o c,yi e,.bool t,.slice b p d,yi f],.agg #[.bool r,.slice j q h,yi g,.bool u,.slice m x i,yi k],yi n,.func (.func 57) #[] #[]] L (jE L R)):
  yC 18 #[.agg #[.bool s,.slice a o c,yi e,.bool t,.slice b p d,yi f],.agg #[.bool r,.slice j q h,yi g,.bool u,.slice m x i,yi k],yi n] w (jE w R):=by
 replace B:Hid _:=B;obtain⟨⟨rs,K,J⟩,⟨qs,H,G⟩,rc⟩:=R;have A:=aJ ((w.alloc (.cells #[.bool s,.slice a o c,yi e,.bool t,.slice b p d,yi f] 27)).alloc (.cells #[.bool r,.slice j q h,yi g,.bool u,.slice m x i,yi k] 27)) (.bool false) yN (yi 0) (.bool false) yN (yi 0) 27;have y:=aa (aa (af w (.cells #[.bool s,.slice a o c,yi e,.bool t,.slice b p d,yi f] 27)) (af _ (.cells #[.bool r,.slice j q h,yi g,.bool u,.slice m x i,yi k] 27))) (af _ (.cells #[.bool false,yN,yi 0,.bool false,yN,yi 0] 27));have P:=((aJ w (.bool s) (.slice a o c) (yi e) (.bool t) (.slice b p d) (yi f) 27).l (af _ (.cells #[.bool r,.slice j q h,yi g,.bool u,.slice m x i,yi k] 27))).l (af _ (.cells #[.bool false,yN,yi 0,.bool false,yN,yi 0] 27));have C:=(aJ (w.alloc (.cells #[.bool s,.slice a o c,yi e,.bool t,.slice b p d,yi f] 27)) (.bool r) (.slice j q h) (yi g) (.bool u) (.slice m x i) (yi k) 27).l (af _ (.cells #[.bool false,yN,yi 0,.bool false,yN,yi 0] 27));simp only[World.size_alloc] at A C;obtain⟨-,⟨W,X,Y,Z,c4,c5⟩,-⟩:=id P;obtain⟨-,⟨x0,x1,x2,x3,x4,x5⟩,-⟩:=id C
 go_enter func18,ntmps18
 go_wp2_with fail
 refine(B.out _ y).mono ?_;rintro z w5 ⟨pp,qq,rfl,Q,S,M⟩;have T:=aa y M;have O:=A.l M;have N:=A.1;obtain⟨E,D,hp⟩:=Q.rd.shape;subst hp;obtain⟨I,F,hq⟩:=S.rd.shape;subst hq;obtain⟨hl,⟨g0,g1,g2,g3,g4,g5⟩,f0,f1,f2,f3,f4,f5⟩:=id O;clear W X Y Z c4 c5 x0 x1 x2 x3 x4 x5 P C A
 go_wp2
 obtain⟨-,⟨u0,u1,u2,u3,u4,u5⟩,-⟩:=bP O (.bool rs) (yT E K D) (yi J) (.bool qs) (yT I H F) (yi G);have U:=aW T (show w.heap.size≤w.heap.size+1+1 by omega) (.bool rs) (yT E K D) (yi J) (.bool qs) (yT I H F) (yi G)
 refine bodyPost_ret (v:= .tuple #[.agg #[.bool rs,yT E K D,yi J,.bool qs,yT I H F,yi G],yi rc]) (by simp[results,results18,go_sem,u0,u1,u2,u3,u4,u5]) rfl ?_;exact⟨_,_,rfl,((Q.apart6 N _ _ _ _ _ _).lower y.size),((S.apart6 N _ _ _ _ _ _).lower y.size),U⟩
theorem cf {s:Bool}{xs:List Nat}{e:Int}(b:Dg.dg 4294967296 (Dg.vl 4294967296 xs)=xs)(c:xs.length≤1200):bitLen (⟨s,Dg.vl 4294967296 xs,e⟩:ak).n≤38400:=by
 have:=gf (a:=Dg.vl 4294967296 xs) (L:=1200) (by rw[b];exact c)
 show bitLen (Dg.vl 4294967296 xs)≤38400
 omega
theorem uH {a b:ak}(i:bitLen a.n≤38400)(j:bitLen b.n≤38400)(d: -20000≤a.e)(f:a.e≤20000)(g: -20000≤b.e)(h:b.e≤20000):
  (Dg.dg 4294967296 (aK a b).n).length≤9000∧ -100000≤(aK a b).e∧(aK a b).e≤100000:=by
 have c:a.n*b.n<2^bitLen a.n*2^bitLen b.n:=Nat.mul_lt_mul'' (bitLen_spec a.n).1 (bitLen_spec b.n).1;rw[←Nat.pow_add] at c;exact⟨j8 c (by omega),by show-100000≤a.e+b.e;omega,by show a.e+b.e≤100000;omega⟩
theorem NrN.trans {f g h:Nat→Rat}(a:NrN f g)(b:NrN g h):NrN f h:=fun e d=>by
 obtain⟨N,H⟩:=a (e/2) (by grind);obtain⟨M,c⟩:=b (e/2) (by grind);refine⟨N+M,fun n i=> ?_⟩
 have x:=H n (by omega);have y:=c n (by omega);rw[ab_le] at x y⊢
 constructor<;>grind
theorem NrN.le {f g:Nat→Rat}(a:NrN f g){d b:Rat}(i:EvN fun n=>d≤f n)(j:EvN fun n=>g n≤b):d≤b:=by
 by_cases c:d≤b
 ·exact c
 ·exfalso
  obtain⟨N,H⟩:=a ((d-b)/2) (by grind);obtain⟨M,e⟩:=i;obtain⟨K,h⟩:=j;have x:=H (N+M+K) (by omega);have y:=e (N+M+K) (by omega);have z:=h (N+M+K) (by omega);rw[ab_le] at x
  grind
def bX:Nat×Nat:=
 let a:=lp (5*5) 1 2451 0 (pw2 2450/5) 0 0
 let b:=lp (239*239) 1 2451 0 (pw2 2450/239) 0 0
 (8*(a.2.1-a.2.2)-2*(b.2.1-b.2.2),8*(3*a.1+3)+2*(3*b.1+3))
theorem pws_main {u:ak×ak}{B:Nat}{nx:Nat→Nat×Nat}{c:Nat→Rat}{mu wU d:Rat}(s:1≤B)(n:d=p2 (2-(B:Int)))(l: ∀k,0≤c (k+1)∧c (k+1)≤1)(C: ∀k,(nx (k+1)).2≠0∧c (k+1)*((nx (k+1)).2:Rat)=((nx (k+1)).1:Rat))
  (i:(ivS u).inn mu) (j:(ivS u).lo≤(ivS u).hi) (x: ∀k,mu*c (k+1)≤1/2) (p:(ivS u).wd≤wU) (P:((B:Rat)+2)*(2*(wU+d)+8*d)≤1):
  ∀f k a b,PInv (ivS u) c wU d k (ivS a) (ivS b)→k≤B+1→B+2≤f+k→
   (∀v,(ivS u).has v→ ∀m,B+3≤m→(ivS (pwsT u B nx f (k+1) a b)).has (rs (tmS v c) m))∧
   (ivS (pwsT u B nx f (k+1) a b)).wd≤((B:Rat)+3)*(2*(wU+d)+8*d)+2*p2 (-(B:Int)-1)∧
   (ivS (pwsT u B nx f (k+1) a b)).lo≤(ivS (pwsT u B nx f (k+1) a b)).hi:=by
 have w:0≤d:=by rw[n];have:=p2_pos (2-(B:Int));grind
 have S:0≤wU:=by unfold IvN.wd at p;grind
 have z:0≤2*(wU+d)+8*d:=by grind
 intro f
 induction f with
 |zero=>intro k _ _ _ y F;omega
 |succ f ih=>
  intro k a b h y F;have Q:(k:Rat)≤(B:Rat)+1:=by
   have:=nat_le y
   rwa [Rat.natCast_add] at this
  have A:(k:Rat)*(2*(wU+d)+8*d)≤1:=by
   have:=Rat.mul_le_mul_of_nonneg_right (show(k:Rat)≤(B:Rat)+2 by grind) z
   grind
  obtain⟨W,X,O⟩:=IvN.times_wd h.term_in i h.term_ord j;have e:=part_ivS (timesS b u) (nx (k+1)).1 (nx (k+1)).2 B s (l k).1 (by rw[times_iv];exact O) (C k).1 (C k).2;rw[times_iv,←n] at e;obtain⟨D,q,r,E⟩:=h.term l i j x p w e;simp only[pwsT];obtain⟨t,K⟩: ∃t,partS (timesS b u) (nx (k+1)).1 (nx (k+1)).2 B=t:=⟨_,rfl⟩;rw[K] at e D q r E⊢
  by_cases o:smallS t B
  ·rw[if_pos o]
   have I:=small_in o;have G:(⟨1/2,2⟩:IvN).lo≤(⟨1/2,2⟩:IvN).hi:=by simp only;grind
   have H:(⟨1/2,2⟩:IvN).inn 2:=by constructor<;>simp only<;>grind
   obtain⟨_,_,T⟩:=IvN.times_wd q H r G;have g:=cut_ivS (plusS a (timesS t restS)) B s (by
    rw[plus_ivS,times_iv,rest_iv];have:=h.sum_ord;unfold IvN.plus
    grind)
   rw[plus_ivS,times_iv,rest_iv,←n] at g;obtain⟨M,U,N⟩:=h.done l i j x p w A e I g;refine⟨fun v L m R=>M v L m (by omega), ?_,N⟩
   have:=Rat.mul_le_mul_of_nonneg_right (show(k:Rat)+2≤(B:Rat)+3 by grind) z
   grind
  ·rw[if_neg o]
   have J:=small_of r q o;have g:=cut_ivS (plusS a t) B s (by
    rw[plus_ivS];have:=h.sum_ord;unfold IvN.plus
    grind)
   rw[plus_ivS,←n] at g;exact ih (k+1) _ _ (h.next l i j x p w A e g) J (by omega)
theorem pws_all {u:ak×ak}{B:Nat}{nx:Nat→Nat×Nat}{c:Nat→Rat}{mu wU d:Rat}(a:1≤B)(i:d=p2 (2-(B:Int)))(h: ∀k,0≤c (k+1)∧c (k+1)≤1)(n: ∀k,(nx (k+1)).2≠0∧c (k+1)*((nx (k+1)).2:Rat)=((nx (k+1)).1:Rat))
  (b:(ivS u).inn mu) (g:(ivS u).lo≤(ivS u).hi) (l: ∀k,mu*c (k+1)≤1/2) (o:(ivS u).wd≤wU) (j:((B:Rat)+2)*(2*(wU+d)+8*d)≤1) (f:Nat) (hf:B+2≤f):
  (∀v,(ivS u).has v→ ∀m,B+3≤m→(ivS (pwsT u B nx f 1 (wTr 1,wTr 1) (wTr 1,wTr 1))).has (rs (tmS v c) m))∧
   (ivS (pwsT u B nx f 1 (wTr 1,wTr 1) (wTr 1,wTr 1))).wd≤((B:Rat)+3)*(2*(wU+d)+8*d)+2*p2 (-(B:Int)-1)∧
   (ivS (pwsT u B nx f 1 (wTr 1,wTr 1) (wTr 1,wTr 1))).lo≤(ivS (pwsT u B nx f 1 (wTr 1,wTr 1) (wTr 1,wTr 1))).hi:=by
 have e:ivS (wTr 1,wTr 1)=⟨1,1⟩:=by
  unfold ivS ivT;simp only;rw[qT_w];rfl
 have:=pws_main a i h n b g l o j f 0 (wTr 1,wTr 1) (wTr 1,wTr 1) (by rw[e];exact PInv.zero _ _ _ _) (by omega) (by omega);exact this
theorem exp_sum {u:ak×ak}{B f:Nat}(p:84≤B)(q:B≤1000)(h:(ivS u).inn (1/2))(i:(ivS u).lo≤(ivS u).hi)(w:(ivS u).wd≤p2 (17-(B:Int)))(hf:B+2≤f):
  let P:=ivS (pwsT u B nxE f 1 (wTr 1,wTr 1) (wTr 1,wTr 1))
  (∀v,(ivS u).has v→ ∀m,B+3≤m→P.has (er v m))∧P.wd≤p2 (29-(B:Int))∧P.lo≤P.hi∧1/4≤P.lo∧P.hi≤3:=by
 intro P;obtain⟨z,A⟩:=wide_of p q;have n: ∀k,(1/2:Rat)*cExp (k+1)≤1/2:=fun k=>by
  have:=(cE_in k).2.1
  grind
 obtain⟨p1,x,y⟩:=pws_all (u:=u) (B:=B) (nx:=nxE) (c:=cExp) (mu:=1/2) (wU:=p2 (17-(B:Int))) (d:=p2 (2-(B:Int))) (by omega) rfl (fun k=>⟨(cE_in k).1,(cE_in k).2.1⟩) (fun k=>(cE_in k).2.2) h i n w z f hf
 have g:P.wd≤p2 (29-(B:Int)):=Rat.le_trans x A;have l:(ivS u).has (ivS u).lo:=⟨Rat.le_refl,i⟩;have b:=p1 _ l (B+3) (by omega);have s: ∀k,ab (ivS u).lo*cExp (k+1)≤1/2:=fun k=>by
  have:=(cE_in k).1;have a:=ab_inn h l;have:=Rat.mul_le_mul_of_nonneg_right a this;have:=n k
  grind
 have j:=rs_bd (u:=(ivS u).lo) (c:=cExp) (fun k=>(cE_in k).1) s (B+2)
 have C:p2 (29-(B:Int))≤1/4:=by
  have:=p2_mono (show 29-(B:Int)≤ -2 by omega)
  have e:p2 (-2)=1/4:=by
   have:=p2_neg 2;have o:p2 2=4:=by decide+kernel
   rw[o] at this
   grind
  rwa [e] at this
 refine⟨fun v b m r=>by rw[er_tm];exact p1 v b m r,g,y, ?_, ?_⟩
 ·have t:P.lo≤rs (tmS (ivS u).lo cExp) (B+3)∧rs (tmS (ivS u).lo cExp) (B+3)≤P.hi:=b
  unfold IvN.wd at g;have:=j.1
  grind
 ·have t:P.lo≤rs (tmS (ivS u).lo cExp) (B+3)∧rs (tmS (ivS u).lo cExp) (B+3)≤P.hi:=b
  unfold IvN.wd at g;have:=j.2
  grind
theorem exp_up {u:ak×ak}{B f N:Nat}{x:Rat}{l:Nat→Rat}{C:Rat}(a:84≤B)(b:B≤1000)(e:(ivS u).inn (1/2))(g:(ivS u).lo≤(ivS u).hi)(i:(ivS u).wd≤p2 (17-(B:Int)))(hf:B+2≤f)
  (h:CxN.Has (fun n=>⟨l n,0⟩) ⟨2,0⟩) (c: ∀n,CxN.nm ⟨l n,0⟩≤C) (j:EvN fun n=>(ivS u).has (x-(N:Rat)*l n)):
  SIn (ivS (upS (pwsT u B nxE f 1 (wTr 1,wTr 1) (wTr 1,wTr 1)) N)) (er x):=by
 refine⟨_,CxN.exp_take h c N x, ?_⟩;obtain⟨M,d⟩:=j;obtain⟨k,-,-,-,-⟩:=exp_sum a b e g i hf;refine⟨M+(B+3),fun n m=> ?_⟩
 rw[up_ivS,rp_p2];exact IvN.scl_has (k _ (d n (by omega)) n (by omega)) (by have:=p2_pos N;grind)
theorem expS_any {x:ak}{B:Nat}{one:ak×ak}{l:Nat→Rat}{C:Rat}(a:84≤B)(b:B≤1000)(o:x.s=false)(j:x.n≠0)
  (k:0≤x.e+(bitLen x.n:Int)→1/2≤qT one.1∧qT one.1≤qT one.2∧qT one.2≤7/10∧qT one.2-qT one.1≤p2 (15-(B:Int)-(x.e+(bitLen x.n:Int)))∧EvN fun n=>(ivS one).has (l n))
  (i:CxN.Has (fun n=>⟨l n,0⟩) ⟨2,0⟩) (h: ∀n,CxN.nm ⟨l n,0⟩≤C):
  SIn (ivS (expS x B one)) (er (qT x))∧0< (ivS (expS x B one)).lo∧(ivS (expS x B one)).lo≤(ivS (expS x B one)).hi∧(ivS (expS x B one)).wd≤p2 (31-(B:Int))*(ivS (expS x B one)).lo:=by
 obtain⟨c,d,f,t⟩:=restE_any a b o j k;obtain⟨-,E,u,v,F⟩:=exp_sum a b c d f (Nat.le_refl (B+2));refine⟨exp_up a b c d f (Nat.le_refl _) i h t, ?_⟩;unfold expS;rw[up_ivS];generalize ivS (pwsT (restE x B one).2 B nxE (B+2) 1 (wTr 1,wTr 1) (wTr 1,wTr 1))=P at*;have m:=p2_pos ((restE x B one).1:Int);generalize p2 ((restE x B one).1:Int)=z at*;have g:p2 (31-(B:Int))=4*p2 (29-(B:Int)):=by
  rw[show 31-(B:Int)=2+(29-(B:Int)) by omega,p2_add]
  have:p2 2=4:=by decide+kernel
  rw[this]
 have w:=p2_pos (29-(B:Int));rw[g];generalize p2 (29-(B:Int))=y at*;have p:=Rat.mul_pos m (show 0<P.lo by grind)
 have q:=Rat.mul_le_mul_of_nonneg_left u (show 0≤z by grind)
 have A:=Rat.mul_le_mul_of_nonneg_left v (show 0≤4*y by grind)
 have r:P.wd≤4*y*P.lo:=by grind
 have D:=Rat.mul_le_mul_of_nonneg_left r (show 0≤z by grind)
 refine⟨p,q, ?_⟩;have:(IvN.scl z P).wd=z*P.wd:=by unfold IvN.wd IvN.scl;simp only;grind
 rw[this]
 show z*P.wd≤4*y*(z*P.lo)
 grind
theorem spart9 (v:Value)(a b:ak)(t o B:Nat)(w:World)(T:SpanV w v a b)(A:RgT 900000000 900000000 a)(C:RgT 900000000 900000000 b)(G:t<2^30)(F:o<2^30)(P:o≠0)(D:1≤B)(E:B≤10000)(Q:Tab w):
  yC 128 #[v,yi t,yi o,yi B] w (aeT w (partS (a,b) t o B).1 (partS (a,b) t o B).2):=by
 obtain⟨s1,s2,rfl,H,I⟩:=T;obtain⟨K,J,rfl⟩:=H.shape;obtain⟨M,L,rfl⟩:=I.shape;have N:Fit9 (wTr o):=(RgT.w o 30 F).fit (by omega) (by omega);have O:Fit9 (wTr t):=(RgT.w t 30 G).fit (by omega) (by omega);have a0:bitLen o≤30:=bits_le F;have z: ∀q:ak,RgT 900000000 900000000 q→Fit9 (aK q (wTr t))∧Fit9 (cK (aK q (wTr t)) (wTr o) B):=fun q r=>by
  have g:=r.times (RgT.w t 30 G);refine⟨g.fit (by omega) (by omega),(g.over (b:=wTr o) D).fit ?_ ?_⟩
  ·show 900000000+0+0+(bitLen o:Int)+(B:Int)+1≤_
   omega
  ·show 900000000+(30:Nat)-0+1≤(1000000000:Int)
   omega
 have one: ∀(q:ak) (u:Option Addr) (s f e d:Nat) (c:World),RgT 900000000 900000000 q→Rd c .u32 (yT u q.n s) (Dg.dg 4294967296 q.n)→au c f 3 [yi t]→au c e 3 [yi o]→au c d 3 [yi B]→
   yC 157 #[yDV q u s,.pointer (some ⟨f,0,none⟩),.pointer (some ⟨e,0,none⟩),.pointer (some ⟨d,0,none⟩)] c (Lx c (cK (aK q (wTr t)) (wTr o) B)):=fun q u s f e d c r R k m p=>by
  obtain⟨U,k2⟩:=z q r;obtain⟨lq,q1,q2⟩:=(r.fit (by omega) (by omega):Fit9 q).all;obtain⟨lt,t1,t2⟩:=O.all;exact part1_W f e d q u s (wTr t) (aK q (wTr t)) (wTr o) _ _ _ _ c k.range m.range p.range (fun j _=>whole_any t j (by omega))
   (fun X W j i x=>(Ac _ _ q (wTr t) j ⟨_,rfl,R.l i⟩ ⟨_,rfl,x⟩ (by omega) (by omega) (by omega) (by omega) (by omega) (by omega)).mono fun _ _ h=>h.vres)
   (fun j _=>whole_any o j (by omega)) (fun Z Y uo uc j _ y S=>dover9 _ _ _ _ B j ⟨_,rfl,y⟩ ⟨_,rfl,S⟩ P U N E)
 refine part_W a b K M J L _ _ _ _ _ _ _ w (fun f e d c i k m p=>one a _ _ f e d c A (H.l i) k m p) (fun f e d c i k m p=>one b _ _ f e d c C (I.l i) k m p)
  (fun X W Z Y c i x y=>scut9 _ _ _ B c ⟨_,_,rfl,x,y⟩ (z a A).2 (z b C).2 D E (Q.l i))
theorem sover9 (v u:Value)(a b p q:ak)(B:Nat)(w:World)(K:SpanV w v a b)(J:SpanV w u p q)(g:RgT 400000000 400000000 a)(h:RgT 400000000 400000000 b)(k:RgT 500000000 500000000 p)(fq:RgT 500000000 500000000 q)(F:p.n≠0)(G:q.n≠0)(E:1≤B)(e:B≤10000)(H:Tab w):
  yC 79 #[v,u,yi B] w (aeT w (overS4 (a,b) (p,q) B).1 (overS4 (a,b) (p,q) B).2):=by
 have one: ∀x y:ak,RgT 400000000 400000000 x→RgT 500000000 500000000 y→Fit9 (cK x y B):=fun x y m f=>(m.over (b:=y) (B:=B) E).mono (by have:=f.2;omega) (by have:=f.1;omega)
 have i: ∀j,Fit9 (fourO a b p q B j):=fun j=>by
  match j with
  |0=>exact one a p g k
  |1=>exact one a q g fq
  |2=>exact one b p h k
  |_+3=>exact one b q h fq
 have z:Fit9 a:=g.fit (by omega) (by omega);have A:Fit9 b:=h.fit (by omega) (by omega);have C:Fit9 p:=k.fit (by omega) (by omega);have D:Fit9 q:=fq.fit (by omega) (by omega);obtain⟨Z,s2,rfl,o,r⟩:=K;obtain⟨s3,s4,rfl,s,t⟩:=J;obtain⟨R,Q,rfl⟩:=o.shape;obtain⟨T,S,rfl⟩:=r.shape;obtain⟨W,U,rfl⟩:=s.shape;obtain⟨Y,X,rfl⟩:=t.shape;exact spanOver_W a b p q _ _ _ _ _ _ _ _ (cK a p B) (cK a q B) (cK b p B) (cK b q B) (loT (fourO a b p q B) 3) (hiT (fourO a b p q B) 3) _ _ _ w
  (fun d c=>dover9 _ _ a p B d ⟨_,rfl,o.l c⟩ ⟨_,rfl,s.l c⟩ F z C e)
  (fun d c=>dover9 _ _ a q B d ⟨_,rfl,o.l c⟩ ⟨_,rfl,t.l c⟩ G z D e)
  (fun d c=>dover9 _ _ b p B d ⟨_,rfl,r.l c⟩ ⟨_,rfl,s.l c⟩ F A C e)
  (fun d c=>dover9 _ _ b q B d ⟨_,rfl,r.l c⟩ ⟨_,rfl,t.l c⟩ G A D e)
  (fun P a1 a3 a5 a7 a0 a2 a4 a6 d _ I L M N O=>around4 (fourO a b p q B) (fun j=>(i j).mono (by omega) (by omega)) P _ _ _ _ _ _ _ _ d I L M N O)
  (fun xo xc yo yc d c m f=>scut9 _ _ _ B d ⟨_,_,rfl,m,f⟩ (RgT.lo fun j _=>i j) (RgT.hi fun j _=>i j) E e (H.l c))
theorem NrN.mul {f c g h:Nat→Rat}{A B:Rat}(hf:NrN f c)(K:NrN g h)(G:EvN fun n=>ab (c n)≤A)(H:EvN fun n=>ab (h n)≤B):NrN (fun n=>f n*g n) (fun n=>c n*h n):=fun e O=>by
 obtain⟨i,q⟩:=G;obtain⟨j,r⟩:=H;have N:0≤A:=Rat.le_trans (ab_nonneg _) (q i (Nat.le_refl _));have I:0≤B:=Rat.le_trans (ab_nonneg _) (r j (Nat.le_refl _));obtain⟨C,J⟩: ∃C:Rat,C=A+B+1:=⟨_,rfl⟩;have s:e/C*C=e:=Rat.div_mul_cancel (by grind);have Q:0<e/C:=cancel_lt (show 0<C by grind) (by rw[s];grind)
 obtain⟨d,p,w,z⟩: ∃d:Rat,0<d∧d≤1∧d≤e/C:=by
  refine⟨IvN.mn 1 (e/C), ?_, ?_, ?_⟩<;>unfold IvN.mn<;>grind
 obtain⟨u,E⟩:=hf d p;obtain⟨v,F⟩:=K d p;refine⟨i+j+u+v,fun n P=> ?_⟩
 have k:=q n (by omega);have l:=r n (by omega);have m:=E n (by omega);have o:=F n (by omega);simp only at k l⊢;generalize f n=x at*;generalize c n=a at*;generalize g n=y at*;generalize h n=b at*;have D:x*y-a*b=(x-a)*(y-b)+(x-a)*b+a*(y-b):=by grind
 rw[D];have L:=ab_add ((x-a)*(y-b)+(x-a)*b) (a*(y-b));have M:=ab_add ((x-a)*(y-b)) ((x-a)*b);rw[ab_mul,ab_mul] at M;rw[ab_mul] at L;have R:=Rat.mul_le_mul_of_nonneg_left o (ab_nonneg (x-a));have S:=Rat.mul_le_mul_of_nonneg_left l (ab_nonneg (x-a));have T:=Rat.mul_le_mul_of_nonneg_left o (ab_nonneg a);have U:=Rat.mul_le_mul_of_nonneg_right m (show 0≤d by grind)
 have W:=Rat.mul_le_mul_of_nonneg_right m I;have X:=Rat.mul_le_mul_of_nonneg_right k (show 0≤d by grind)
 have Y:=Rat.mul_le_mul_of_nonneg_right w (show 0≤d by grind)
 have t:=Rat.mul_le_mul_of_nonneg_right z (show 0≤C by grind)
 rw[s] at t;rw[J] at t
 grind
theorem has_ab {S:IvN}{x:Rat}(h:S.has x):ab x≤ab S.lo+ab S.hi:=by
 obtain⟨a,b⟩:=h;have:=le_ab S.hi;have:=neg_le_ab S.lo;have:=ab_nonneg S.lo;have:=ab_nonneg S.hi;rw[ab_le]
 constructor<;>grind
theorem SIn.times {S T:IvN}{f g:Nat→Rat}(h:SIn S f)(k:SIn T g):SIn (IvN.times S T) (fun n=>f n*g n):=by
 obtain⟨i,l,b,d⟩:=h;obtain⟨j,m,c,e⟩:=k;exact⟨fun n=>i n*j n,NrN.mul l m ⟨b,fun n a=>has_ab (d n a)⟩ ⟨c,fun n a=>has_ab (e n a)⟩,b+c,fun n a=>IvN.times_has (d n (by omega)) (e n (by omega))⟩
theorem SIn.meet {S T:IvN}{f:Nat→Rat}(h:SIn S f)(k:SIn T f):S.lo≤T.hi:=by
 obtain⟨j,d,b,e⟩:=h;obtain⟨l,g,c,i⟩:=k;exact(d.symm.trans g).le ⟨b,fun n a=>(e n a).1⟩ ⟨c,fun n a=>(i n a).2⟩
theorem er_zero:NrN (er 0) (fun _=>1):=fun e c=>⟨1,fun n d=>by
 have h:=CxN.ez_zero (n-1);have a:(⟨0,0⟩:CxN)=CxN.zero:=rfl;have r:=ez_real 0 n;rw[a,show n=(n-1)+1 by omega,h] at r
 have b:(1:Rat)=er 0 (n-1+1):=congrArg CxN.re r;rw[show n=(n-1)+1 by omega,←b,ab_le]
 constructor<;>grind⟩
def RVG (w:World)(c:Int)(g:Bool)(t:ak)(fl:Int)(z:Ending)(w':World):Prop:=
 ∃s,z= .returned (.tuple #[yoV c g t.s s t.e,yi fl])∧Rd w' .i64 s (Dg.dg 65536 t.n)∧Far w.heap.size s∧yB w w'
theorem jp.store {w:World}{base g n cap:Nat}{a:List Bool}(h:jp w base (.slice (some ⟨g,0,none⟩) n cap) a)(b:n=a.length)(j:Nat)(x:Bool):
  jp (w.setCell ⟨g,j,none⟩ (.bool x)) base (.slice (some ⟨g,0,none⟩) n cap) (a.set j x):=by
 subst b;have:=(World.ownsRow.stored h j (.bool x)).1;unfold jp;rw[List.length_set,List.map_set];exact this
theorem jp.f {w:World}{base g n cap:Nat}{a:List Bool}(h:jp w base (.slice (some ⟨g,0,none⟩) n cap) a)(b:n=a.length)(j:Nat):w.frozen? ⟨g,j,none⟩=false:=by
 subst b;exact World.ownsRow.frozenAt h j
theorem jp.block {w:World}{base g n cap:Nat}{a:List Bool}(h:jp w base (.slice (some ⟨g,0,none⟩) n cap) a)(b:n=a.length):base≤g∧g<w.heap.size:=by
 subst b;exact World.ownsRow.lt h g rfl
theorem jp.c {w:World}{base g n cap:Nat}{a:List Bool}(h:jp w base (.slice (some ⟨g,0,none⟩) n cap) a)(e:n=a.length)(j:Nat)(b:j<a.length):w.cell? ⟨g,j,none⟩=some (.bool (a.getD j false)):=by
 subst e;have d:=World.ownsRow.cellAt h j (by omega);rw[d,List.getElem?_map,List.getElem?_eq_getElem b];simp[List.getD_eq_getElem?_getD,b]
theorem sF.off {w w':World}{n:Int}{e:List ByteArray}{g cap b:Nat}{y:TypeId}{f:List Value}(h:sF w n e g cap)(a:But b w w')(q:au w b y f)(s: ∀x∈f,∀k:Int,x≠ .int .u32 k)(m:g≠b):sF w' n e g cap:=
 ⟨h.fit,h.most,fun i p r=>by
  obtain⟨u,t,l,d⟩:=h.each i p r;exact⟨u,t,fun j v o=>by rw[a.c (by exact m)];exact l j v o,a.rd d (aX d q s)⟩⟩
theorem ut.trans {J K:Int}{i d k e l f:Nat}{a b c:Int}(h:ut J i d a k e b)(g:ut K k e b l f c):ut (max J K) i d a l f c:=fun j q=>by
 obtain⟨m,n⟩:=h j (by omega);obtain⟨o,p⟩:=g j (by omega);exact⟨m.trans o,n.trans p⟩
def BareB (l h:ak):Prop:=(∃y,l=bare y)∧(∃y,h=bare y)
def InB (E:Int)(Y:Int)(l h:ak):Prop:=EndB E l∧EndB E h∧V 1120 l≤Y∧Y≤V 1120 h
theorem number9 (s:Bool)(c:Option Addr)(d:Nat)(xs:List Nat)(e b:Int)(w:World)(B:Rd w .u32 (.slice c xs.length d) xs)(F:Dg.Small 4294967296 xs)(D:Tab w):
  (numR s xs e b≠0→yC 20 #[ydV s (.slice c xs.length d) e,yi b] w (yR w (.tuple #[ydV false yN 0,yi (numR s xs e b)])))∧
  (numR s xs e b=0→yC 20 #[ydV s (.slice c xs.length d) e,yi b] w (NRd w (bare ⟨s,Dg.vl 4294967296 xs,e⟩) 0)):=by
 have f:yH w 58 #[ydV s (.slice c xs.length d) e] (yi (aS xs e)):=fun a k=>nS s c d xs e a (B.l k)
 have p:yJ 59 #[ydV s (.slice c xs.length d) e] (ydV s (.slice c xs.length d) e):=fun a=>iK _ _ _ _ _ a
 unfold numR
 by_cases j:aS xs e≠0
 ·rw[if_pos j]
  exact⟨fun _=>number_e1 s c _ d e b _ w j f,fun h=>absurd h j⟩
 ·rw[if_neg j]
  have t:aS xs e=0:=by omega
  rw[t] at f
  by_cases u:b<20∨600<b
  ·rw[if_pos u]
   refine⟨fun _=> ?_,fun h=>by omega⟩
   by_cases v:b<20
   ·exact number_e2 s c _ d e b 0 w rfl v f
   ·exact number_e3 s c _ d e b 0 w rfl v (by omega) f
  ·rw[if_neg u]
   obtain⟨J,C,G,K,L⟩:=aO t F;obtain⟨x,r⟩: ∃x,bare ⟨s,Dg.vl 4294967296 xs,e⟩=x:=⟨_,rfl⟩;rw[r];have A:(Dg.dg 4294967296 (Dg.vl 4294967296 xs)).length≤1200:=by rw[C];exact G
   have m: ∀a,yB w a→yC 60 #[ydV s (.slice c xs.length d) e] a (Lx a x):=fun a k=>by
    have E:Rd a .u32 (.slice c xs.length d) (Dg.dg 4294967296 (Dg.vl 4294967296 xs)):=by rw[C];exact B.l k
    have:=II (ydV s (.slice c xs.length d) e) ⟨s,Dg.vl 4294967296 xs,e⟩ a ⟨_,rfl,E⟩ (by show(Dg.dg 4294967296 (Dg.vl 4294967296 xs)).length≤_;omega) ⟨by show-4000000000≤e;omega,by show e≤4000000000;omega⟩ (D.l k) (by have:=gZ (Dg.vl 4294967296 xs) 1200 A;show tz (Dg.vl 4294967296 xs)≤_;omega)
    rw[r] at this;exact this.mono fun _ _ h=>h.vres
   have o: ∀i g a,yC 61 #[yDV x i g] a (yR a (yT i x.n g)):=fun i g a=>cN _ _ _ _ _ a
   have I:(Dg.dg 4294967296 x.n).length≤1200:=by
    rw[←r];exact Nat.le_trans (aH 4294967296 _ _ (by omega) (FW _)) A
   have q: ∀i g a,yB w a→Rd a .u32 (yT i x.n g) (Dg.dg 4294967296 x.n)→yC 62 #[yT i x.n g] a (yR a (yi (bitLen x.n:Int))):=fun i g a _ h=>by
    have:=kE _ _ a h (Dg.small_dg _ _ (by omega)) (Dg.norm_dg _ _ (by omega)) (by omega);rw[Dg.vl_dg _ _ (by omega)] at this;refine this.mono ?_;rintro z M ⟨rfl,rfl⟩;exact⟨rfl,Below.refl _ _⟩
   by_cases y:1200<bitLen x.n∨x.e< -18000
   ·rw[if_pos y]
    refine⟨fun _=> ?_,fun h=>by omega⟩
    by_cases H:1200<bitLen x.n
    ·exact number_e4 x s c _ d e b 0 (bitLen x.n:Int) w rfl (by omega) (by omega) (by omega) f p m o q
    ·exact number_e5 x s c _ d e b 0 (bitLen x.n:Int) w rfl (by omega) (by omega) (by omega) (by omega) f p m o q
   ·rw[if_neg y]
    exact⟨fun h=>absurd rfl h,fun _=>number_W x s c _ d e b 0 (bitLen x.n:Int) w rfl (by omega) (by omega) (by omega) (by omega) f p m o q⟩
def expOut (s:Bool)(xs:List Nat)(e b:Int):ak×ak×Int:=
 if numR s xs e b≠0 then(zTr,zTr,numR s xs e b)
 else if 0<bJ (sizeT (bare ⟨s,Dg.vl 4294967296 xs,e⟩)) (wTr 12000) then(zTr,zTr,2)
 else if(bare ⟨s,Dg.vl 4294967296 xs,e⟩).n=0 then(wTr 1,wTr 1,0)
 else iD (bU (cutSp (expV (bare ⟨s,Dg.vl 4294967296 xs,e⟩) (b.toNat+64)) (b.toNat+32)).1) (bU (cutSp (expV (bare ⟨s,Dg.vl 4294967296 xs,e⟩) (b.toNat+64)) (b.toNat+32)).2)
def EndK (t:ak):Prop:=(∃y,t=bare y)∧(Dg.dg 4294967296 t.n).length≤1200∧ -20000≤t.e∧t.e≤20000
theorem angle_zero (x:ak)(s:Bool)(p:Option Addr)(y v:Nat)(e b f:Int)(w:World)(hf:f=0)
  (i: ∀a,yB w a→yC 20 #[ydV s (.slice p y v) e,yi b] a (NRd a x 0))
  (h: ∀g d a,yB w a→Rd a .u32 (yT g x.n d) (Dg.dg 4294967296 x.n)→yC 24 #[yDV x g d] a (yR a (yi f))):
  yC 46 #[ydV s (.slice p y v) e,yi b] w (NRd w x 0):=by
 replace i:Hid _:=i;replace h:Hid _:=h;obtain⟨X,m,q1,q2,t⟩:=iG w (ydL s (.slice p y v) e) 25 (ydL false yN 0) 41;replace m:Hid _:=m
 go_enter func46,ntmps46
 go_upto_region 1 with fail
 rw[m.out];clear m;obtain⟨N,O,Q⟩:=q1.cs3
 go_wp2_with fail
 refine(i.out _ t).mono ?_;rintro U H ⟨a3,rfl,B,u⟩;have z:=q2.l u;have q:=aa t u;obtain⟨g,d,S⟩:=B.shape;subst S;clear q1 q2 t u i N O Q;obtain⟨W,k,A,j⟩:=cA H (yDL x g d) 41;replace k:Hid _:=k;have a1:w.heap.size≤H.heap.size:=q.size;have a2:=z.lt;have F:=z.l j;have C:=B.l j;have r:=aa q j;clear z B q j
 go_upto_region 2 with fail
 rw[k.out];clear k;obtain⟨K,L,M⟩:=A.cs3
 go_wp2_with fail
 refine(h.out _ _ _ r C).mono ?_;rintro U a4 ⟨rfl,c⟩;have o:=F.l c;have G:=A.l c;have D:=C.l c;have E:=aa r c;clear F A C r c h K L M;obtain⟨Y,Z,a0⟩:=G.cs3;have hf:=afy (P:=Tryz.prog) o E (by omega) underlying41 rfl (by kernel_rfl) (.bool x.s) (yT g x.n d) (yi x.e);have I:Hid (_∧_∧_):=⟨hf.1,hf.2.2.rd D (aX D o (by simp)),hf.2.1⟩;obtain⟨⟨z0,z1,z2⟩,y0,y1,y2⟩:=afA o;clear hf o G D E
 go_wp2
 obtain⟨R,T,J⟩:=I.out;exact bodyPost_ret (aj results46 rfl rfl R) rfl ⟨_,rfl,T,J⟩
theorem UI {d k L:Nat}(h:d≤2^k)(a:k+1≤16*L):(Dg.dg 65536 d).length≤L:=by
 refine Dg.dg_len_le 65536 _ _ (by omega) (Nat.lt_of_le_of_lt h ?_);rw[show(65536:Nat)=2^16 from by decide,←Nat.pow_mul]
 exact Nat.pow_lt_pow_right (by omega) (by omega)
end Go.Proofs.YthhiidikgchdeaaGreatDoor
