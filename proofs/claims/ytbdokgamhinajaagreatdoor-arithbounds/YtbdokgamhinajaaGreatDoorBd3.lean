/-
  ArithBounds, paid.
-/
import Derived.Test.YtbdokgamhinajaaGreatDoorWb01
set_option maxRecDepth 100000
namespace Go.Proofs.YtbdokgamhinajaaGreatDoor
open _root_.Go.Proofs.Tryz
open Go.RowKit
structure Pair (k:Nat) (f1 f2:Int×Bool×ak×Int):Prop where
 c:f1.1=f2.1
 t:f1.2.2.1=f2.2.2.1
 two:f1.1=2→f1.2.2.1.n≠0
 inf:f1.1=3→f1.2.1=f2.2.1∧k≤3
 all:f1.1=1∨f1.1=2∨f1.1=3∨(f1.1=AZ (dK k)∧f1.2.1=false∧f2.2.1=false)
def Goes (k:Nat)(r1 r2:ByteArray×Int×Int):Prop:=r1.2.2=0∧r2.2.2=0∧dF k r1.1=0∧dF k r2.1=0∧Fine k r1.1 r2.1
theorem goes_of {k:Nat}(hk:1≤k∧k≤8){c1 c2:Int}{g1 g2:Bool}{m1 m2:Nat}{p1 p2 l1 l2:Int}(e1:(Dw k c1 g1 m1 p1 l1).2.2=0)(e2:(Dw k c2 g2 m2 p2 l2).2.2=0)
  (h:(c1=4∨c1=5∨c2=4∨c2=5)∨((c1=3∨c2=3)∧byI c1 g1≤byI c2 g2)∨(c1≠3∧c2≠3∧ ∃K:Nat,(c1=2→ -(K:Int)≤(ai (rdN k):Int)*p1)∧(c2=2→ -(K:Int)≤(ai (rdN k):Int)*p2)∧(if c1=2 then V K ⟨g1,m1,(ai (rdN k):Int)*p1⟩ else 0)≤(if c2=2 then V K ⟨g2,m2,(ai (rdN k):Int)*p2⟩ else 0))):
  Goes k (Dw k c1 g1 m1 p1 l1) (Dw k c2 g2 m2 p2 l2):=by
 obtain⟨a1,a2,a3,a4⟩:=dec_of hk e1;obtain⟨b1,b2,b3,b4⟩:=dec_of hk e2;refine⟨e1,e2,a1,b1,fine_of a2 b2 a3 b3 a4 b4 ?_⟩
 rcases h with h|h| ⟨h1,h2,K,k1,k2,hv⟩
 ·exact .inl h
 ·exact .inr (.inl h)
 ·have key: ∀(c:Int) (g:Bool) (m:Nat) (p:Int),(c=2→ -(K:Int)≤(ai (rdN k):Int)*p)→ -(K:Int)≤(if c=2 then bare ⟨g,m,(ai (rdN k):Int)*p⟩ else(⟨false,0,0⟩:ak)).e∧V K (if c=2 then bare ⟨g,m,(ai (rdN k):Int)*p⟩ else⟨false,0,0⟩)=if c=2 then V K ⟨g,m,(ai (rdN k):Int)*p⟩ else 0:=fun c g m p hp=>by
   by_cases hc:c=2
   ·rw[if_pos hc,if_pos hc]
    exact⟨eL (hp hc),dw (hp hc)⟩
   ·rw[if_neg hc,if_neg hc]
    refine⟨by show-(K:Int)≤0;omega, ?_⟩
    rw[Wd,if_neg (by decide),Nat.zero_mul];rfl
  obtain⟨x1,x2⟩:=key c1 g1 m1 p1 k1;obtain⟨y1,y2⟩:=key c2 g2 m2 p2 k2;exact .inr (.inr ⟨h1,h2,K,x1,y1,by rw[x2,y2];exact hv⟩)
theorem V_signs (K:Nat)(s:Bool)(m:Nat)(e:Int):V K ⟨s,m,e⟩=if s=true then-V K ⟨false,m,e⟩ else V K ⟨false,m,e⟩:=by
 rw[Wd,Wd,if_neg (show¬false=true by decide)]
theorem two_goes {k:Nat}(hk:1≤k∧k≤8){w1 w2:Int}(hw:(w1=5∧w2=1)∨(w1=1∧w2=4))(g1 g2:Bool)(t:ak)(l1 l2:Int)(h0:t.n≠0):Goes k (m8 k w1 2 g1 t l1) (m8 k w2 2 g2 t l2):=by
 obtain⟨-,-,d1,-,-,-,-,-,-,-,-,-⟩:=eR hk;have E: ∀w g,(Dw k (pG k w (fY k w t)).1 (pG k w (fY k w t)).2.1 (pG k w (fY k w t)).2.2.1 (pG k w (fY k w t)).2.2.2.1 (bits .or .i64 0 (pG k w (fY k w t)).2.2.2.2)).2.2=0:=fun w (g:Bool)=>by
  have:=(same_fit hk w g t h0).1;unfold m8 at this
  rwa [if_pos rfl] at this
 have E1:=E w1 false;have E2:=E w2 false;unfold m8;rw[if_pos rfl,if_pos rfl];refine goes_of hk ((err_fl ..).trans E1) ((err_fl ..).trans E2) ?_;clear E E1 E2;have hp: ∀w,fY k w t=plcD k t.s (fM (rdN k) (dgN k) (lsI k) (decide (k≤3)) t.s t.n 1 t.e w) (dj (rdN k) (dgN k) (lsI k) (decide (k≤3)) t.n 1 t.e) (decide (gF (rdN k) (dgN k) (lsI k) (decide (k≤3)) t.n 1 t.e=0)) (decide (aT (rdN k) (dgN k) (dY t.n 1 t.e)<lsI k)):=fun w=>rfl
 rw[hp,hp];have hB: ∀w,fM (rdN k) (dgN k) (lsI k) (decide (k≤3)) t.s t.n 1 t.e w≤2^ (ai (rdN k)*(dgN k:Int).toNat):=fun w=>by
  have h1:=rP (rdN k) (dgN k) (lsI k) (decide (k≤3)) t.n 1 t.e (by omega) h0 (by omega);have h2:=DY (rdN k) (dgN k) (lsI k) (decide (k≤3)) t.s t.n 1 t.e w;omega
 have hO:=dig_ord (rdN k) (dgN k) (lsI k) (decide (k≤3)) t.s t.n 1 t.e;generalize dj (rdN k) (dgN k) (lsI k) (decide (k≤3)) t.n 1 t.e=cut at*;generalize decide (gF (rdN k) (dgN k) (lsI k) (decide (k≤3)) t.n 1 t.e=0)=ex at*;generalize decide (aT (rdN k) (dgN k) (dY t.n 1 t.e)<lsI k)=un at*;generalize fM (rdN k) (dgN k) (lsI k) (decide (k≤3)) t.s t.n 1 t.e=dg at*;generalize t.s=s at*;obtain⟨K,hK,hcut⟩: ∃K:Nat,100000≤K∧ -(K:Int)≤(ai (rdN k):Int)*cut:=⟨100000+((ai (rdN k):Int)*cut).natAbs,by omega,by omega⟩;have out: ∀{a b:Int×Bool×Nat×Int×Int},LowV K k s a b→(a.1=4∨a.1=5∨b.1=4∨b.1=5)∨((a.1=3∨b.1=3)∧b.1=3∧b.2.1=s∧(a.1=3→a.2.1=s))∨(a.1≠3∧b.1≠3∧(a.1=2→a.2.1=s∧ -(K:Int)≤(ai (rdN k):Int)*a.2.2.2.1)∧(b.1=2→b.2.1=s∧ -(K:Int)≤(ai (rdN k):Int)*b.2.2.2.1)∧magV K k a≤magV K k b):=fun {a b} h=>by
  rcases h with h| ⟨h1,h2,h3⟩| ⟨h1,h2,h3,h4,h5⟩
  ·exact .inl (.inr (.inr (.inr h)))
  ·refine .inr (.inl ⟨.inr h1,h1,h2,fun c=> ?_⟩)
   rcases h3 with h3|h3|h3
   ·omega
   ·omega
   ·exact h3.2
  ·exact .inr (.inr ⟨by omega,by omega,h3,h4,h5⟩)
 have mg: ∀(a:Int×Bool×Nat×Int×Int),(a.1=2→a.2.1=s)→(if a.1=2 then V K ⟨a.2.1,a.2.2.1,(ai (rdN k):Int)*a.2.2.2.1⟩ else 0)=if s=true then-magV K k a else magV K k a:=fun a ha=>by
  unfold magV
  by_cases h2:a.1=2
  ·rw[if_pos h2,if_pos h2,V_signs,ha h2]
  ·rw[if_neg h2,if_neg h2]
   split<;>rfl
 cases s
 ·have hl:LowV K k false (pG k w1 (plcD k false (dg w1) cut ex un)) (pG k w2 (plcD k false (dg w2) cut ex un)):=by
   refine set_le hk hK w1 w2 false (dg w1) (dg w2) cut ex un ?_ (hB w2) hcut ?_
   ·obtain⟨o1,o2⟩:=hO.1 rfl
    rcases hw with⟨rfl,rfl⟩| ⟨rfl,rfl⟩
    ·exact o1
    ·exact o2
   ·rcases hw with⟨rfl,rfl⟩| ⟨rfl,rfl⟩<;>decide
  rcases out hl with h| ⟨h1,h2,h3,h4⟩| ⟨h1,h2,h3,h4,h5⟩
  ·exact .inl h
  ·refine .inr (.inl ⟨h1, ?_⟩)
   have e:byI (pG k w2 (plcD k false (dg w2) cut ex un)).1 (pG k w2 (plcD k false (dg w2) cut ex un)).2.1=1:=by
    unfold byI;rw[if_pos h2,h3,if_neg (show¬false=true by decide)]
   rw[e];unfold byI
   split
   ·split<;>decide
   ·decide
  ·refine .inr (.inr ⟨h1,h2,K,fun c=>(h3 c).2,fun c=>(h4 c).2, ?_⟩)
   rw[mg _ (fun c=>(h3 c).1),mg _ (fun c=>(h4 c).1),if_neg (by decide),if_neg (by decide)]
   exact h5
 ·have hl:LowV K k true (pG k w2 (plcD k true (dg w2) cut ex un)) (pG k w1 (plcD k true (dg w1) cut ex un)):=by
   refine set_le hk hK w2 w1 true (dg w2) (dg w1) cut ex un ?_ (hB w1) hcut ?_
   ·obtain⟨o1,o2⟩:=hO.2 rfl
    rcases hw with⟨rfl,rfl⟩| ⟨rfl,rfl⟩
    ·exact o2
    ·exact o1
   ·rcases hw with⟨rfl,rfl⟩| ⟨rfl,rfl⟩<;>decide
  rcases out hl with h| ⟨h1,h2,h3,h4⟩| ⟨h1,h2,h3,h4,h5⟩
  ·exact .inl (by omega)
  ·refine .inr (.inl ⟨.inl h2, ?_⟩)
   have e:byI (pG k w1 (plcD k true (dg w1) cut ex un)).1 (pG k w1 (plcD k true (dg w1) cut ex un)).2.1= -1:=by
    unfold byI;rw[if_pos h2,h3,if_pos rfl]
   rw[e];unfold byI
   split
   ·split<;>decide
   ·decide
  ·refine .inr (.inr ⟨h2,h1,K,fun c=>(h4 c).2,fun c=>(h3 c).2, ?_⟩)
   rw[mg _ (fun c=>(h4 c).1),mg _ (fun c=>(h3 c).1),if_pos rfl,if_pos rfl]
   omega
theorem ans_goes {k:Nat}(hk:1≤k∧k≤8){w1 w2:Int}(hw:(w1=5∧w2=1)∨(w1=1∧w2=4)){f1 f2:Int×Bool×ak×Int}(h:Pair k f1 f2):Goes k (m8 k w1 f1.1 f1.2.1 f1.2.2.1 f1.2.2.2) (m8 k w2 f2.1 f2.2.1 f2.2.2.1 f2.2.2.2):=by
 obtain⟨c1,g1,t1,l1⟩:=f1;obtain⟨c2,g2,t2,l2⟩:=f2;obtain⟨h1,h2,h3,h4,h5⟩:=h;simp only at h1 h2 h3 h4 h5⊢;subst h1 h2
 by_cases e2:c1=2
 ·subst e2
  exact two_goes hk hw g1 g2 t1 l1 l2 (h3 rfl)
 by_cases e1:c1=1
 ·subst e1
  have E: ∀w g l,(Dw k 1 (g&&decide (dK k=1)) 0 0 l).2.2=0:=fun w g l=>by
   have:=(same_nil hk w g t1 l).1;unfold m8 at this
   rwa [if_neg (by decide),if_pos rfl] at this
  unfold m8;rw[if_neg (by decide),if_pos rfl,if_neg (by decide),if_pos rfl];refine goes_of hk (E w1 g1 l1) (E w2 g2 l2) (.inr (.inr ⟨by decide,by decide,0,fun c=>absurd c (by decide),fun c=>absurd c (by decide), ?_⟩))
  rw[if_neg (by decide),if_neg (by decide)];exact Int.le_refl _
 by_cases e3:c1=3
 ·subst e3
  obtain⟨i1,i2⟩:=h4 rfl;have E: ∀w g l,(Dw k 3 g 0 0 l).2.2=0:=fun w g l=>by
   have:=(same_inf hk i2 w g t1 l).1;unfold m8 at this
   rwa [if_neg (by decide),if_neg (by decide)] at this
  unfold m8;rw[if_neg (by decide),if_neg (by decide),if_neg (by decide),if_neg (by decide)];exact goes_of hk (E w1 g1 l1) (E w2 g2 l2) (.inr (.inl ⟨.inl rfl,by rw[i1];exact Int.le_refl _⟩))
 ·obtain⟨n1,n2,n3⟩:=((h5.resolve_left e1).resolve_left e2).resolve_left e3
  subst n2 n3;have E: ∀w l,(Dw k c1 false 0 0 l).2.2=0:=fun w l=>by
   have:=(same_off hk w l).1;unfold m8 at this;rw[←n1] at this
   rwa [if_neg e2,if_neg e1] at this
  unfold m8;rw[if_neg e2,if_neg e1,if_neg e2,if_neg e1];refine goes_of hk (E w1 l1) (E w2 l2) (.inl ?_);unfold AZ at n1
  split at n1
  ·omega
  ·split at n1<;>omega
theorem num_pair {k:Nat}{t:ak}{s1 s2:Bool}:Pair k (nu t s1) (nu t s2):=by
 refine⟨rfl,rfl,fun c=> ?_,fun c=> ?_, ?_⟩
 ·have:vI t=2:=c
  unfold vI at this
  show(tF t).n≠0
  unfold tF
  split at this
  ·omega
  ·next h=>rw[if_neg h];exact h
 ·have:vI t=3:=c
  unfold vI at this
  split at this<;>omega
 ·show vI t=1∨vI t=2∨_
  unfold vI
  split
  ·exact .inl rfl
  ·exact .inr (.inl rfl)
theorem no_pair {k:Nat}{l1 l2:Int}:Pair k (noV k l1) (noV k l2):=
 ⟨rfl,rfl,fun c=>(vN (k:=k) (fl:=0) c).elim,fun c=>by
  have:AZ (dK k)=3:=c;unfold AZ at this
  split at this
  ·omega
  ·split at this<;>omega,.inr (.inr (.inr ⟨rfl,rfl,rfl⟩))⟩
theorem inf_pair {k:Nat}{g:Bool}{x:ak}(h:k≤3){l1 l2:Int}:Pair k (3,g,x,l1) (3,g,x,l2):=
 ⟨rfl,rfl,fun c=>absurd c (show¬(3:Int)=2 by decide),fun _=>⟨rfl,h⟩,.inr (.inr (.inl rfl))⟩
theorem sum_pair {k:Nat}(w1 w2:Int){cx cy:Int}{gx gy:Bool}{x y:ak}(hx:cx=3→k≤3)(hy:cy=3→k≤3):Pair k (vY k w1 cx gx x cy gy y) (vY k w2 cx gx x cy gy y):=by
 by_cases h1:cx=3∧cy=3∧gx≠gy
 ·rw[Jz h1,Jz h1]
  exact no_pair
 by_cases h2:cx=3
 ·rw[JA h2 (fun c=>h1 ⟨h2,c.1,c.2⟩),JA h2 (fun c=>h1 ⟨h2,c.1,c.2⟩)]
  exact inf_pair (hx h2)
 by_cases h3:cy=3
 ·rw[Wy h2 h3,Wy h2 h3]
  exact inf_pair (hy h3)
 ·rw[OZ h2 h3,OZ h2 h3]
  exact num_pair
theorem prod_pair {k:Nat}{cx cy:Int}{gx gy:Bool}{x y:ak}(hx:cx=3→k≤3)(hy:cy=3→k≤3):Pair k (mK k cx gx x cy gy y) (mK k cx gx x cy gy y):=by
 unfold mK
 split
 ·exact no_pair
 ·split
  ·next h=>exact inf_pair (h.elim hx hy)
  ·exact num_pair
theorem quot_pair {k:Nat}(hk:1≤k∧k≤8){cx cy:Int}{gx gy:Bool}{x y:ak}(hx:cx=3→k≤3):Pair k (wu k cx gx x cy gy y) (wu k cx gx x cy gy y):=by
 unfold wu
 split
 ·exact no_pair
 ·split
  ·next h=>exact inf_pair (hx h)
  ·split
   ·exact⟨rfl,rfl,fun c=>absurd c (show¬(1:Int)=2 by decide),fun c=>absurd c (show¬(1:Int)=3 by decide),.inl rfl⟩
   ·split
    ·unfold EU
     split
     ·next h=>exact inf_pair ((fam_one hk).1 h)
     ·split
      ·have h:=num_pair (k:=k) (t:=bare ⟨gx != gy,rdN k^dgN k-1,(ai (rdN k):Int)*gsI k⟩) (s1:=gx != gy) (s2:=gx != gy)
       exact⟨rfl,rfl,h.two,h.inf,h.all⟩
      ·exact no_pair
    ·exact num_pair
theorem rec_goes {k:Nat}(hk:1≤k∧k≤8){ps:List ByteArray}(he:fT k ps=0)(hf:dK k≠0){w1 w2:Int}(hw:(w1=5∧w2=1)∨(w1=1∧w2=4)){f1 f2:Int×Bool×ak×Int}(h:Pair k f1 f2):Goes k (jV k w1 ps f1) (jV k w2 ps f2):=by
 rw[rec_right f1 hf he (by omega),rec_right f2 hf he (by omega)]
 by_cases hn:ps.any (dO k)=true
 ·rw[if_pos hn,if_pos hn]
  exact ans_goes hk hw (f1:=(AZ (dK k),false,⟨false,0,0⟩,if dK k=1 then 0 else 16)) (f2:=(AZ (dK k),false,⟨false,0,0⟩,if dK k=1 then 0 else 16)) no_pair
 ·rw[if_neg hn,if_neg hn]
  exact ans_goes hk hw h
theorem choose3_any (c:Int)(w:World)(h1: -9223372036854775808≤c)(h2:c≤9223372036854775807):
  ∃d:Nat,d<3∧yH w 25 #[yi c,yi 3] (yi (d:Int)):=by
 by_cases h:c<0
 ·have ht:(c+1).tmod 3= -((-(c+1)) % 3):=by
   have:=Int.neg_tmod (-(c+1)) 3;rw[Int.neg_neg] at this;have h2:(-(c+1)).tmod 3=(-(c+1)) % 3:=Int.tmod_eq_emod_of_nonneg (by omega);rw[this,h2]
  obtain⟨d,hd⟩: ∃d:Nat,(-(c+1)) % 3=(d:Int):=⟨((-(c+1)) % 3).toNat,by omega⟩;rw[hd] at ht;have hdl:d<3:=by omega
  clear hd;refine⟨d,hdl,fun w1 _=> ?_⟩
  go_enter func25,ntmps25
  go_wp2
  go_ret
  exact⟨by go_num,Below.refl _ _⟩
 ·obtain⟨d,hd⟩: ∃d:Nat,c % 3=(d:Int):=⟨(c % 3).toNat,by omega⟩
  have ht:c.tmod 3=(d:Int):=by rw[Int.tmod_eq_emod_of_nonneg (by omega)];exact hd
  have hdl:d<3:=by omega
  refine⟨d,hdl,fun w1 _=> ?_⟩
  go_enter func25,ntmps25
  go_wp2
  go_ret
  exact⟨by go_num,Below.refl _ _⟩
def opF (d:Nat)(n way:Int)(a b:ByteArray):Int×Bool×ak×Int:=if d=0 then OX n way a b else if d=1 then qL n a b else Wl n a b
theorem closure_any {d:Nat}(hd:d<3)(c n way:Int)(a b:ByteArray)(pw pf pa pb:Nat)(w:World)(hT:Tab w)(HC:yH w 25 #[yi c,yi 3] (yi d))
  (lf:au w pf 3 [yi n]) (la:au w pa 9 [.string a]) (lb:au w pb 9 [.string b]) (lw:au w pw 3 [yi c]):
  yC 24 #[yi way,.pointer (some ⟨pw,0,none⟩),.pointer (some ⟨pf,0,none⟩),.pointer (some ⟨pa,0,none⟩),.pointer (some ⟨pb,0,none⟩)] w (yR w (.tuple #[.string (jV n way [a,b] (opF d n way a b)).1,yi (jV n way [a,b] (opF d n way a b)).2.2])):=by
 unfold opF
 by_cases h0:d=0
 ·subst h0
  rw[if_pos rfl];exact bounds1_add c n way _ _ a b _ pw pf pa pb w lw lf la lb HC (fun w1 b1=>DI n way a b w1 (hT.l b1))
 rw[if_neg h0]
 by_cases h1:d=1
 ·subst h1
  rw[if_pos rfl];exact bounds1_mul c n way _ _ a b _ pw pf pa pb w lw lf la lb HC (fun w1 b1=>AN n way a b w1 (hT.l b1))
 ·rw[if_neg h1]
  obtain rfl:d=2:=by omega
  exact bounds1_div c n way _ _ a b _ pw pf pa pb w lw lf la lb HC (fun w1 b1=>Jx n way a b w1 (hT.l b1))
theorem arithBounds_walk (n:Int)(a b:ByteArray)(c:Int)(w:World)(h1: -9223372036854775808≤c)(h2:c≤9223372036854775807)(hT:Tab w):yC 7 #[yi n,.string a,.string b,yi c] w (yR w (.bool true)):=by
 have HB:=fun w1 (b:yB w w1)=>jx w1 (hT.l b)
 obtain⟨d,hd,HC⟩:=choose3_any c w h1 h2;have HD:=fun(wy:Int) w1 (_:1≤wy∧wy≤5) (b1:yB w w1) (lf:au w1 w.heap.size 3 [yi n]) (la:au w1 (w.heap.size+1) 9 [.string a]) (lb:au w1 (w.heap.size+1+1) 9 [.string b]) (lw:au w1 (w.heap.size+1+1+1) 3 [yi c])=>closure_any hd c n wy a b _ _ _ _ w1 (hT.l b1) (fun w2 b2=>HC w2 (aa b1 b2)) lf la lb lw
 by_cases h:CK n 1 [a,b]=0
 rotate_left
 ·have hw: ∀wy:Int,1≤wy∧wy≤5→CK n wy [a,b]=CK n 1 [a,b]:=fun wy hy=>by
   unfold CK;rw[way_is.2 hy,way_is.2 (by omega)]
  refine bounds_err n c (CK n 1 [a,b]) a b (fun wy=>(jV n wy [a,b] (opF d n wy a b)).1) w h HB (fun wy w1 hy b1 lf la lb lw=>(HD wy w1 hy b1 lf la lb lw).mono (fun z w' hz=> ?_))
  rw[rec_wrong _ (by rw[hw wy hy];exact h),hw wy hy] at hz;rw[rec_wrong _ (by rw[hw wy hy];exact h)];exact hz
 obtain⟨k,hk,rfl,hf,he,-⟩:=opn_right h;have ha:=eU he a (by simp);have hb:=eU he b (by simp);have ia:((bM (k:Int) a:Nat):Int)=3→k≤3:=fun c=>inf_few ha (by omega)
 have ib:((bM (k:Int) b:Nat):Int)=3→k≤3:=fun c=>inf_few hb (by omega)
 have hP: ∀w1 w2,Pair k (opF d (k:Int) w1 a b) (opF d (k:Int) w2 a b):=fun w1 w2=>by
  unfold opF
  split
  ·unfold OX
   rw[Int.toNat_natCast];exact sum_pair w1 w2 ia ib
  ·split
   ·unfold qL
    rw[Int.toNat_natCast];exact prod_pair ia ib
   ·unfold Wl
    rw[Int.toNat_natCast];exact quot_pair hk ia
 obtain⟨l0,m0,lp,mp,lm⟩:=rec_goes hk he hf (.inl ⟨rfl,rfl⟩) (hP 5 1);obtain⟨-,u0,-,up,mu⟩:=rec_goes hk he hf (.inr ⟨rfl,rfl⟩) (hP 1 4);have HX:=fun w1 (b1:yB w w1)=>acmp_any k hk _ _ w1 (hT.l b1) lp mp
 have HY:=fun w1 (b1:yB w w1)=>acmp_any k hk _ _ w1 (hT.l b1) mp up
 have he0: ∀wy:Int,1≤wy∧wy≤5→(jV (k:Int) wy [a,b] (opF d (k:Int) wy a b)).2.2=0:=fun wy hy=>by
  rw[rec_right _ hf he hy]
  split
  ·exact(same_off hk wy _).1
  ·have hp:=hP wy wy
   generalize opF d (k:Int) wy a b=f at*;obtain⟨c1,g1,t1,l1⟩:=f;obtain⟨-,-,p3,p4,p5⟩:=hp;simp only at p3 p4 p5⊢
   by_cases e2:c1=2
   ·subst e2
    have:=(same_fit hk wy g1 t1 (p3 rfl)).1;unfold m8 at this⊢;rw[if_pos rfl] at this⊢;exact(err_fl ..).trans this
   by_cases e1:c1=1
   ·subst e1
    exact(same_nil hk wy g1 t1 l1).1
   by_cases e3:c1=3
   ·subst e3
    exact(same_inf hk (p4 rfl).2 wy g1 t1 l1).1
   ·obtain⟨n1,n2,-⟩:=((p5.resolve_left e1).resolve_left e2).resolve_left e3
    subst n2;have:=(same_off hk wy l1).1;unfold m8 at this⊢;rw[←n1] at this;rw[if_neg e2,if_neg e1] at this⊢;exact this
 have HD0:=fun(wy:Int) w1 (hy:1≤wy∧wy≤5) b1 lf la lb lw=>HD wy w1 hy b1 lf la lb lw
 have HD1: ∀wy w1,1≤wy∧wy≤5→yB w w1→au w1 w.heap.size 3 [yi (k:Int)]→au w1 (w.heap.size+1) 9 [.string a]→au w1 (w.heap.size+1+1) 9 [.string b]→au w1 (w.heap.size+1+1+1) 3 [yi c]→yC 24 #[yi wy,.pointer (some ⟨w.heap.size+1+1+1,0,none⟩),.pointer (some ⟨w.heap.size,0,none⟩),.pointer (some ⟨w.heap.size+1,0,none⟩),.pointer (some ⟨w.heap.size+1+1,0,none⟩)] w1 (yR w1 (.tuple #[.string (jV (k:Int) wy [a,b] (opF d (k:Int) wy a b)).1,yi 0])):=fun wy w1 hy b1 lf la lb lw=>by
  have:=HD0 wy w1 hy b1 lf la lb lw;rw[he0 wy hy] at this;exact this
 unfold Fine at lm mu
 cases hp:(cmpF k (jV (k:Int) 5 [a,b] (opF d (k:Int) 5 a b)).1 (jV (k:Int) 1 [a,b] (opF d (k:Int) 1 a b)).1).2<;>cases hq:(cmpF k (jV (k:Int) 1 [a,b] (opF d (k:Int) 1 a b)).1 (jV (k:Int) 4 [a,b] (opF d (k:Int) 4 a b)).1).2
 all_goals rw[hp] at HX lm
 all_goals rw[hq] at HY mu
 ·exact bounds_ff (k:Int) c _ _ a b (fun wy=>(jV (k:Int) wy [a,b] (opF d (k:Int) wy a b)).1) w HB HD1 HX HY
 ·exact bounds_ft (k:Int) c _ _ a b (fun wy=>(jV (k:Int) wy [a,b] (opF d (k:Int) wy a b)).1) w (mu rfl) HB HD1 HX HY
 ·exact bounds_tf (k:Int) c _ _ a b (fun wy=>(jV (k:Int) wy [a,b] (opF d (k:Int) wy a b)).1) w (lm rfl) HB HD1 HX HY
 ·exact bounds_tt (k:Int) c _ _ a b (fun wy=>(jV (k:Int) wy [a,b] (opF d (k:Int) wy a b)).1) w (lm rfl) (mu rfl) HB HD1 HX HY
end Go.Proofs.YtbdokgamhinajaaGreatDoor
