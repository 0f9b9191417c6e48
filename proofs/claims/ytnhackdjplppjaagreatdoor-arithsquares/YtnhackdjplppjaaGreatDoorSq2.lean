/-
  ArithSquares, paid.
-/
import Derived.Test.YtnhackdjplppjaaGreatDoorOa3
import Derived.Test.YtnhackdjplppjaaGreatDoorSq1
namespace Go.Proofs.YtnhackdjplppjaaGreatDoor
open Go.RowKit
theorem cls_false {k:Nat} {ng:Bool} {E F:Nat} (h:clsN k ng E F=2):clsN k false E F=2:=by
 unfold clsN at h⊢
 by_cases k3:k≤3
 ·rw[if_pos k3] at h⊢
  exact h
 ·rw[if_neg k3] at h⊢
  by_cases k5:k≤5
  ·rw[if_pos k5] at h⊢
   exact h
  ·rw[if_neg k5] at h⊢
   by_cases e0:E=0
   ·rw[if_pos e0] at h
    cases ng<;>simp at h
   ·rw[if_neg e0]
theorem val_false {k:Nat} {ng:Bool} {E F:Nat} (h:clsN k ng E F=2):valM k ng E F=valM k false E F∧valP k ng E F=valP k false E F:=by
 unfold valM valP;rw[if_pos h,if_pos (cls_false h),if_pos h,if_pos (cls_false h)];exact⟨rfl,rfl⟩
theorem exact_bare {R D L G:Int} {gr s:Bool} {n:Nat} {e way:Int} (h1:1≤D) (hLG:L≤G) (h0:n≠0) (hx:(roundT R D L G gr s n 1 e way).ex=true):
  (roundT R D L G gr s n 1 e way).s=s∧bare ⟨s,(roundT R D L G gr s n 1 e way).d,(widthN R:Int)*(roundT R D L G gr s n 1 e way).p⟩=bare ⟨s,n,e⟩∧(roundT R D L G gr s n 1 e way).d≠0∧(roundT R D L G gr s n 1 e way).p=cutP R D L gr n 1 e∧(roundT R D L G gr s n 1 e way).un=decide (powerR R D (topQ n 1 e)<L):=by
 have hM:(1:Nat)≠0:=by omega
 rw[roundT_flat gr s n 1 e way h1 hLG h0 hM] at hx⊢;have hl:leftP R D L gr n 1 e=0:=of_decide_eq_true hx;have hd:digP R D L gr s n 1 e way=wholeP R D L gr n 1 e:=by
  unfold digP;rw[if_neg];rintro⟨c,-⟩;exact of_decide_eq_false c hl
 obtain⟨c1,c2⟩:=dig_short R D L gr n 1 e h1 h0 hM (cutP R D L gr n 1 e);have hK:(widthN R:Int)*cutP R D L gr n 1 e≤e+(tz n:Int):=by
  unfold leftP shP at hl;generalize(widthN R:Int)*cutP R D L gr n 1 e=K at hl⊢
  by_cases hle:K≤e
  ·omega
  have e1:numP n (e-K)=n:=by rw[numP_pow,show(e-K).toNat=0 by omega,Nat.pow_zero,Nat.mul_one]
  have e2:denP 1 (e-K)=2^ (K-e).toNat:=by rw[denP_pow,Nat.one_mul,show-(e-K)=K-e by omega]
  rw[e1,e2] at hl;have:=(pow_dvd_tz h0).1 (Nat.dvd_of_mod_eq_zero hl);omega
 obtain⟨-,p2⟩:=one_parts s n e _ hK;have hw:wholeP R D L gr n 1 e=numP n (e-(widthN R:Int)*cutP R D L gr n 1 e)/denP 1 (e-(widthN R:Int)*cutP R D L gr n 1 e):=rfl;rw[←hw] at p2;have hwn:wholeP R D L gr n 1 e≠0:=fun hz=>by
  have h2:(bare ⟨s,wholeP R D L gr n 1 e,(widthN R:Int)*cutP R D L gr n 1 e⟩).n=0:=(bareN_nil _).2 hz;rw[p2] at h2;exact h0 ((bareN_nil _).1 h2)
 rw[hd,c1,c2];simp only;rw[if_neg hwn];exact⟨trivial,p2,hwn,rfl,trivial⟩
theorem plc_fits {k:Nat} (hk:1≤k∧k≤8) {ng:Bool} {E F:Nat} (hE:E<2^exN k) (hF:F<2^frN k) (hc:clsN k ng E F=2):bitLen (plcN k E F)≤widthN (rdN k:Int)*dgN k∧lsI k≤plcP k E∧plcP k E≤gsI k:=by
 have h1:plcN k E F<2^ (widthN (rdN k:Int)*dgN k):=by
  have hfr:frN k≤widthN (rdN k:Int)*dgN k∧(rdN k=16∨leadN k<2^ (widthN (rdN k:Int)*dgN k)):=by
   rcases eight hk with rfl|rfl|rfl|rfl|rfl|rfl|rfl|rfl<;>decide
  have hF2:=Nat.lt_of_lt_of_le hF (Nat.pow_le_pow_right (by omega:0<2) hfr.1);unfold plcN
  by_cases r:rdN k=16
  ·rw[if_pos r]
   exact hF2
  ·rw[if_neg r]
   split
   ·exact hF2
   ·exact Nat.or_lt_two_pow hF2 (hfr.2.resolve_left r)
 refine⟨bitLen_le_of _ _ h1, ?_⟩;have ho:k≤3→E≠onesN k:=fun h3 c=>by
  unfold clsN at hc;rw[if_pos h3,if_neg (by rw[c];intro q;revert q;rcases eight hk with rfl|rfl|rfl|rfl|rfl|rfl|rfl|rfl<;>decide),if_pos c] at hc
  have h34: ∀q:Prop,[Decidable q]→ ¬(if q then 3 else 4)=(2:Nat):=fun q _=>by split<;>decide
  exact h34 _ hc
 unfold plcP
 rcases eight hk with rfl|rfl|rfl|rfl|rfl|rfl|rfl|rfl
 ·have:=ho (by decide)
  rw[show onesN 1=255 from rfl] at this
  rw[show(2:Nat)^exN 1=256 from rfl] at hE
  rw[if_neg (by decide),show lsI 1= -149 from rfl,show gsI 1=104 from rfl]
  split<;>omega
 ·have:=ho (by decide)
  rw[show onesN 2=2047 from rfl] at this
  rw[show(2:Nat)^exN 2=2048 from rfl] at hE
  rw[if_neg (by decide),show lsI 2= -1074 from rfl,show gsI 2=971 from rfl]
  split<;>omega
 ·have:=ho (by decide)
  rw[show onesN 3=32767 from rfl] at this
  rw[show(2:Nat)^exN 3=32768 from rfl] at hE
  rw[if_neg (by decide),show lsI 3= -16445 from rfl,show gsI 3=16320 from rfl]
  split<;>omega
 ·rw[show(2:Nat)^exN 4=128 from rfl] at hE
  rw[if_pos (by decide),show lsI 4= -70 from rfl,show gsI 4=57 from rfl]
  omega
 ·rw[show(2:Nat)^exN 5=128 from rfl] at hE
  rw[if_pos (by decide),show lsI 5= -78 from rfl,show gsI 5=49 from rfl]
  omega
 ·rw[show(2:Nat)^exN 6=256 from rfl] at hE
  rw[if_neg (by decide),show lsI 6= -151 from rfl,show gsI 6=103 from rfl]
  split<;>omega
 ·rw[show(2:Nat)^exN 7=256 from rfl] at hE
  rw[if_neg (by decide),show lsI 7= -183 from rfl,show gsI 7=71 from rfl]
  split<;>omega
 ·rw[show(2:Nat)^exN 8=2048 from rfl] at hE
  rw[if_neg (by decide),show lsI 8= -1076 from rfl,show gsI 8=970 from rfl]
  split<;>omega
theorem bitLen_sq (n:Nat):bitLen (n*n)≤2*bitLen n:=by
 refine bitLen_le_of _ _ ?_;have h:=bit_lt (Nat.le_refl (bitLen n));rw[show 2*bitLen n=bitLen n+bitLen n by omega,Nat.pow_add]
 exact Nat.mul_lt_mul'' h h
theorem sq_held {k:Nat} (hk:1≤k∧k≤8) {N n:Nat} {P e:Int} (hN:bitLen N≤widthN (rdN k:Int)*dgN k) (p1:lsI k≤P) (p2:P≤gsI k) (he:(widthN (rdN k:Int):Int)*P≤e) (ht:e+(bitLen n:Int)=(widthN (rdN k:Int):Int)*P+(bitLen N:Int))
  (hs:k≤3∨lsI k≤powerR (rdN k:Int) (dgN k:Int) ((bitLen (n*n):Int)-1+(e+e))):heldB (rdN k:Int) (dgN k:Int) (lsI k) (gsI k) (decide (k≤3)) n e=true:=by
 have hq:=bitLen_sq n;unfold heldB;refine decide_eq_true (.inr ?_);unfold spotK;unfold powerR at hs⊢;generalize bitLen (n*n)=b2 at*;generalize bitLen n=b at*;generalize bitLen N=bN at*;generalize tz n=z at*
 rcases eight hk with rfl|rfl|rfl|rfl|rfl|rfl|rfl|rfl
 ·rw[show lsI 1= -149 from rfl] at*
  rw[show gsI 1=104 from rfl] at*
  simp only[show rdN 1=2 from rfl,show dgN 1=24 from rfl,show widthN ((2:Nat):Int)=1 from rfl] at*
  simp
  split<;>omega
 ·rw[show lsI 2= -1074 from rfl] at*
  rw[show gsI 2=971 from rfl] at*
  simp only[show rdN 2=2 from rfl,show dgN 2=53 from rfl,show widthN ((2:Nat):Int)=1 from rfl] at*
  simp
  split<;>omega
 ·rw[show lsI 3= -16445 from rfl] at*
  rw[show gsI 3=16320 from rfl] at*
  simp only[show rdN 3=2 from rfl,show dgN 3=64 from rfl,show widthN ((2:Nat):Int)=1 from rfl] at*
  simp
  split<;>omega
 ·have hs:=hs.resolve_left (by decide)
  rw[show lsI 4= -70 from rfl] at*
  rw[show gsI 4=57 from rfl] at*
  simp only[show rdN 4=16 from rfl,show dgN 4=6 from rfl,show widthN ((16:Nat):Int)=4 from rfl] at*
  simp;omega
 ·have hs:=hs.resolve_left (by decide)
  rw[show lsI 5= -78 from rfl] at*
  rw[show gsI 5=49 from rfl] at*
  simp only[show rdN 5=16 from rfl,show dgN 5=14 from rfl,show widthN ((16:Nat):Int)=4 from rfl] at*
  simp;omega
 ·have hs:=hs.resolve_left (by decide)
  rw[show lsI 6= -151 from rfl] at*
  rw[show gsI 6=103 from rfl] at*
  simp only[show rdN 6=2 from rfl,show dgN 6=24 from rfl,show widthN ((2:Nat):Int)=1 from rfl] at*
  simp;omega
 ·have hs:=hs.resolve_left (by decide)
  rw[show lsI 7= -183 from rfl] at*
  rw[show gsI 7=71 from rfl] at*
  simp only[show rdN 7=2 from rfl,show dgN 7=56 from rfl,show widthN ((2:Nat):Int)=1 from rfl] at*
  simp;omega
 ·have hs:=hs.resolve_left (by decide)
  rw[show lsI 8= -1076 from rfl] at*
  rw[show gsI 8=970 from rfl] at*
  simp only[show rdN 8=2 from rfl,show dgN 8=53 from rfl,show widthN ((2:Nat):Int)=1 from rfl] at*
  simp;omega
theorem ans_exact {k:Nat} {way:Int} {g:Bool} {y:Trip} (he:(ansT k way 2 g y 0).2.2=0) (hf:(ansT k way 2 g y 0).2.1=0):
  (plcT k way y).ov=false∧ ¬((plcT k way y).un=true∧(plcT k way y).p<lsI k)∧(plcT k way y).ex=true∧((plcT k way y).d≠0→encE (k:Int) 2 (plcT k way y).s (Dg.dg 4294967296 (plcT k way y).d) (plcT k way y).p=0∧(ansT k way 2 g y 0).1=encS (k:Int) 2 (plcT k way y).s (Dg.dg 4294967296 (plcT k way y).d) (plcT k way y).p):=by
 unfold ansT at he hf⊢;rw[if_pos rfl] at he hf⊢;unfold encT at he hf⊢
 by_cases hE:encE (k:Int) (setV k way (plcT k way y)).1 (setV k way (plcT k way y)).2.1 (Dg.dg 4294967296 (setV k way (plcT k way y)).2.2.1) (setV k way (plcT k way y)).2.2.2.1=0
 rotate_left
 ·rw[if_neg hE] at he
  exact absurd he hE
 rw[if_pos hE] at hf⊢;simp only at hf⊢;unfold setV at hE hf⊢
 by_cases ho:(plcT k way y).ov=true
 ·rw[if_pos ho] at hf
  exact absurd hf (show¬bits .or .i64 0 5=0 by decide)
 rw[if_neg ho] at hE hf⊢
 by_cases hl:(plcT k way y).un=true∧(plcT k way y).p<lsI k
 ·rw[if_pos hl] at hf
  exact absurd hf (show¬bits .or .i64 0 3=0 by decide)
 rw[if_neg hl] at hE hf⊢
 by_cases hx:(plcT k way y).ex=true
 ·refine⟨by simpa using ho,hl,hx,fun hd=> ?_⟩
  rw[if_neg hd] at hE⊢;exact⟨hE,rfl⟩
 ·rw[if_neg hx] at hf
  by_cases hu:(plcT k way y).un=true
  ·rw[if_pos hu] at hf
   exact absurd hf (show¬bits .or .i64 0 3=0 by decide)
  ·rw[if_neg hu] at hf
   exact absurd hf (show¬bits .or .i64 0 1=0 by decide)
theorem root_sq (n:Nat) (e:Int):bare (rootT ⟨false,n*n,e+e⟩ 128)=bare ⟨false,n,e⟩∧(n≠0→(rootT ⟨false,n*n,e+e⟩ 128).n≠0):=by
 have hev:=rootS_even ⟨false,n*n,e+e⟩ 128;obtain⟨S,hS⟩: ∃S,rootS ⟨false,n*n,e+e⟩ 128=S:=⟨_,rfl⟩;unfold rootT;rw[hS] at hev⊢;simp only at hev⊢;obtain⟨j,rfl⟩: ∃j,S=2*j:=⟨S/2,by omega⟩;have hp:n*n*2^ (2*j)=(n*2^j)*(n*2^j):=by
  rw[show 2*j=j+j by omega,Nat.pow_add]
  simp only[Nat.mul_assoc,Nat.mul_left_comm]
 have hr:rootOf (n*n*2^ (2*j)) 2=n*2^j:=by
  refine rootOf_eq ⟨?_, ?_⟩
  ·rw[hp,Nat.pow_two]
   exact Nat.le_refl _
  ·rw[hp,Nat.pow_two]
   exact Nat.mul_lt_mul'' (Nat.lt_succ_self _) (Nat.lt_succ_self _)
 have hd:decide (n*2^j*(n*2^j)<n*n*2^ (2*j))=false:=decide_eq_false (by rw[hp];omega);rw[hr,hd];unfold endlessT;simp only;refine⟨?_,fun h0 c=> ?_⟩
 ·refine bare_of_V (K:=(max (-(e-j-1)) 0).toNat) (by simp only;omega) (by simp only;omega) ?_
  rw[V_nat,V_nat];simp only;rw[show(if false=true then 1 else 0)=0 from rfl,Nat.add_zero,show n*2^j*2=n*2^ (j+1) by rw[Nat.pow_succ,Nat.mul_assoc],Nat.mul_assoc,←Nat.pow_add]
  rw[show j+1+((e+e-((2*j:Nat):Int))/2-1+((max (-(e-j-1)) 0).toNat:Int)).toNat=(e+((max (-(e-j-1)) 0).toNat:Int)).toNat by omega]
 ·have:=Nat.mul_ne_zero h0 (Nat.ne_of_gt (two_pos j))
  simp at c;omega
theorem chk_range (xs:List Nat):0≤chk xs∧chk xs≤6:=by
 unfold chk
 split
 ·exact⟨by decide,by decide⟩
 ·split<;>exact⟨by decide,by decide⟩
theorem encE_range (n c:Int) (g:Bool) (xs:List Nat) (p:Int):0≤encE n c g xs p∧encE n c g xs p≤6:=by
 unfold encE
 split
 ·exact⟨by decide,by decide⟩
 ·split
  ·exact chk_range xs
  ·split
   ·unfold enE
    split
    ·exact⟨by decide,by decide⟩
    ·split
     ·exact⟨by decide,by decide⟩
     ·split<;>exact⟨by decide,by decide⟩
   ·unfold othE
    split
    ·exact⟨by decide,by decide⟩
    ·split<;>exact⟨by decide,by decide⟩
theorem encT_range (k:Nat) (c:Int) (g:Bool) (m:Nat) (p fl:Int):0≤(encT k c g m p fl).2.2∧(encT k c g m p fl).2.2≤6∧((encT k c g m p fl).2.1=fl∨(encT k c g m p fl).2.1=0):=by
 unfold encT
 split
 ·exact⟨Int.le_refl 0,show(0:Int)≤6 by decide,.inl rfl⟩
 ·exact⟨(encE_range _ _ _ _ _).1,(encE_range _ _ _ _ _).2,.inr rfl⟩
theorem set_flags (k:Nat) (wy:Int) (P:PlaceT):(setV k wy P).2.2.2.2=0∨(setV k wy P).2.2.2.2=1∨(setV k wy P).2.2.2.2=3∨(setV k wy P).2.2.2.2=5:=by
 unfold setV
 by_cases h1:P.ov=true
 ·rw[if_pos h1]
  exact .inr (.inr (.inr rfl))
 rw[if_neg h1]
 by_cases h2:P.un=true∧P.p<lsI k
 ·rw[if_pos h2]
  exact .inr (.inr (.inl rfl))
 rw[if_neg h2]
 by_cases h3:P.ex=true
 ·rw[if_pos h3]
  exact .inl rfl
 rw[if_neg h3]
 by_cases h4:P.un=true
 ·rw[if_pos h4]
  exact .inr (.inr (.inl rfl))
 ·rw[if_neg h4]
  exact .inr (.inl rfl)
def Flg (r:ByteArray×Int×Int):Prop:=(0≤r.2.2∧r.2.2≤6)∧(r.2.1=0∨r.2.1=1∨r.2.1=3∨r.2.1=5∨r.2.1=16)
theorem ans_flags (k:Nat) (way c:Int) (g:Bool) (t:Trip) (fl:Int) (h:c=2→fl=0) (hf:fl=0∨fl=16):Flg (ansT k way c g t fl):=by
 unfold ansT
 by_cases c2:c=2
 ·rw[if_pos c2,h c2]
  obtain⟨a1,a2,a3⟩:=encT_range k (setV k way (plcT k way t)).1 (setV k way (plcT k way t)).2.1 (setV k way (plcT k way t)).2.2.1 (setV k way (plcT k way t)).2.2.2.1 (bits .or .i64 0 (setV k way (plcT k way t)).2.2.2.2);refine⟨⟨a1,a2⟩, ?_⟩
  rcases a3 with a3|a3
  ·rw[a3]
   rcases set_flags k way (plcT k way t) with q|q|q|q<;>rw[q]
   ·exact .inl rfl
   ·exact .inr (.inl rfl)
   ·exact .inr (.inr (.inl rfl))
   ·exact .inr (.inr (.inr (.inl rfl)))
  ·exact .inl a3
 ·rw[if_neg c2]
  have key: ∀x y z u,Flg (encT k x y z u fl):=fun x y z u=>by
   obtain⟨a1,a2,a3⟩:=encT_range k x y z u fl;refine⟨⟨a1,a2⟩, ?_⟩;omega
  split<;>exact key _ _ _ _
theorem rec_flags (n way:Int) (ps:List ByteArray) (f:Int×Bool×Trip×Int) (h:f.1=2→f.2.2.2=0) (hf:f.2.2.2=0∨f.2.2.2=16):Flg (recT n way ps f):=by
 unfold recT
 by_cases h1:famC n=0
 ·rw[if_pos h1]
  exact⟨⟨by decide,by decide⟩,.inl rfl⟩
 rw[if_neg h1]
 by_cases he:errL n ps≠0
 ·rw[if_pos he]
  have hr: ∀l:List ByteArray,0≤errL n l∧errL n l≤6:=fun l=>by
   induction l with
   |nil=>exact⟨Int.le_refl 0,show(0:Int)≤6 by decide⟩
   |cons p l ih=>
    unfold errL
    split
    ·exact ih
    ·unfold patC
     split
     ·exact⟨by decide,by decide⟩
     ·split<;>exact⟨by decide,by decide⟩
  exact⟨hr ps,.inl rfl⟩
 rw[if_neg he]
 split
 ·exact⟨⟨by decide,by decide⟩,.inl rfl⟩
 ·split
  ·refine ans_flags _ _ _ _ _ _ (fun c=>absurd c (fun c=>no_near (k:=n.toNat) (fl:=0) ?_)) ?_
   ·obtain⟨-,-,k3⟩:=famC_in h1
    unfold noV;rw[k3];exact c
   ·split
    ·exact .inl rfl
    ·exact .inr rfl
  ·exact ans_flags _ _ _ _ _ _ h hf
theorem mul_small (n:Int) (a b:ByteArray):((mulF n a b).1=2→(mulF n a b).2.2.2=0)∧((mulF n a b).2.2.2=0∨(mulF n a b).2.2.2=16):=by
 unfold mulF prodV
 split
 ·exact⟨fun c=>(no_near (k:=n.toNat) (fl:=16) c).elim,.inr rfl⟩
 ·split
  ·exact⟨fun _=>rfl,.inl rfl⟩
  ·exact⟨fun _=>rfl,.inl rfl⟩
theorem arithSquares_walk (n:Int) (a:ByteArray) (way:Int) (w:World) (hT:Tab w):Calls Tryz.prog 14 #[yi n,.string a,yi way] w fun z w'=>z= .returned (.bool true)∧Below w.heap.size w w':=by
 have HB:=fun w1 (b:Below w.heap.size w w1)=>arithBegun_any w1 (hT.later b)
 have HM:=fun w1 (b:Below w.heap.size w w1)=>mul_any n way a a w1 (hT.later b)
 obtain⟨⟨g1,g2⟩,g3⟩:=rec_flags n way [a,a] (mulF n a a) (mul_small n a a).1 (mul_small n a a).2
 by_cases he:(recT n way [a,a] (mulF n a a)).2.2=0
 rotate_left
 ·have hv:(recT n way [a,a] (mulF n a a)).2.2=1∨(recT n way [a,a] (mulF n a a)).2.2=2∨(recT n way [a,a] (mulF n a a)).2.2=3∨(recT n way [a,a] (mulF n a a)).2.2=4∨(recT n way [a,a] (mulF n a a)).2.2=5∨(recT n way [a,a] (mulF n a a)).2.2=6:=by omega
  unfold ans3 at HM
  rcases hv with h|h|h|h|h|h<;>rw[h] at HM
  ·exact sq_err1 n way _ a _ w HB HM
  ·exact sq_err2 n way _ a _ w HB HM
  ·exact sq_err3 n way _ a _ w HB HM
  ·exact sq_err4 n way _ a _ w HB HM
  ·exact sq_err5 n way _ a _ w HB HM
  ·exact sq_err6 n way _ a _ w HB HM
 by_cases hfl:(recT n way [a,a] (mulF n a a)).2.1=0
 rotate_left
 ·unfold ans3 at HM
  rw[he] at HM
  rcases g3 with h|h|h|h|h
  ·exact absurd h hfl
  ·rw[h] at HM
   exact sq_fl1 n way a _ w HB HM
  ·rw[h] at HM
   exact sq_fl3 n way a _ w HB HM
  ·rw[h] at HM
   exact sq_fl5 n way a _ w HB HM
  ·rw[h] at HM
   exact sq_fl16 n way a _ w HB HM
 clear g1 g2 g3;have hf:famC n≠0:=fun c=>by
  unfold recT at he;rw[if_pos c] at he;exact absurd he (by decide)
 obtain⟨k1,k2,k3⟩:=famC_in hf;obtain⟨k,rfl⟩: ∃k:Nat,n=(k:Int):=⟨n.toNat,k3.symm⟩;rw[Int.toNat_natCast] at k1 k2;have hk:1≤k∧k≤8:=⟨k1,k2⟩;have hL:errL (k:Int) [a,a]=0:=Decidable.byContradiction fun c=>by
  unfold recT at he;rw[if_neg hf,if_pos c] at he;exact c he
 have hw: ¬(way<1∨5<way):=fun c=>by
  unfold recT at he;rw[if_neg hf,if_neg (by omega),if_pos c] at he;exact absurd he (by decide)
 have hp:=errL_zero hL a (by simp);have HC:=fun w1 (_:Below w.heap.size w w1)=>lawclass_any (k:Int) a w1 hp
 by_cases c2:decC (k:Int) a=2
 rotate_left
 ·unfold ans3 at HM
  rw[he,hfl] at HM;exact sq_cls (k:Int) way _ a _ w (by simpa using(by omega:((decC (k:Int) a:Nat):Int)≠2)) HB HM HC
 obtain⟨q1,q2,q3⟩:=op_parts hk hp c2;obtain⟨x,hx⟩: ∃x,opT (k:Int) a=x:=⟨_,rfl⟩;have hno:noNum (k:Int) a=false:=by unfold noNum;rw[c2];rfl
 have hr:recT (k:Int) way [a,a] (mulF (k:Int) a a)=ansT k way 2 false ⟨false,x.n*x.n,x.e+x.e⟩ 0:=by
  have hm:mulF (k:Int) a a=(2,false,⟨false,x.n*x.n,x.e+x.e⟩,0):=by
   unfold mulF prodV;rw[c2,Int.toNat_natCast,hx,if_neg (by omega),if_neg (by omega)];rw[hx] at q1;have hz:(timesT x x).n≠0:=Nat.mul_ne_zero q1 q1;have hsg:(timesT x x)=⟨false,x.n*x.n,x.e+x.e⟩:=by unfold timesT;cases x.s<;>rfl
   unfold numV numC numG numT;rw[if_neg hz,if_neg hz,if_neg hz,hsg]
  unfold recT;rw[if_neg hf,if_neg (by omega),if_neg hw,if_neg (by simp[hno]),hm,Int.toNat_natCast]
 unfold ans3 at HM;rw[he,hfl] at HM;rw[hr] at he hfl HM;rw[hx] at q1 q2 q3;obtain⟨o1,o2,o3,o4⟩:=ans_exact he hfl;obtain⟨-,-,d1,-,-,-,lg,-,w64,-,-,hg⟩:=fmt_fit hk;have hy0:x.n*x.n≠0:=Nat.mul_ne_zero q1 q1;obtain⟨r1,r2,r3,r4,r5⟩:=exact_bare (R:=(rdN k:Int)) (D:=(dgN k:Int)) (L:=lsI k) (G:=gsI k) (gr:=decide (k≤3)) (s:=false) (e:=x.e+x.e) (way:=way) (by omega) lg hy0 o3;obtain⟨hE,hS⟩:=o4 r3;rw[hS] at HM;have hPs:(plcT k way ⟨false,x.n*x.n,x.e+x.e⟩).s=false:=r1;rw[hPs] at hE hS HM;have sm: ∀z,Dg.Small 4294967296 (Dg.dg 4294967296 z):=fun z=>Dg.small_dg _ _ (by omega)
 obtain⟨s1,s2⟩:=fld_lt k a;have hcl:clsN k (fldN k a) (fldE k a) (fldF k a)=2:=by
  have:=c2;unfold decC at this
  rwa [if_pos hp,Int.toNat_natCast] at this
 have h64:=frN_64 hk s2;have hpn:=plcN_pos hcl;have hT2:x=bare ⟨fldN k a,plcN k (fldE k a) (fldF k a),(widthN (rdN k:Int):Int)*plcP k (fldE k a)⟩:=by
  have:=refT_num hk s1 s2 hcl;rw[wdI_is hk] at this;rw[←this,←hx];unfold opT nxT;rw[if_pos hp,Int.toNat_natCast]
 obtain⟨f1,f2,f3⟩:=plc_fits hk s1 s2 hcl;obtain⟨t1,t2,t3⟩:=bare_top (t:=⟨fldN k a,plcN k (fldE k a) (fldF k a),(widthN (rdN k:Int):Int)*plcP k (fldE k a)⟩) (Nat.ne_of_gt hpn);rw[←hT2] at t1 t2 t3;simp only at t2 t3;have hheld:heldB (rdN k:Int) (dgN k:Int) (lsI k) (gsI k) (decide (k≤3)) x.n x.e=true:=by
  refine sq_held hk f1 f2 f3 (by omega) t3 ?_
  by_cases c3:k≤3
  ·exact .inl c3
  ·refine .inr (Int.not_lt.1 fun c=>o2 ?_)
   have hcut:cutP (rdN k:Int) (dgN k:Int) (lsI k) (decide (k≤3)) (x.n*x.n) 1 (x.e+x.e)=powerR (rdN k:Int) (dgN k:Int) (topQ (x.n*x.n) 1 (x.e+x.e)):=by
    unfold cutP;rw[decide_eq_false c3,Bool.and_false,if_neg (by decide)]
   rw[←topQ_one hy0] at c;refine⟨?_, ?_⟩
   ·show(roundT _ _ _ _ _ _ _ _ _ _).un=true
    rw[r5];exact decide_eq_true c
   ·show(roundT _ _ _ _ _ _ _ _ _ _).p<_
    rw[r4,hcut];exact c
 obtain⟨e1,e2,e3,e4,e5,e6,-⟩:=enc_dec hk (sm _) hE;obtain⟨S,hSe⟩: ∃S,encS (k:Int) 2 false (Dg.dg 4294967296 (plcT k way ⟨false,x.n*x.n,x.e+x.e⟩).d) (plcT k way ⟨false,x.n*x.n,x.e+x.e⟩).p=S:=⟨_,rfl⟩;rw[hSe] at e1 e2 e3 e4 e5 e6 HM;obtain⟨-,e8,e9,e10⟩:=e6 rfl;have hpS:=patC_ok hk e1;have cS:clsN k (fldN k S) (fldE k S) (fldF k S)=2:=by omega
 have dS:decC (k:Int) S=2:=by unfold decC;rw[if_pos hpS,Int.toNat_natCast];exact cS
 have gS:decG (k:Int) S=false:=by unfold decG;rw[if_pos hpS,Int.toNat_natCast];exact e3
 have hodd:bare x=x:=by rw[hT2,bare_bare]
 have oS:opT (k:Int) S=⟨false,x.n*x.n,x.e+x.e⟩:=by
  have h1:opT (k:Int) S=bare ⟨false,plcN k (fldE k S) (fldF k S),(widthN (rdN k:Int):Int)*plcP k (fldE k S)⟩:=by
   have:=refT_num hk e4 e5 cS;rw[wdI_is hk,e8] at this;unfold opT nxT;rw[if_pos hpS,Int.toNat_natCast,e8];exact this
  rw[h1,e10,Dg.vl_dg _ _ (by omega)];refine r2.trans ?_;obtain⟨m,hm⟩:=tz_spec q1;have hz:tz x.n=0:=by
   have h2:(bare x).e=x.e+(tz x.n:Int):=(bare_top q1).2.1;rw[hodd] at h2;omega
  rw[hz,Nat.pow_zero,Nat.one_mul] at hm;have hz2:tz (x.n*x.n)=0:=tz_eq (m:=2*m*m+2*m) (by rw[hm,Nat.pow_zero,Nat.one_mul];simp only[Nat.mul_add,Nat.add_mul,Nat.mul_one,Nat.one_mul,Nat.mul_assoc,Nat.mul_left_comm];omega);unfold bare;simp only;rw[if_neg hy0,hz2];simp
 have HS:=fun w1 (b:Below w.heap.size w w1)=>sqrt_any (k:Int) way S w1 (hT.later b)
 obtain⟨b1,b2⟩:=root_sq x.n x.e;have hrS:recT (k:Int) way [S] (sqrF (k:Int) S)=ansT k way 2 false (rootT ⟨false,x.n*x.n,x.e+x.e⟩ 128) 0:=by
  have hq:sqrF (k:Int) S=(2,false,rootT ⟨false,x.n*x.n,x.e+x.e⟩ 128,0):=by
   unfold sqrF rootV;rw[dS,gS,oS,if_neg (by decide),if_neg (by decide),if_neg (by decide)];unfold numV numC numG numT;rw[if_neg (b2 q1),if_neg (b2 q1),if_neg (b2 q1)];rfl
  have hnS:noNum (k:Int) S=false:=by unfold noNum;rw[dS];rfl
  unfold recT;rw[if_neg hf,if_neg (by simp[errL,hpS]),if_neg hw,if_neg (by simp[hnS]),hq,Int.toNat_natCast]
 have hv:bare ⟨false,decM (k:Int) a,(widthN (rdN k:Int):Int)*decP (k:Int) a⟩=⟨false,x.n,x.e⟩:=by
  have hm0:decM (k:Int) a≠0:=fun c=>by
   have:(bare ⟨decG (k:Int) a,decM (k:Int) a,(widthN (rdN k:Int):Int)*decP (k:Int) a⟩).n=0:=(bareN_nil _).2 c;rw[q3] at this;exact q1 this
  have h1:=q3;unfold bare at h1⊢;simp only at h1⊢;rw[if_neg hm0] at h1⊢;rw[←h1]
 have hm0:decM (k:Int) a≠0:=fun c=>by
  have:(bare ⟨false,decM (k:Int) a,(widthN (rdN k:Int):Int)*decP (k:Int) a⟩).n=0:=(bareN_nil _).2 c;rw[hv] at this;exact q1 this
 have dMa:decM (k:Int) a=valM k (fldN k a) (fldE k a) (fldF k a):=by unfold decM;rw[if_pos hp,Int.toNat_natCast]
 have dPa:decP (k:Int) a=valP k (fldN k a) (fldE k a) (fldF k a):=by unfold decP;rw[if_pos hp,Int.toNat_natCast]
 have hlt:decM (k:Int) a<2^64:=by rw[dMa];exact valM_lt hk _ _ h64
 have hpr:=(valP_in hk s1 s2 hcl).2.2;have hcx:chk (Dg.dg 4294967296 (decM (k:Int) a))=0:=chk_of (Dg.norm_dg _ _ (by omega)) (two_len hlt (by omega));have hl0:(Dg.dg 4294967296 (decM (k:Int) a)).length≠0:=fun c=>hm0 ((Dg.dg_nil_iff 4294967296 _ (by omega)).1 (List.length_eq_zero_iff.1 c))
 have hEn:enE k false (Dg.dg 4294967296 (decM (k:Int) a)) (decP (k:Int) a)=0:=by
  rw[num_held hk hcx hl0 (by omega),Dg.vl_dg _ _ (by omega),hv];have:=held_in (R:=(rdN k:Int)) (D:=(dgN k:Int)) (L:=lsI k) (G:=gsI k) (decide (k≤3)) x lg;rw[hodd,hheld] at this;rw[this,if_pos rfl]
 have hbx:bare (⟨false,x.n,x.e⟩:Trip)=⟨false,x.n,x.e⟩:=by rw[←hv,bare_bare]
 have hans:=held_ans hk way false (rootT ⟨false,x.n*x.n,x.e+x.e⟩ 128) 0 (b2 q1) (by
  have:=held_bare (R:=(rdN k:Int)) (D:=(dgN k:Int)) (L:=lsI k) (G:=gsI k) (decide (k≤3)) (rootT ⟨false,x.n*x.n,x.e+x.e⟩ 128) lg;rw[←this,b1,hbx];exact hheld) (sm (decM (k:Int) a)) (p:=decP (k:Int) a) hcx hEn (by rw[b1,hbx,Dg.vl_dg _ _ (by omega)];exact hv)
 rw[hrS,hans] at HS;obtain⟨g1,g2,g3,g4,g5,g6,-⟩:=enc_dec hk (sm _) (((two_is hk hcx).1).trans hEn);obtain⟨r,hre⟩: ∃r,encS (k:Int) 2 false (Dg.dg 4294967296 (decM (k:Int) a)) (decP (k:Int) a)=r:=⟨_,rfl⟩;rw[show(rootT ⟨false,x.n*x.n,x.e+x.e⟩ 128).s=false from rfl,hre] at HS
 rw[hre] at g1 g2 g3 g4 g5 g6;obtain⟨-,g8,g9,g10⟩:=g6 rfl;have cr:clsN k (fldN k r) (fldE k r) (fldF k r)=2:=by omega
 have hpr2:=patC_ok hk g1;have hsv:=same_value hk (ng:=false) s1 s2 h64 (cls_false hcl) g4 g5 (frN_64 hk g5) (by rw[←g8];exact cr) (by
  rw[g10,Dg.vl_dg _ _ (by omega),hv];have hbv:=back_value hk (ng:=false) s1 s2 h64 (cls_false hcl) (Nat.ne_of_gt hpn);rw[←hbv,←(val_false hcl).1,←(val_false hcl).2,←dMa,←dPa];exact hv)
 have HD:=fun w1 (_:Below w.heap.size w w1)=>decode_any (k:Int) a w1
 have HZ:=fun w1 (_:Below w.heap.size w w1)=>decode_any (k:Int) r w1
 rw[hp,c2] at HD;have z1:decC (k:Int) r=2:=by unfold decC;rw[if_pos hpr2,Int.toNat_natCast];exact cr
 have z2:decG (k:Int) r=false:=by unfold decG;rw[if_pos hpr2,Int.toNat_natCast];exact g3
 have z3:decM (k:Int) r=decM (k:Int) a:=by
  rw[dMa,(val_false hcl).1,hsv.1];unfold decM;rw[if_pos hpr2,Int.toNat_natCast,g8]
 have z4:decP (k:Int) r=decP (k:Int) a:=by
  rw[dPa,(val_false hcl).2,hsv.2];unfold decP;rw[if_pos hpr2,Int.toNat_natCast,g8]
 rw[hpr2,z1,z2,z3,z4] at HZ;rw[c2] at HC;exact sq_num (k:Int) way _ _ _ a S r w HB HM HC HS HD HZ (fun vo vc yo yc w1 _ ha hb=>sameValue_true 2 _ false vo yo _ vc yc w1 ha hb)
end Go.Proofs.YtnhackdjplppjaaGreatDoor
