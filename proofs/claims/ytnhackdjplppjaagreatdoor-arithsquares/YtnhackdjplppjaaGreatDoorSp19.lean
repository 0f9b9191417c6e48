/-
  Texts laid together: Gk2, Dn2, Gk3, Gr8, Gh6, Gh7, Gk6, Gb2, Co4, Cr1, Cr2.
-/
import Derived.Test.YtnhackdjplppjaaGreatDoorSp18
import Derived.Test.YtnhackdjplppjaaGreatDoorSp16
set_option maxRecDepth 100000
namespace Go.Proofs.YtnhackdjplppjaaGreatDoor
open Go.RowKit
theorem topQ_one {n:Nat} (h:n≠0) (E:Int):topQ n 1 E=(bitLen n:Int)-1+E:=by
 obtain⟨b1,b2,b3⟩:=bitLen_hi n h;have t1:=(top_iff n 1 0 (bitLen n-1) h (by omega)).1 (by simpa using b2);have t2: ¬((bitLen n:Nat):Int)≤topQ n 1 0+((0:Nat):Int):=fun c=>by
  have:=(top_iff n 1 0 (bitLen n) h (by omega)).2 c;simp at this;omega
 rw[topQ_zero];omega
theorem one_parts (s:Bool) (n:Nat) (e k:Int) (hk:k≤e+(tz n:Int)):numP n (e-k) % denP 1 (e-k)=0∧bare ⟨s,numP n (e-k)/denP 1 (e-k),k⟩=bare ⟨s,n,e⟩:=by
 by_cases h0:n=0
 ·subst h0
  have e1:numP 0 (e-k)=0:=by rw[numP_pow];simp
  rw[e1];simp[bare]
 ·by_cases hle:k≤e
  ·have e1:denP 1 (e-k)=1:=by rw[denP_pow,show(-(e-k)).toNat=0 by omega]
   rw[e1,numP_pow,Nat.mod_one,Nat.div_one];refine⟨rfl, ?_⟩;refine bare_of_V (K:=(max (-k) 0).toNat) (by simp only;omega) (by simp only;omega) ?_;rw[V_nat,V_nat];simp only;rw[Nat.mul_assoc,←Nat.pow_add,show(e-k).toNat+(k+((max (-k) 0).toNat:Int)).toNat=(e+((max (-k) 0).toNat:Int)).toNat by omega]
  ·obtain⟨m,hm⟩:=tz_spec h0
   obtain⟨q,hq⟩: ∃q,n=q*2^ (k-e).toNat:=by
    refine⟨2^ (tz n-(k-e).toNat)*(2*m+1), ?_⟩;rw[Nat.mul_right_comm,←Nat.pow_add,show tz n-(k-e).toNat+(k-e).toNat=tz n by omega]
    exact hm
   have e1:numP n (e-k)=n:=by rw[numP_pow,show(e-k).toNat=0 by omega,Nat.pow_zero,Nat.mul_one]
   have e2:denP 1 (e-k)=2^ (k-e).toNat:=by rw[denP_pow,Nat.one_mul,show-(e-k)=k-e by omega]
   rw[e1,e2,hq,Nat.mul_mod_left,Nat.mul_div_cancel _ (two_pos _)];refine⟨rfl, ?_⟩;refine bare_of_V (K:=(max (-e) 0).toNat) (by simp only;omega) (by simp only;omega) ?_;rw[V_nat,V_nat];simp only;rw[Nat.mul_assoc,←Nat.pow_add,show(k-e).toNat+(e+((max (-e) 0).toNat:Int)).toNat=(k+((max (-e) 0).toNat:Int)).toNat by omega]
theorem held_round {R D L G:Int} {gr s:Bool} {n:Nat} {e way:Int} (h1:1≤D) (hLG:L≤G) (h0:n≠0) (hh:heldB R D L G gr n e=true):
  (roundT R D L G gr s n 1 e way).ov=false∧((roundT R D L G gr s n 1 e way).un=false∨gr=true)∧bare ⟨(roundT R D L G gr s n 1 e way).s,(roundT R D L G gr s n 1 e way).d,(widthN R:Int)*(roundT R D L G gr s n 1 e way).p⟩=bare ⟨s,n,e⟩:=by
 have hM:(1:Nat)≠0:=by omega
 have hs:L≤spotK R D L gr n e∧spotK R D L gr n e≤G∧(widthN R:Int)*spotK R D L gr n e≤e+(tz n:Int):=by
  unfold heldB at hh
  rcases of_decide_eq_true hh with h|h
  ·exact absurd h h0
  ·exact h
 have hc:cutP R D L gr n 1 e=spotK R D L gr n e:=by
  unfold cutP spotK;rw[topQ_one h0]
 obtain⟨p1,p2⟩:=one_parts s n e ((widthN R:Int)*spotK R D L gr n e) hs.2.2;have hl:leftP R D L gr n 1 e=0:=by
  unfold leftP shP;rw[hc];exact p1
 have hd:digP R D L gr s n 1 e way=wholeP R D L gr n 1 e:=by
  unfold digP;rw[if_neg];rintro⟨c,-⟩;exact of_decide_eq_false c hl
 obtain⟨c1,c2⟩:=dig_short R D L gr n 1 e h1 h0 hM (cutP R D L gr n 1 e);have hw:wholeP R D L gr n 1 e=numP n (e-(widthN R:Int)*spotK R D L gr n e)/denP 1 (e-(widthN R:Int)*spotK R D L gr n e):=by
  unfold wholeP shP;rw[hc]
 rw[roundT_flat gr s n 1 e way h1 hLG h0 hM,hd,c1,c2,hc];refine⟨decide_eq_false (by omega), ?_, ?_⟩
 ·by_cases hg:gr=true
  ·exact .inr hg
  ·refine .inl (decide_eq_false fun c=> ?_)
   have e1:spotK R D L gr n e=powerR R D (topQ n 1 e):=by
    unfold spotK;rw[topQ_one h0,if_neg];intro c2;exact hg (Bool.and_eq_true_iff.1 c2).2
   omega
 ·show bare ⟨s,wholeP R D L gr n 1 e,(widthN R:Int)*(if wholeP R D L gr n 1 e=0 then 0 else spotK R D L gr n e)⟩=_
  by_cases hz:wholeP R D L gr n 1 e=0
  ·rw[←p2,←hw,hz]
   simp[bare]
  ·rw[if_neg hz,hw,p2]
theorem round_spot {R D L G:Int} {gr qs:Bool} {N M:Nat} {E way:Int} (h1:1≤D) (hLG:L≤G) (hN:N≠0) (hM:M≠0) (ho:(roundT R D L G gr qs N M E way).ov=false) (hu:(roundT R D L G gr qs N M E way).un=false∨gr=true):
  ((roundT R D L G gr qs N M E way).d=0∧(roundT R D L G gr qs N M E way).p=0)∨((roundT R D L G gr qs N M E way).d≠0∧L≤(roundT R D L G gr qs N M E way).p∧(roundT R D L G gr qs N M E way).p≤G∧(roundT R D L G gr qs N M E way).d<2^ (widthN R*D.toNat)∧(2^ (widthN R*(D-1).toNat)≤(roundT R D L G gr qs N M E way).d∨(gr=true∧(roundT R D L G gr qs N M E way).p=L))):=by
 rw[roundT_flat gr qs N M E way h1 hLG hN hM] at ho hu⊢;simp only at ho hu⊢;have hov:=of_decide_eq_false ho
 by_cases hz:carD R D (digP R D L gr qs N M E way)=0
 ·exact .inl ⟨hz,if_pos hz⟩
 ·refine .inr ⟨hz, ?_⟩
  rw[if_neg hz];have hwl:=whole_lt R D L gr N M E h1 hN hM;have hge:=dig_ge R D L gr qs N M E way;have hle:digP R D L gr qs N M E way≤wholeP R D L gr N M E+1:=by
   unfold digP
   split<;>omega
  have hpw:2^ (widthN R*(D-1).toNat)<2^ (widthN R*D.toNat):=by
   refine Nat.pow_lt_pow_right (by omega) ?_;exact Nat.mul_lt_mul_of_pos_left (by omega) (by have:=widthN_le R;omega)
  have hcut:L≤cutP R D L gr N M E∧(cutP R D L gr N M E=powerR R D (topQ N M E)∨(gr=true∧cutP R D L gr N M E=L)):=by
   unfold cutP
   by_cases hc:(decide (powerR R D (topQ N M E)<L)&&gr)=true
   ·rw[if_pos hc]
    exact⟨Int.le_refl _,.inr ⟨(Bool.and_eq_true_iff.1 hc).2,rfl⟩⟩
   ·rw[if_neg hc]
    refine⟨?_,.inl rfl⟩
    rcases hu with hu|hu
    ·have:=of_decide_eq_false hu
     omega
    ·rw[hu,Bool.and_true] at hc
     have: ¬powerR R D (topQ N M E)<L:=fun c=>hc (decide_eq_true c)
     omega
  unfold carD carP at*
  by_cases hq:digP R D L gr qs N M E way=2^ (widthN R*D.toNat)
  ·rw[if_pos hq] at hov⊢
   rw[if_pos hq];exact⟨by omega,by omega,hpw,.inl (Nat.le_refl _)⟩
  ·rw[if_neg hq] at hov⊢
   rw[if_neg hq];refine⟨hcut.1,by omega,by omega, ?_⟩
   rcases hcut.2 with h|h
   ·refine .inl (Nat.le_trans ?_ hge)
    have:=mt (seek_iff R D (powerR R D (topQ N M E)) N M E h1 hN hM).1 (Int.lt_irrefl _);rw[lt_bits] at this;unfold wholeP shP;rw[h];omega
   ·exact .inr h
end Go.Proofs.YtnhackdjplppjaaGreatDoor
namespace Go.Proofs.YtnhackdjplppjaaGreatDoor
open Go.RowKit
theorem short_of {t:Trip} (h1:(Dg.dg 4294967296 (bare t).n).length≤1200) (h2: -20000≤(bare t).e) (h3:(bare t).e≤20000):shortT t=(bare t,0):=by
 unfold shortT;rw[if_neg (by omega),if_neg (by omega)]
theorem bare_e_ge {t:Trip} (h:t.n≠0):t.e≤(bare t).e∧(bare t).e=t.e+tz t.n:=by
 unfold bare;rw[if_neg h];exact⟨by show t.e≤t.e+(tz t.n:Int);omega,rfl⟩
end Go.Proofs.YtnhackdjplppjaaGreatDoor
namespace Go.Proofs.YtnhackdjplppjaaGreatDoor
open Go.RowKit
def rndBad (xs ys:List Nat) (E R D L G:Int) (gr qs:Bool) (way:Int):Bool:=
 !decide (roundC xs ys E R D L G way=0)||(roundP xs ys E R D L G gr qs way).ov||((roundP xs ys E R D L G gr qs way).un&& !gr)
def rndT (xs ys:List Nat) (E R D L G:Int) (gr qs:Bool) (way:Int):Trip:=
 if rndBad xs ys E R D L G gr qs way=true then⟨false,0,0⟩ else bare ⟨(roundP xs ys E R D L G gr qs way).s,(roundP xs ys E R D L G gr qs way).d,(widthN R:Int)*(roundP xs ys E R D L G gr qs way).p⟩
theorem rnd_parts {xs ys:List Nat} {E R D L G:Int} {gr qs:Bool} {way:Int} (h:rndBad xs ys E R D L G gr qs way=false):roundC xs ys E R D L G way=0∧(roundP xs ys E R D L G gr qs way).ov=false∧((roundP xs ys E R D L G gr qs way).un=false∨gr=true):=by
 unfold rndBad at h;simp only[Bool.or_eq_false_iff,Bool.and_eq_false_iff,Bool.not_eq_false',decide_eq_true_iff] at h;exact⟨h.1.1,h.1.2,h.2⟩
theorem roundC_all {xs ys:List Nat} {E R D L G way:Int} (h:roundC xs ys E R D L G way=0):ratioC xs ys E=0∧gridC R D L G=0∧isWay way=true:=by
 unfold roundC at h
 by_cases h1:wrongG (ratioC xs ys E) (gridC R D L G)=0
 ·rw[if_pos h1] at h
  obtain⟨a,b⟩:=wrongG_zero h1;refine⟨a,b, ?_⟩
  by_cases h3:isWay way=true
  ·exact h3
  ·rw[if_neg h3] at h
   cases h
 ·rw[if_neg h1] at h
  exact absurd h h1
theorem gvl_ne {xs:List Nat} (sa:Dg.Small 4294967296 xs) (h:chk xs=0) (hl: ¬xs.length=0):Dg.vl 4294967296 xs≠0:=fun c=>by
 have ex:Dg.dg 4294967296 (Dg.vl 4294967296 xs)=xs:=Dg.dg_vl _ (by omega) _ sa (chk_zero h).1;rw[c] at ex;rw[←ex] at hl;exact hl rfl
def InSpot (R D L G:Int) (gr:Bool) (d:Nat) (p:Int):Prop:=
 (d=0∧p=0)∨(d≠0∧L≤p∧p≤G∧d<2^ (widthN R*D.toNat)∧(2^ (widthN R*(D-1).toNat)≤d∨(gr=true∧p=L)))
theorem two_len {d k L:Nat} (h:d<2^k) (hk:k≤32*L):(Dg.dg 4294967296 d).length≤L:=by
 refine Dg.dg_len_le 4294967296 _ _ (by omega) (Nat.lt_of_lt_of_le h ?_);rw[show(4294967296:Nat)=2^32 from by decide,←Nat.pow_mul]
 exact Nat.pow_le_pow_right (by omega) hk
theorem spot_fits {R D L G:Int} {gr:Bool} {d:Nat} {p:Int} (hg:gridC R D L G=0) (h:InSpot R D L G gr d p):
  (Dg.dg 4294967296 d).length≤15∧ -17000≤p∧p≤17000∧ -17000≤(widthN R:Int)*p∧(widthN R:Int)*p≤17000∧tz d≤480:=by
 obtain⟨hR,d1,d2,l1,l2,g1,g2,lg,l16⟩:=gridC_zero hg
 rcases h with⟨rfl,rfl⟩| ⟨h0,h1,h2,h3,-⟩
 ·refine⟨Nat.zero_le _,by omega,by omega,by simp,by simp, ?_⟩
  exact Nat.le_trans (tz_fits 0 0 (Nat.le_refl _)) (by omega)
 ·have hw:=Nat.mul_le_mul (widthN_le R).2 (show D.toNat≤120 by omega)
  have hl:(Dg.dg 4294967296 d).length≤15:=two_len h3 (by omega);have:=tz_fits d 15 hl;refine⟨hl,by omega,by omega, ?_, ?_,by omega⟩<;>(unfold widthN;split<;>simp<;>omega)
theorem spot_short {R D L G:Int} {gr s:Bool} {d:Nat} {p:Int} (hg:gridC R D L G=0) (h:InSpot R D L G gr d p):
  dbothR (placeC (Dg.dg 4294967296 d) p R D L G) ⟨s,Dg.vl 4294967296 (Dg.dg 4294967296 d),(widthN R:Int)*p⟩=(bare ⟨s,d,(widthN R:Int)*p⟩,0):=by
 obtain⟨l,p1,p2,w1,w2,tzl⟩:=spot_fits hg h;have hp:placeC (Dg.dg 4294967296 d) p R D L G=0:=placeC_fine ((dchk_zero (dchk_of (n:=d) (e:=0) (by omega) (by omega) (by omega))).1) hg (by unfold farB;simp;omega);rw[hp,Dg.vl_dg _ _ (by omega)]
 show shortT _=_
 refine short_of ?_ ?_ ?_
 ·exact Nat.le_trans (dg_len_mono _ _ d (by omega) (bare_n_le _)) (by omega)
 ·by_cases h0:d=0
  ·simp[bare,h0]
  ·have:=(bare_e_ge (t:=⟨s,d,(widthN R:Int)*p⟩) h0).2
   simp only at this;omega
 ·by_cases h0:d=0
  ·simp[bare,h0]
  ·have:=(bare_e_ge (t:=⟨s,d,(widthN R:Int)*p⟩) h0).2
   simp only at this;omega
end Go.Proofs.YtnhackdjplppjaaGreatDoor
namespace Go.Proofs.YtnhackdjplppjaaGreatDoor
open Go.RowKit
theorem gbegun_code:roundC [9] [1] 0 2 3 (-5) 5 1=0:=by kernel_rfl
theorem gbegun_place:roundP [9] [1] 0 2 3 (-5) 5 true false 1=⟨false,4,1,false,false,false⟩:=by kernel_rfl
theorem gbegun_four:Dg.dg 4294967296 4=[4]:=by kernel_rfl
theorem gbegun_res {w:World} {e:Ending} {w':World} (h:PlaceAns w 0 ⟨false,4,1,false,false,false⟩ e w'): ∃o k,e= .returned (.tuple #[ypV false (.slice o 1 k) 1 false false false,yi 0])∧Own w' w.heap.size 141 .u32 (.slice o 1 k) [4]∧Below w.heap.size w w':=by
 obtain⟨v,h1,h2,h3⟩:=h;have h4:Own w' w.heap.size 141 .u32 v [4]:=gbegun_four▸h2;obtain⟨o,k,hv⟩:=h4.rd.shape;exact⟨o,k,hv▸h1,hv▸h4,h3⟩
set_option maxHeartbeats 1600000 in
theorem gbegun_any (w:World):Calls Tryz.prog 48 #[] w fun z w'=>z= .returned (.bool true)∧Below w.heap.size w w':=by
 have lg:=locE_new w (ygL 2 3 (-5) 5 true) 56;have bg:=below_alloc w (.cells (ygL 2 3 (-5) 5 true).toArray 56)
 go_enter Tryz.func48,Tryz.ntmps48
 go_upto_region 2 with fail
 change LocE (w.alloc (.cells (ygL 2 3 (-5) 5 true).toArray 56)) w.heap.size 56 (ygL 2 3 (-5) 5 true) at lg;generalize(w.alloc (.cells (ygL 2 3 (-5) 5 true).toArray 56))=W1 at lg bg⊢;have a1:=below_alloc W1 (.cells #[.int .u32 9] 141);have a2:=below_alloc (W1.alloc (.cells #[.int .u32 9] 141)) (.cells #[.int .u32 1] 141);have r1:=(rd_new (w:=W1) (k:= .u32) (e:=141) [9] #[.int .u32 9] rfl (by unfold maxLen;simp)).later a2;have r2:=rd_new (w:=W1.alloc (.cells #[.int .u32 9] 141)) (k:= .u32) (e:=141) [1] #[.int .u32 1] rfl (by unfold maxLen;simp);have hm:=gRound_any false _ _ [9] _ _ [1] 0 2 3 (-5) 5 true 1 _ r1 r2 (Dg.small_cons.2 ⟨by omega,Dg.small_nil _ (by omega)⟩) (Dg.small_cons.2 ⟨by omega,Dg.small_nil _ (by omega)⟩);rw[gbegun_code,gbegun_place] at hm;simp only[World.size_alloc,show[9].length=1 from rfl,show[1].length=1 from rfl] at hm
 have g2:=(lg.later a1).later a2;have b2:=below_trans (below_trans bg a1) a2;clear lg bg a1 a2 r1 r2;obtain⟨x0,x1,x2,x3,x4⟩:=g2.cs5
 go_wp2_with fail
 refine hm.mono ?_;intro z w2 hz;obtain⟨vo,vk,rfl,ov,b⟩:=gbegun_res hz;clear hz;have b3:=below_trans b2 b;clear hm b b2 g2 x0 x1 x2 x3 x4;have lp:=locE_new w2 (ypL false (.slice vo 1 vk) 1 false false false) 86;have ap:=below_alloc w2 (.cells (ypL false (.slice vo 1 vk) 1 false false false).toArray 86);have bp:=below_trans b3 ap;have op:=ov.later ap
 go_upto_region 3 with fail
 clear ap ov b3;change LocE (w2.alloc (.cells (ypL false (.slice vo 1 vk) 1 false false false).toArray 86)) w2.heap.size 86 (ypL false (.slice vo 1 vk) 1 false false false) at lp;generalize(w2.alloc (.cells (ypL false (.slice vo 1 vk) 1 false false false).toArray 86))=W3 at lp bp op⊢;generalize w2.heap.size=PB at lp⊢;have a4:=below_alloc W3 (.cells #[.int .u32 4] 141);have r4:=rd_new (w:=W3) (k:= .u32) (e:=141) [4] #[.int .u32 4] rfl (by unfold maxLen;simp);have hs:=same_any _ _ _ _ _ (op.rd.later a4) r4;have b5:=below_trans bp a4;have p5:=lp.later a4;rw[show decide ([4]=[4])=true from rfl] at hs
 simp only[show[4].length=1 from rfl] at hs
 have x1:=lp.cell 1 rfl;have x2:=lp.cell 2 rfl;have x3:=lp.cell 3 rfl
 go_wp2_with fail
 refine hs.mono ?_;rintro z w5 ⟨rfl,b⟩;have b6:=below_trans b5 b;have p6:=p5.later b;clear hs b b5 p5 x1 x2 x3;have x2:=p6.cell 2 rfl;have x3:=p6.cell 3 rfl
 go_wp2
 go_ret
 exact⟨rfl,b6⟩
end Go.Proofs.YtnhackdjplppjaaGreatDoor
namespace Go.Proofs.YtnhackdjplppjaaGreatDoor
open Go.RowKit
set_option maxHeartbeats 1600000 in
theorem gHoldsW (R D L G:Int) (gr s:Bool) (ao:Option Addr) (la ca:Nat) (e c:Int) (hd:Bool) (rd:Nat) (rk:Int) (w:World)
  (HF: ∀w1,Below w.heap.size w w1→Calls Tryz.prog 106 #[ydV s (.slice ao la ca) e,ygV R D L G gr] w1 (FindAns w1 hd rd rk c)):
  Calls Tryz.prog 52 #[ydV s (.slice ao la ca) e,ygV R D L G gr] w fun z w'=>z= .returned (.tuple #[.bool hd,yi c])∧Below w.heap.size w w':=by
 replace HF:Hid _:=HF;have b1:=below_trans (below_alloc w (.cells (ydL s (.slice ao la ca) e).toArray 82)) (below_alloc _ (.cells (ygL R D L G gr).toArray 56));have q1:=(locE_new w (ydL s (.slice ao la ca) e) 82).later (below_alloc _ (.cells (ygL R D L G gr).toArray 56));have g1:=locE_new (w.alloc (.cells (ydL s (.slice ao la ca) e).toArray 82)) (ygL R D L G gr) 56;simp only[World.size_alloc] at g1;obtain⟨x0,x1,x2,x3,x4⟩:=g1.cs5;obtain⟨y0,y1,y2⟩:=q1.cs3
 go_enter Tryz.func52,Tryz.ntmps52
 go_wp2_with fail
 refine(HF.out _ b1).mono ?_;rintro z w2 ⟨u,rfl,ou,bb2⟩;obtain⟨so,sc,hu⟩:=ou.rd.shape;subst hu;clear ou x0 x1 x2 x3 x4 y0 y1 y2;have b2:=below_trans b1 bb2;have b3:=below_trans b2 (below_alloc w2 (.cells #[.slice so (Dg.dg 4294967296 rd).length sc,yi rk] 163))
 go_wp2
 go_ret2
 exact⟨rfl,b3⟩
end Go.Proofs.YtnhackdjplppjaaGreatDoor
namespace Go.Proofs.YtnhackdjplppjaaGreatDoor
open Go.RowKit
theorem gHolds_any (R D L G:Int) (gr s:Bool) (ao:Option Addr) (ca:Nat) (xs:List Nat) (e:Int) (w:World) (hr:Rd w .u32 (.slice ao xs.length ca) xs) (sa:Dg.Small 4294967296 xs) (hT:Tab w):
  Calls Tryz.prog 52 #[ydV s (.slice ao xs.length ca) e,ygV R D L G gr] w fun z w'=>z= .returned (.tuple #[.bool (ansH xs e R D L G gr),yi (onC (dchk xs e) (gridC R D L G))])∧Below w.heap.size w w':=
 gHoldsW R D L G gr s ao _ ca e _ _ _ _ w (fun w1 b=>gfind_any R D L G gr s ao ca xs e w1 (hr.later b) sa (hT.later b))
end Go.Proofs.YtnhackdjplppjaaGreatDoor
namespace Go.Proofs.YtnhackdjplppjaaGreatDoor
open Go.RowKit
theorem held_bare {R D L G:Int} (gr:Bool) (t:Trip) (hLG:L≤G):heldB R D L G gr (bare t).n (bare t).e=heldB R D L G gr t.n t.e:=by
 rw[←held_in gr t hLG,←held_in gr (bare t) hLG,bare_bare]
theorem spot_held {R D L G:Int} {gr s:Bool} {d:Nat} {p:Int} (hg:gridC R D L G=0) (h:InSpot R D L G gr d p):heldB R D L G gr (bare ⟨s,d,(widthN R:Int)*p⟩).n (bare ⟨s,d,(widthN R:Int)*p⟩).e=true:=by
 obtain⟨-,d1,-,-,-,-,-,lg,-⟩:=gridC_zero hg;rw[held_bare gr _ lg]
 rcases h with⟨rfl,rfl⟩| ⟨h0,h1,h2,h3,h4⟩
 ·exact held_zero R D L G gr _
 ·rw[held_spot d1 h3 h1 h4 h0]
  exact decide_eq_true h2
theorem spot_dchk {R D L G:Int} {gr s:Bool} {d:Nat} {p:Int} (hg:gridC R D L G=0) (h:InSpot R D L G gr d p):dchk (Dg.dg 4294967296 (bare ⟨s,d,(widthN R:Int)*p⟩).n) (bare ⟨s,d,(widthN R:Int)*p⟩).e=0:=by
 obtain⟨l,p1,p2,w1,w2,tzl⟩:=spot_fits hg h;refine dchk_of ?_ ?_ ?_
 ·exact Nat.le_trans (dg_len_mono _ _ d (by omega) (bare_n_le _)) (by omega)
 ·by_cases h0:d=0
  ·simp[bare,h0]
  ·have:=(bare_e_ge (t:=⟨s,d,(widthN R:Int)*p⟩) h0).2
   simp only at this;omega
 ·by_cases h0:d=0
  ·simp[bare,h0]
  ·have:=(bare_e_ge (t:=⟨s,d,(widthN R:Int)*p⟩) h0).2
   simp only at this;omega
end Go.Proofs.YtnhackdjplppjaaGreatDoor
namespace Go.Proofs.YtnhackdjplppjaaGreatDoor
open Go.RowKit
theorem car_bare (R D:Int) (s:Bool) (d:Nat) (p:Int) (h1:1≤D):bare ⟨s,carD R D d,(widthN R:Int)*carP R D d p⟩=bare ⟨s,d,(widthN R:Int)*p⟩:=by
 unfold carD carP
 by_cases h:d=2^ (widthN R*D.toNat)
 ·rw[if_pos h,if_pos h]
  have hc:=Int.natCast_mul (widthN R) D.toNat;have hc1:=Int.natCast_mul (widthN R) (D-1).toNat;rw[Int.toNat_of_nonneg (by omega)] at hc hc1;have e1:(widthN R:Int)*(p+1)+((widthN R*(D-1).toNat:Nat):Int)=(widthN R:Int)*p+((widthN R*D.toNat:Nat):Int):=by
   rw[hc,hc1,Int.mul_add,Int.mul_sub];omega
  refine bare_of_V (K:=(max (-((widthN R:Int)*p)) (max (-((widthN R:Int)*(p+1))) 0)).toNat) (by simp only;omega) (by simp only;omega) ?_;rw[V_nat,V_nat];simp only;rw[h,←Nat.pow_add,←Nat.pow_add]
  congr 2
  omega
 ·rw[if_neg h,if_neg h]
theorem bare_nil (s:Bool) (e f:Int):bare ⟨s,0,e⟩=bare ⟨s,0,f⟩:=by simp[bare]
theorem rnd_is {xs ys:List Nat} {E R D L G:Int} {gr qs:Bool} {way:Int} (hC:roundC xs ys E R D L G way=0) (sa:Dg.Small 4294967296 xs) (sb:Dg.Small 4294967296 ys) (hl: ¬xs.length=0):
  (rndBad xs ys E R D L G gr qs way=false↔ ¬G<carP R D (digP R D L gr qs (Dg.vl 4294967296 xs) (Dg.vl 4294967296 ys) E way) (cutP R D L gr (Dg.vl 4294967296 xs) (Dg.vl 4294967296 ys) E)∧(¬powerR R D (topQ (Dg.vl 4294967296 xs) (Dg.vl 4294967296 ys) E)<L∨gr=true))∧
  (rndBad xs ys E R D L G gr qs way=false→rndT xs ys E R D L G gr qs way=bare ⟨qs,digP R D L gr qs (Dg.vl 4294967296 xs) (Dg.vl 4294967296 ys) E way,(widthN R:Int)*cutP R D L gr (Dg.vl 4294967296 xs) (Dg.vl 4294967296 ys) E⟩)∧
  (roundP xs ys E R D L G gr qs way).ex=decide (leftP R D L gr (Dg.vl 4294967296 xs) (Dg.vl 4294967296 ys) E=0):=by
 obtain⟨c1,c2,c3⟩:=roundC_all hC;obtain⟨-,d1,-,-,-,-,-,lg,-⟩:=gridC_zero c2;obtain⟨a1,a2,hm,-,-⟩:=ratioC_zero c1;have hN:=gvl_ne sa a1 hl;have hM:=gvl_ne sb a2 (by omega);have hP:roundP xs ys E R D L G gr qs way=roundT R D L G gr qs (Dg.vl 4294967296 xs) (Dg.vl 4294967296 ys) E way:=(if_pos hC).trans (if_neg hl);rw[roundT_flat gr qs _ _ E way d1 lg hN hM] at hP;obtain⟨N,hNN⟩: ∃N,Dg.vl 4294967296 xs=N:=⟨_,rfl⟩;obtain⟨M,hMM⟩: ∃M,Dg.vl 4294967296 ys=M:=⟨_,rfl⟩;rw[hNN,hMM] at hP⊢;refine⟨?_, ?_,by rw[hP]⟩
 ·unfold rndBad
  rw[hP,hC]
  by_cases h1:G<carP R D (digP R D L gr qs N M E way) (cutP R D L gr N M E)
  ·simp[h1]
  ·by_cases h2:powerR R D (topQ N M E)<L
   ·cases gr<;>simp[h1,h2]
   ·simp[h1,h2]
 ·intro hb
  unfold rndT;rw[if_neg (by rw[hb];decide),hP];simp only
  by_cases hz:carD R D (digP R D L gr qs N M E way)=0
  ·rw[if_pos hz,←car_bare R D qs (digP R D L gr qs N M E way) _ d1,hz]
   exact bare_nil _ _ _
  ·rw[if_neg hz]
   exact car_bare R D qs _ _ d1
theorem dig_two (R D L:Int) (gr qs:Bool) (N M:Nat) (E way:Int):digP R D L gr qs N M E way=wholeP R D L gr N M E∨digP R D L gr qs N M E way=wholeP R D L gr N M E+1:=by
 unfold digP
 split
 ·exact .inr rfl
 ·exact .inl rfl
end Go.Proofs.YtnhackdjplppjaaGreatDoor
namespace Go.Proofs.YtnhackdjplppjaaGreatDoor
open Go.RowKit
set_option maxHeartbeats 1600000 in
theorem cgrid_none (n:Int) (w:World) (h:famC n=0):Calls Tryz.prog 50 #[yi n] w fun z w'=>z= .returned (.tuple #[ygV 0 0 0 0 false,yi 6])∧Below w.heap.size w w':=by
 have HL:Hid (∀w1,Calls Tryz.prog 97 #[yi n] w1 fun z w'=>z= .returned (.tuple #[yzV 0 0 0 0 false 0 0 0,yi 6])∧Below w1.heap.size w1 w'):=fun w1=>layoutOf_none n w1 h
 have hsf:=hsf_z;have hsn:=hsn_z;have l0:=locE_new w (ygL 0 0 0 0 false) 56;have b0:=below_alloc w (.cells (ygL 0 0 0 0 false).toArray 56)
 go_enter Tryz.func50,Tryz.ntmps50
 go_wp2_with fail
 refine(HL.out _).mono ?_;rintro z w2 ⟨rfl,b2⟩;have l3:=(l0.later b2).later (below_alloc w2 (.cells (yzL 0 0 0 0 false 0 0 0).toArray 144));have cR:LocE ((((((w2.alloc (.cells (yzL 0 0 0 0 false 0 0 0).toArray 144)).setCell ⟨w.heap.size,0,none⟩ (yi 0)).setCell ⟨w.heap.size,1,none⟩ (yi 0)).setCell ⟨w.heap.size,2,none⟩ (yi 0)).setCell ⟨w.heap.size,3,none⟩ (yi 0)).setCell ⟨w.heap.size,4,none⟩ (.bool false)) w.heap.size 56 (ygL 0 0 0 0 false):=(((((l3.set 0 (yi 0)).set 1 (yi 0)).set 2 (yi 0)).set 3 (yi 0)).set 4 (.bool false));have bR:=(((((but_set (w2.alloc (.cells (yzL 0 0 0 0 false 0 0 0).toArray 144)) w.heap.size 0 (yi 0)).trans (but_set _ w.heap.size 1 (yi 0))).trans (but_set _ w.heap.size 2 (yi 0))).trans (but_set _ w.heap.size 3 (yi 0))).trans (but_set _ w.heap.size 4 (.bool false))).below (below_trans (below_trans b0 b2) (below_alloc w2 (.cells (yzL 0 0 0 0 false 0 0 0).toArray 144))) (Nat.le_refl _);have hl:=run_loadVar_mid (P:=Tryz.prog) _ w.heap.size 0 56 (ygL 0 0 0 0 false) _ cR.range Tryz.underlying56 rfl (by kernel_rfl);have HH:Hid (_∧_):=⟨hl,bR⟩;have x0:=l3.cell 0 rfl;have f0:=l3.free 0;have x1:=l3.cell 1 rfl;have f1:=l3.free 1;have x2:=l3.cell 2 rfl;have f2:=l3.free 2;have x3:=l3.cell 3 rfl;have f3:=l3.free 3;have x4:=l3.cell 4 rfl;have f4:=l3.free 4;have hne:w2.heap.size≠w.heap.size:=Nat.ne_of_gt (l0.later b2).lt;clear hl bR cR l0 l3 b0 b2 HL
 go_wp2
 obtain⟨hl,bR⟩:=HH.out;exact bodyPost_ret (results_two Tryz.results50 rfl rfl hl) rfl ⟨rfl,bR⟩
set_option maxHeartbeats 1600000 in
theorem cgrid_1 (w:World):Calls Tryz.prog 50 #[yi 1] w fun z w'=>z= .returned (.tuple #[ygV 2 24 (-149) 104 true,yi 0])∧Below w.heap.size w w':=by
 have HL:Hid (∀w1,Calls Tryz.prog 97 #[yi 1] w1 fun z w'=>z= .returned (.tuple #[.agg #[yi 2,yi 24,yi (-149),yi 104,.bool true,yi 4,yi 8,yi 1,.func (.func 200) #[] #[]],yi 0])∧Below w1.heap.size w1 w'):=fun w1=>layoutOf_1 w1
 have hsf:=hsf_z;have hsn:=hsn_z;have l0:=locE_new w (ygL 0 0 0 0 false) 56;have b0:=below_alloc w (.cells (ygL 0 0 0 0 false).toArray 56)
 go_enter Tryz.func50,Tryz.ntmps50
 go_wp2_with fail
 refine(HL.out _).mono ?_;rintro z w2 ⟨rfl,b2⟩;have l3:=(l0.later b2).later (below_alloc w2 (.cells #[yi 2,yi 24,yi (-149),yi 104,.bool true,yi 4,yi 8,yi 1,.func (.func 200) #[] #[]] 144));have cR:LocE ((((((w2.alloc (.cells #[yi 2,yi 24,yi (-149),yi 104,.bool true,yi 4,yi 8,yi 1,.func (.func 200) #[] #[]] 144)).setCell ⟨w.heap.size,0,none⟩ (yi 2)).setCell ⟨w.heap.size,1,none⟩ (yi 24)).setCell ⟨w.heap.size,2,none⟩ (yi (-149))).setCell ⟨w.heap.size,3,none⟩ (yi 104)).setCell ⟨w.heap.size,4,none⟩ (.bool true)) w.heap.size 56 (ygL 2 24 (-149) 104 true):=(((((l3.set 0 (yi 2)).set 1 (yi 24)).set 2 (yi (-149))).set 3 (yi 104)).set 4 (.bool true));have bR:=(((((but_set (w2.alloc (.cells #[yi 2,yi 24,yi (-149),yi 104,.bool true,yi 4,yi 8,yi 1,.func (.func 200) #[] #[]] 144)) w.heap.size 0 (yi 2)).trans (but_set _ w.heap.size 1 (yi 24))).trans (but_set _ w.heap.size 2 (yi (-149)))).trans (but_set _ w.heap.size 3 (yi 104))).trans (but_set _ w.heap.size 4 (.bool true))).below (below_trans (below_trans b0 b2) (below_alloc w2 (.cells #[yi 2,yi 24,yi (-149),yi 104,.bool true,yi 4,yi 8,yi 1,.func (.func 200) #[] #[]] 144))) (Nat.le_refl _);have hl:=run_loadVar_mid (P:=Tryz.prog) _ w.heap.size 0 56 (ygL 2 24 (-149) 104 true) _ cR.range Tryz.underlying56 rfl (by kernel_rfl);have HH:Hid (_∧_):=⟨hl,bR⟩;have x0:=l3.cell 0 rfl;have f0:=l3.free 0;have x1:=l3.cell 1 rfl;have f1:=l3.free 1;have x2:=l3.cell 2 rfl;have f2:=l3.free 2;have x3:=l3.cell 3 rfl;have f3:=l3.free 3;have x4:=l3.cell 4 rfl;have f4:=l3.free 4;have hne:w2.heap.size≠w.heap.size:=Nat.ne_of_gt (l0.later b2).lt;clear hl bR cR l0 l3 b0 b2 HL
 go_wp2
 obtain⟨hl,bR⟩:=HH.out;exact bodyPost_ret (results_two Tryz.results50 rfl rfl hl) rfl ⟨rfl,bR⟩
set_option maxHeartbeats 1600000 in
theorem cgrid_2 (w:World):Calls Tryz.prog 50 #[yi 2] w fun z w'=>z= .returned (.tuple #[ygV 2 53 (-1074) 971 true,yi 0])∧Below w.heap.size w w':=by
 have HL:Hid (∀w1,Calls Tryz.prog 97 #[yi 2] w1 fun z w'=>z= .returned (.tuple #[.agg #[yi 2,yi 53,yi (-1074),yi 971,.bool true,yi 8,yi 11,yi 1,.func (.func 200) #[] #[]],yi 0])∧Below w1.heap.size w1 w'):=fun w1=>layoutOf_2 w1
 have hsf:=hsf_z;have hsn:=hsn_z;have l0:=locE_new w (ygL 0 0 0 0 false) 56;have b0:=below_alloc w (.cells (ygL 0 0 0 0 false).toArray 56)
 go_enter Tryz.func50,Tryz.ntmps50
 go_wp2_with fail
 refine(HL.out _).mono ?_;rintro z w2 ⟨rfl,b2⟩;have l3:=(l0.later b2).later (below_alloc w2 (.cells #[yi 2,yi 53,yi (-1074),yi 971,.bool true,yi 8,yi 11,yi 1,.func (.func 200) #[] #[]] 144));have cR:LocE ((((((w2.alloc (.cells #[yi 2,yi 53,yi (-1074),yi 971,.bool true,yi 8,yi 11,yi 1,.func (.func 200) #[] #[]] 144)).setCell ⟨w.heap.size,0,none⟩ (yi 2)).setCell ⟨w.heap.size,1,none⟩ (yi 53)).setCell ⟨w.heap.size,2,none⟩ (yi (-1074))).setCell ⟨w.heap.size,3,none⟩ (yi 971)).setCell ⟨w.heap.size,4,none⟩ (.bool true)) w.heap.size 56 (ygL 2 53 (-1074) 971 true):=(((((l3.set 0 (yi 2)).set 1 (yi 53)).set 2 (yi (-1074))).set 3 (yi 971)).set 4 (.bool true));have bR:=(((((but_set (w2.alloc (.cells #[yi 2,yi 53,yi (-1074),yi 971,.bool true,yi 8,yi 11,yi 1,.func (.func 200) #[] #[]] 144)) w.heap.size 0 (yi 2)).trans (but_set _ w.heap.size 1 (yi 53))).trans (but_set _ w.heap.size 2 (yi (-1074)))).trans (but_set _ w.heap.size 3 (yi 971))).trans (but_set _ w.heap.size 4 (.bool true))).below (below_trans (below_trans b0 b2) (below_alloc w2 (.cells #[yi 2,yi 53,yi (-1074),yi 971,.bool true,yi 8,yi 11,yi 1,.func (.func 200) #[] #[]] 144))) (Nat.le_refl _);have hl:=run_loadVar_mid (P:=Tryz.prog) _ w.heap.size 0 56 (ygL 2 53 (-1074) 971 true) _ cR.range Tryz.underlying56 rfl (by kernel_rfl);have HH:Hid (_∧_):=⟨hl,bR⟩;have x0:=l3.cell 0 rfl;have f0:=l3.free 0;have x1:=l3.cell 1 rfl;have f1:=l3.free 1;have x2:=l3.cell 2 rfl;have f2:=l3.free 2;have x3:=l3.cell 3 rfl;have f3:=l3.free 3;have x4:=l3.cell 4 rfl;have f4:=l3.free 4;have hne:w2.heap.size≠w.heap.size:=Nat.ne_of_gt (l0.later b2).lt;clear hl bR cR l0 l3 b0 b2 HL
 go_wp2
 obtain⟨hl,bR⟩:=HH.out;exact bodyPost_ret (results_two Tryz.results50 rfl rfl hl) rfl ⟨rfl,bR⟩
set_option maxHeartbeats 1600000 in
theorem cgrid_3 (w:World):Calls Tryz.prog 50 #[yi 3] w fun z w'=>z= .returned (.tuple #[ygV 2 64 (-16445) 16320 true,yi 0])∧Below w.heap.size w w':=by
 have HL:Hid (∀w1,Calls Tryz.prog 97 #[yi 3] w1 fun z w'=>z= .returned (.tuple #[.agg #[yi 2,yi 64,yi (-16445),yi 16320,.bool true,yi 10,yi 15,yi 1,.func (.func 201) #[] #[]],yi 0])∧Below w1.heap.size w1 w'):=fun w1=>layoutOf_3 w1
 have hsf:=hsf_z;have hsn:=hsn_z;have l0:=locE_new w (ygL 0 0 0 0 false) 56;have b0:=below_alloc w (.cells (ygL 0 0 0 0 false).toArray 56)
 go_enter Tryz.func50,Tryz.ntmps50
 go_wp2_with fail
 refine(HL.out _).mono ?_;rintro z w2 ⟨rfl,b2⟩;have l3:=(l0.later b2).later (below_alloc w2 (.cells #[yi 2,yi 64,yi (-16445),yi 16320,.bool true,yi 10,yi 15,yi 1,.func (.func 201) #[] #[]] 144));have cR:LocE ((((((w2.alloc (.cells #[yi 2,yi 64,yi (-16445),yi 16320,.bool true,yi 10,yi 15,yi 1,.func (.func 201) #[] #[]] 144)).setCell ⟨w.heap.size,0,none⟩ (yi 2)).setCell ⟨w.heap.size,1,none⟩ (yi 64)).setCell ⟨w.heap.size,2,none⟩ (yi (-16445))).setCell ⟨w.heap.size,3,none⟩ (yi 16320)).setCell ⟨w.heap.size,4,none⟩ (.bool true)) w.heap.size 56 (ygL 2 64 (-16445) 16320 true):=(((((l3.set 0 (yi 2)).set 1 (yi 64)).set 2 (yi (-16445))).set 3 (yi 16320)).set 4 (.bool true));have bR:=(((((but_set (w2.alloc (.cells #[yi 2,yi 64,yi (-16445),yi 16320,.bool true,yi 10,yi 15,yi 1,.func (.func 201) #[] #[]] 144)) w.heap.size 0 (yi 2)).trans (but_set _ w.heap.size 1 (yi 64))).trans (but_set _ w.heap.size 2 (yi (-16445)))).trans (but_set _ w.heap.size 3 (yi 16320))).trans (but_set _ w.heap.size 4 (.bool true))).below (below_trans (below_trans b0 b2) (below_alloc w2 (.cells #[yi 2,yi 64,yi (-16445),yi 16320,.bool true,yi 10,yi 15,yi 1,.func (.func 201) #[] #[]] 144))) (Nat.le_refl _);have hl:=run_loadVar_mid (P:=Tryz.prog) _ w.heap.size 0 56 (ygL 2 64 (-16445) 16320 true) _ cR.range Tryz.underlying56 rfl (by kernel_rfl);have HH:Hid (_∧_):=⟨hl,bR⟩;have x0:=l3.cell 0 rfl;have f0:=l3.free 0;have x1:=l3.cell 1 rfl;have f1:=l3.free 1;have x2:=l3.cell 2 rfl;have f2:=l3.free 2;have x3:=l3.cell 3 rfl;have f3:=l3.free 3;have x4:=l3.cell 4 rfl;have f4:=l3.free 4;have hne:w2.heap.size≠w.heap.size:=Nat.ne_of_gt (l0.later b2).lt;clear hl bR cR l0 l3 b0 b2 HL
 go_wp2
 obtain⟨hl,bR⟩:=HH.out;exact bodyPost_ret (results_two Tryz.results50 rfl rfl hl) rfl ⟨rfl,bR⟩
set_option maxHeartbeats 1600000 in
theorem cgrid_4 (w:World):Calls Tryz.prog 50 #[yi 4] w fun z w'=>z= .returned (.tuple #[ygV 16 6 (-70) 57 false,yi 0])∧Below w.heap.size w w':=by
 have HL:Hid (∀w1,Calls Tryz.prog 97 #[yi 4] w1 fun z w'=>z= .returned (.tuple #[.agg #[yi 16,yi 6,yi (-70),yi 57,.bool false,yi 4,yi 7,yi 2,.func (.func 200) #[] #[]],yi 0])∧Below w1.heap.size w1 w'):=fun w1=>layoutOf_4 w1
 have hsf:=hsf_z;have hsn:=hsn_z;have l0:=locE_new w (ygL 0 0 0 0 false) 56;have b0:=below_alloc w (.cells (ygL 0 0 0 0 false).toArray 56)
 go_enter Tryz.func50,Tryz.ntmps50
 go_wp2_with fail
 refine(HL.out _).mono ?_;rintro z w2 ⟨rfl,b2⟩;have l3:=(l0.later b2).later (below_alloc w2 (.cells #[yi 16,yi 6,yi (-70),yi 57,.bool false,yi 4,yi 7,yi 2,.func (.func 200) #[] #[]] 144));have cR:LocE ((((((w2.alloc (.cells #[yi 16,yi 6,yi (-70),yi 57,.bool false,yi 4,yi 7,yi 2,.func (.func 200) #[] #[]] 144)).setCell ⟨w.heap.size,0,none⟩ (yi 16)).setCell ⟨w.heap.size,1,none⟩ (yi 6)).setCell ⟨w.heap.size,2,none⟩ (yi (-70))).setCell ⟨w.heap.size,3,none⟩ (yi 57)).setCell ⟨w.heap.size,4,none⟩ (.bool false)) w.heap.size 56 (ygL 16 6 (-70) 57 false):=(((((l3.set 0 (yi 16)).set 1 (yi 6)).set 2 (yi (-70))).set 3 (yi 57)).set 4 (.bool false));have bR:=(((((but_set (w2.alloc (.cells #[yi 16,yi 6,yi (-70),yi 57,.bool false,yi 4,yi 7,yi 2,.func (.func 200) #[] #[]] 144)) w.heap.size 0 (yi 16)).trans (but_set _ w.heap.size 1 (yi 6))).trans (but_set _ w.heap.size 2 (yi (-70)))).trans (but_set _ w.heap.size 3 (yi 57))).trans (but_set _ w.heap.size 4 (.bool false))).below (below_trans (below_trans b0 b2) (below_alloc w2 (.cells #[yi 16,yi 6,yi (-70),yi 57,.bool false,yi 4,yi 7,yi 2,.func (.func 200) #[] #[]] 144))) (Nat.le_refl _);have hl:=run_loadVar_mid (P:=Tryz.prog) _ w.heap.size 0 56 (ygL 16 6 (-70) 57 false) _ cR.range Tryz.underlying56 rfl (by kernel_rfl);have HH:Hid (_∧_):=⟨hl,bR⟩;have x0:=l3.cell 0 rfl;have f0:=l3.free 0;have x1:=l3.cell 1 rfl;have f1:=l3.free 1;have x2:=l3.cell 2 rfl;have f2:=l3.free 2;have x3:=l3.cell 3 rfl;have f3:=l3.free 3;have x4:=l3.cell 4 rfl;have f4:=l3.free 4;have hne:w2.heap.size≠w.heap.size:=Nat.ne_of_gt (l0.later b2).lt;clear hl bR cR l0 l3 b0 b2 HL
 go_wp2
 obtain⟨hl,bR⟩:=HH.out;exact bodyPost_ret (results_two Tryz.results50 rfl rfl hl) rfl ⟨rfl,bR⟩
set_option maxHeartbeats 1600000 in
theorem cgrid_5 (w:World):Calls Tryz.prog 50 #[yi 5] w fun z w'=>z= .returned (.tuple #[ygV 16 14 (-78) 49 false,yi 0])∧Below w.heap.size w w':=by
 have HL:Hid (∀w1,Calls Tryz.prog 97 #[yi 5] w1 fun z w'=>z= .returned (.tuple #[.agg #[yi 16,yi 14,yi (-78),yi 49,.bool false,yi 8,yi 7,yi 2,.func (.func 200) #[] #[]],yi 0])∧Below w1.heap.size w1 w'):=fun w1=>layoutOf_5 w1
 have hsf:=hsf_z;have hsn:=hsn_z;have l0:=locE_new w (ygL 0 0 0 0 false) 56;have b0:=below_alloc w (.cells (ygL 0 0 0 0 false).toArray 56)
 go_enter Tryz.func50,Tryz.ntmps50
 go_wp2_with fail
 refine(HL.out _).mono ?_;rintro z w2 ⟨rfl,b2⟩;have l3:=(l0.later b2).later (below_alloc w2 (.cells #[yi 16,yi 14,yi (-78),yi 49,.bool false,yi 8,yi 7,yi 2,.func (.func 200) #[] #[]] 144));have cR:LocE ((((((w2.alloc (.cells #[yi 16,yi 14,yi (-78),yi 49,.bool false,yi 8,yi 7,yi 2,.func (.func 200) #[] #[]] 144)).setCell ⟨w.heap.size,0,none⟩ (yi 16)).setCell ⟨w.heap.size,1,none⟩ (yi 14)).setCell ⟨w.heap.size,2,none⟩ (yi (-78))).setCell ⟨w.heap.size,3,none⟩ (yi 49)).setCell ⟨w.heap.size,4,none⟩ (.bool false)) w.heap.size 56 (ygL 16 14 (-78) 49 false):=(((((l3.set 0 (yi 16)).set 1 (yi 14)).set 2 (yi (-78))).set 3 (yi 49)).set 4 (.bool false));have bR:=(((((but_set (w2.alloc (.cells #[yi 16,yi 14,yi (-78),yi 49,.bool false,yi 8,yi 7,yi 2,.func (.func 200) #[] #[]] 144)) w.heap.size 0 (yi 16)).trans (but_set _ w.heap.size 1 (yi 14))).trans (but_set _ w.heap.size 2 (yi (-78)))).trans (but_set _ w.heap.size 3 (yi 49))).trans (but_set _ w.heap.size 4 (.bool false))).below (below_trans (below_trans b0 b2) (below_alloc w2 (.cells #[yi 16,yi 14,yi (-78),yi 49,.bool false,yi 8,yi 7,yi 2,.func (.func 200) #[] #[]] 144))) (Nat.le_refl _);have hl:=run_loadVar_mid (P:=Tryz.prog) _ w.heap.size 0 56 (ygL 16 14 (-78) 49 false) _ cR.range Tryz.underlying56 rfl (by kernel_rfl);have HH:Hid (_∧_):=⟨hl,bR⟩;have x0:=l3.cell 0 rfl;have f0:=l3.free 0;have x1:=l3.cell 1 rfl;have f1:=l3.free 1;have x2:=l3.cell 2 rfl;have f2:=l3.free 2;have x3:=l3.cell 3 rfl;have f3:=l3.free 3;have x4:=l3.cell 4 rfl;have f4:=l3.free 4;have hne:w2.heap.size≠w.heap.size:=Nat.ne_of_gt (l0.later b2).lt;clear hl bR cR l0 l3 b0 b2 HL
 go_wp2
 obtain⟨hl,bR⟩:=HH.out;exact bodyPost_ret (results_two Tryz.results50 rfl rfl hl) rfl ⟨rfl,bR⟩
set_option maxHeartbeats 1600000 in
theorem cgrid_6 (w:World):Calls Tryz.prog 50 #[yi 6] w fun z w'=>z= .returned (.tuple #[ygV 2 24 (-151) 103 false,yi 0])∧Below w.heap.size w w':=by
 have HL:Hid (∀w1,Calls Tryz.prog 97 #[yi 6] w1 fun z w'=>z= .returned (.tuple #[.agg #[yi 2,yi 24,yi (-151),yi 103,.bool false,yi 4,yi 8,yi 3,.func (.func 203) #[] #[]],yi 0])∧Below w1.heap.size w1 w'):=fun w1=>layoutOf_6 w1
 have hsf:=hsf_z;have hsn:=hsn_z;have l0:=locE_new w (ygL 0 0 0 0 false) 56;have b0:=below_alloc w (.cells (ygL 0 0 0 0 false).toArray 56)
 go_enter Tryz.func50,Tryz.ntmps50
 go_wp2_with fail
 refine(HL.out _).mono ?_;rintro z w2 ⟨rfl,b2⟩;have l3:=(l0.later b2).later (below_alloc w2 (.cells #[yi 2,yi 24,yi (-151),yi 103,.bool false,yi 4,yi 8,yi 3,.func (.func 203) #[] #[]] 144));have cR:LocE ((((((w2.alloc (.cells #[yi 2,yi 24,yi (-151),yi 103,.bool false,yi 4,yi 8,yi 3,.func (.func 203) #[] #[]] 144)).setCell ⟨w.heap.size,0,none⟩ (yi 2)).setCell ⟨w.heap.size,1,none⟩ (yi 24)).setCell ⟨w.heap.size,2,none⟩ (yi (-151))).setCell ⟨w.heap.size,3,none⟩ (yi 103)).setCell ⟨w.heap.size,4,none⟩ (.bool false)) w.heap.size 56 (ygL 2 24 (-151) 103 false):=(((((l3.set 0 (yi 2)).set 1 (yi 24)).set 2 (yi (-151))).set 3 (yi 103)).set 4 (.bool false));have bR:=(((((but_set (w2.alloc (.cells #[yi 2,yi 24,yi (-151),yi 103,.bool false,yi 4,yi 8,yi 3,.func (.func 203) #[] #[]] 144)) w.heap.size 0 (yi 2)).trans (but_set _ w.heap.size 1 (yi 24))).trans (but_set _ w.heap.size 2 (yi (-151)))).trans (but_set _ w.heap.size 3 (yi 103))).trans (but_set _ w.heap.size 4 (.bool false))).below (below_trans (below_trans b0 b2) (below_alloc w2 (.cells #[yi 2,yi 24,yi (-151),yi 103,.bool false,yi 4,yi 8,yi 3,.func (.func 203) #[] #[]] 144))) (Nat.le_refl _);have hl:=run_loadVar_mid (P:=Tryz.prog) _ w.heap.size 0 56 (ygL 2 24 (-151) 103 false) _ cR.range Tryz.underlying56 rfl (by kernel_rfl);have HH:Hid (_∧_):=⟨hl,bR⟩;have x0:=l3.cell 0 rfl;have f0:=l3.free 0;have x1:=l3.cell 1 rfl;have f1:=l3.free 1;have x2:=l3.cell 2 rfl;have f2:=l3.free 2;have x3:=l3.cell 3 rfl;have f3:=l3.free 3;have x4:=l3.cell 4 rfl;have f4:=l3.free 4;have hne:w2.heap.size≠w.heap.size:=Nat.ne_of_gt (l0.later b2).lt;clear hl bR cR l0 l3 b0 b2 HL
 go_wp2
 obtain⟨hl,bR⟩:=HH.out;exact bodyPost_ret (results_two Tryz.results50 rfl rfl hl) rfl ⟨rfl,bR⟩
set_option maxHeartbeats 1600000 in
theorem cgrid_7 (w:World):Calls Tryz.prog 50 #[yi 7] w fun z w'=>z= .returned (.tuple #[ygV 2 56 (-183) 71 false,yi 0])∧Below w.heap.size w w':=by
 have HL:Hid (∀w1,Calls Tryz.prog 97 #[yi 7] w1 fun z w'=>z= .returned (.tuple #[.agg #[yi 2,yi 56,yi (-183),yi 71,.bool false,yi 8,yi 8,yi 3,.func (.func 203) #[] #[]],yi 0])∧Below w1.heap.size w1 w'):=fun w1=>layoutOf_7 w1
 have hsf:=hsf_z;have hsn:=hsn_z;have l0:=locE_new w (ygL 0 0 0 0 false) 56;have b0:=below_alloc w (.cells (ygL 0 0 0 0 false).toArray 56)
 go_enter Tryz.func50,Tryz.ntmps50
 go_wp2_with fail
 refine(HL.out _).mono ?_;rintro z w2 ⟨rfl,b2⟩;have l3:=(l0.later b2).later (below_alloc w2 (.cells #[yi 2,yi 56,yi (-183),yi 71,.bool false,yi 8,yi 8,yi 3,.func (.func 203) #[] #[]] 144));have cR:LocE ((((((w2.alloc (.cells #[yi 2,yi 56,yi (-183),yi 71,.bool false,yi 8,yi 8,yi 3,.func (.func 203) #[] #[]] 144)).setCell ⟨w.heap.size,0,none⟩ (yi 2)).setCell ⟨w.heap.size,1,none⟩ (yi 56)).setCell ⟨w.heap.size,2,none⟩ (yi (-183))).setCell ⟨w.heap.size,3,none⟩ (yi 71)).setCell ⟨w.heap.size,4,none⟩ (.bool false)) w.heap.size 56 (ygL 2 56 (-183) 71 false):=(((((l3.set 0 (yi 2)).set 1 (yi 56)).set 2 (yi (-183))).set 3 (yi 71)).set 4 (.bool false));have bR:=(((((but_set (w2.alloc (.cells #[yi 2,yi 56,yi (-183),yi 71,.bool false,yi 8,yi 8,yi 3,.func (.func 203) #[] #[]] 144)) w.heap.size 0 (yi 2)).trans (but_set _ w.heap.size 1 (yi 56))).trans (but_set _ w.heap.size 2 (yi (-183)))).trans (but_set _ w.heap.size 3 (yi 71))).trans (but_set _ w.heap.size 4 (.bool false))).below (below_trans (below_trans b0 b2) (below_alloc w2 (.cells #[yi 2,yi 56,yi (-183),yi 71,.bool false,yi 8,yi 8,yi 3,.func (.func 203) #[] #[]] 144))) (Nat.le_refl _);have hl:=run_loadVar_mid (P:=Tryz.prog) _ w.heap.size 0 56 (ygL 2 56 (-183) 71 false) _ cR.range Tryz.underlying56 rfl (by kernel_rfl);have HH:Hid (_∧_):=⟨hl,bR⟩;have x0:=l3.cell 0 rfl;have f0:=l3.free 0;have x1:=l3.cell 1 rfl;have f1:=l3.free 1;have x2:=l3.cell 2 rfl;have f2:=l3.free 2;have x3:=l3.cell 3 rfl;have f3:=l3.free 3;have x4:=l3.cell 4 rfl;have f4:=l3.free 4;have hne:w2.heap.size≠w.heap.size:=Nat.ne_of_gt (l0.later b2).lt;clear hl bR cR l0 l3 b0 b2 HL
 go_wp2
 obtain⟨hl,bR⟩:=HH.out;exact bodyPost_ret (results_two Tryz.results50 rfl rfl hl) rfl ⟨rfl,bR⟩
set_option maxHeartbeats 1600000 in
theorem cgrid_8 (w:World):Calls Tryz.prog 50 #[yi 8] w fun z w'=>z= .returned (.tuple #[ygV 2 53 (-1076) 970 false,yi 0])∧Below w.heap.size w w':=by
 have HL:Hid (∀w1,Calls Tryz.prog 97 #[yi 8] w1 fun z w'=>z= .returned (.tuple #[.agg #[yi 2,yi 53,yi (-1076),yi 970,.bool false,yi 8,yi 11,yi 3,.func (.func 203) #[] #[]],yi 0])∧Below w1.heap.size w1 w'):=fun w1=>layoutOf_8 w1
 have hsf:=hsf_z;have hsn:=hsn_z;have l0:=locE_new w (ygL 0 0 0 0 false) 56;have b0:=below_alloc w (.cells (ygL 0 0 0 0 false).toArray 56)
 go_enter Tryz.func50,Tryz.ntmps50
 go_wp2_with fail
 refine(HL.out _).mono ?_;rintro z w2 ⟨rfl,b2⟩;have l3:=(l0.later b2).later (below_alloc w2 (.cells #[yi 2,yi 53,yi (-1076),yi 970,.bool false,yi 8,yi 11,yi 3,.func (.func 203) #[] #[]] 144));have cR:LocE ((((((w2.alloc (.cells #[yi 2,yi 53,yi (-1076),yi 970,.bool false,yi 8,yi 11,yi 3,.func (.func 203) #[] #[]] 144)).setCell ⟨w.heap.size,0,none⟩ (yi 2)).setCell ⟨w.heap.size,1,none⟩ (yi 53)).setCell ⟨w.heap.size,2,none⟩ (yi (-1076))).setCell ⟨w.heap.size,3,none⟩ (yi 970)).setCell ⟨w.heap.size,4,none⟩ (.bool false)) w.heap.size 56 (ygL 2 53 (-1076) 970 false):=(((((l3.set 0 (yi 2)).set 1 (yi 53)).set 2 (yi (-1076))).set 3 (yi 970)).set 4 (.bool false));have bR:=(((((but_set (w2.alloc (.cells #[yi 2,yi 53,yi (-1076),yi 970,.bool false,yi 8,yi 11,yi 3,.func (.func 203) #[] #[]] 144)) w.heap.size 0 (yi 2)).trans (but_set _ w.heap.size 1 (yi 53))).trans (but_set _ w.heap.size 2 (yi (-1076)))).trans (but_set _ w.heap.size 3 (yi 970))).trans (but_set _ w.heap.size 4 (.bool false))).below (below_trans (below_trans b0 b2) (below_alloc w2 (.cells #[yi 2,yi 53,yi (-1076),yi 970,.bool false,yi 8,yi 11,yi 3,.func (.func 203) #[] #[]] 144))) (Nat.le_refl _);have hl:=run_loadVar_mid (P:=Tryz.prog) _ w.heap.size 0 56 (ygL 2 53 (-1076) 970 false) _ cR.range Tryz.underlying56 rfl (by kernel_rfl);have HH:Hid (_∧_):=⟨hl,bR⟩;have x0:=l3.cell 0 rfl;have f0:=l3.free 0;have x1:=l3.cell 1 rfl;have f1:=l3.free 1;have x2:=l3.cell 2 rfl;have f2:=l3.free 2;have x3:=l3.cell 3 rfl;have f3:=l3.free 3;have x4:=l3.cell 4 rfl;have f4:=l3.free 4;have hne:w2.heap.size≠w.heap.size:=Nat.ne_of_gt (l0.later b2).lt;clear hl bR cR l0 l3 b0 b2 HL
 go_wp2
 obtain⟨hl,bR⟩:=HH.out;exact bodyPost_ret (results_two Tryz.results50 rfl rfl hl) rfl ⟨rfl,bR⟩
end Go.Proofs.YtnhackdjplppjaaGreatDoor
namespace Go.Proofs.YtnhackdjplppjaaGreatDoor
open Go.RowKit
def plN (k i:Nat):Nat:=if k=3 then szN k-1-i else if 6≤k then i+1-2*(i % 2) else i
theorem plN_at (k:Nat) (zs:List Nat) (i:Nat) (hk:zs.length=szN k) (hi:i<zs.length):(turnB k zs).getD i 0=zs.getD (plN k i) 0:=by
 unfold turnB plN
 by_cases h3:k=3
 ·rw[if_pos h3,if_pos h3,List.getD_eq_getElem?_getD,List.getElem?_reverse hi,←List.getD_eq_getElem?_getD,hk]
 ·rw[if_neg h3,if_neg h3]
  by_cases h6:6≤k
  ·rw[if_pos h6,if_pos h6,turnW_at zs i hi]
  ·rw[if_neg h6,if_neg h6]
theorem plN_lt {k i:Nat} (hk:1≤k∧k≤8) (hi:i<szN k):plN k i<szN k:=by
 obtain⟨m,hm⟩:=(sizes_fit hk).2.2.2.2.1;unfold plN
 split
 ·omega
 ·split<;>omega
end Go.Proofs.YtnhackdjplppjaaGreatDoor
namespace Go.Proofs.YtnhackdjplppjaaGreatDoor
open Go.RowKit
def OwnB (w:World) (base:Nat) (v:Value) (bs:List Bool):Prop:=w.ownsRow base 4 1 v bs.length (bs.map Value.bool)
theorem Tryz.infoB:(Tryz.prog.info? 4).map (fun i=>(i.zero,i.size,i.bytes))=some (some (.bool false),1,1):=by kernel_rfl
theorem OwnB.later {w w':World} {base:Nat} {v:Value} {bs:List Bool} (h:OwnB w base v bs) (hb:Below w.heap.size w w'):OwnB w' base v bs:=by
 obtain⟨hl,h2⟩:=h;refine⟨hl, ?_⟩
 rcases h2 with h2| ⟨g,cap,cur,hv,hbg,hh,r⟩
 ·exact .inl h2
 ·refine .inr ⟨g,cap,cur,hv,hbg, ?_,r⟩
  rw[hb.block g ?_]
  ·exact hh
  ·rw[Array.getElem?_eq_some_iff] at hh
   exact hh.1
end Go.Proofs.YtnhackdjplppjaaGreatDoor
