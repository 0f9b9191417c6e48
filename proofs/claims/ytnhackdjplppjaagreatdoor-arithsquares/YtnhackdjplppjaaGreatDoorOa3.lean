/-
  ArithOne, paid.
-/
import Derived.OrdersHeld
import Derived.Test.YtnhackdjplppjaaGreatDoorOa0
import Derived.Test.YtnhackdjplppjaaGreatDoorOa2
namespace Go.Proofs.YtnhackdjplppjaaGreatDoor
open Go.RowKit
theorem one_facts {k:Nat} (hk:1≤k∧k≤8):patC (k:Int) (encS (k:Int) 2 false [1] 0)=0∧decC (k:Int) (encS (k:Int) 2 false [1] 0)=2∧decG (k:Int) (encS (k:Int) 2 false [1] 0)=false∧opT (k:Int) (encS (k:Int) 2 false [1] 0)=⟨false,1,0⟩:=by
 rcases eight hk with rfl|rfl|rfl|rfl|rfl|rfl|rfl|rfl<;>exact⟨by kernel_rfl,by kernel_rfl,by kernel_rfl,by kernel_rfl⟩
theorem op_parts {k:Nat} (hk:1≤k∧k≤8) {p:ByteArray} (h:patC (k:Int) p=0) (c:decC (k:Int) p=2):
  (opT (k:Int) p).n≠0∧(opT (k:Int) p).s=decG (k:Int) p∧bare ⟨decG (k:Int) p,decM (k:Int) p,(widthN (rdN k:Int):Int)*decP (k:Int) p⟩=opT (k:Int) p:=by
 have h0:=(op_small hk h).2.2 c;have hc:clsN k (fldN k p) (fldE k p) (fldF k p)=2:=by
  unfold decC at c
  rwa [if_pos h,Int.toNat_natCast] at c
 have e:=(en_short (num_is hk p (.inr hc))).1;rw[Dg.vl_dg _ _ (by omega)] at e;have e2:opT (k:Int) p=nxT k p:=by unfold opT;rw[if_pos h,Int.toNat_natCast]
 have hb:bare ⟨decG (k:Int) p,decM (k:Int) p,(widthN (rdN k:Int):Int)*decP (k:Int) p⟩=opT (k:Int) p:=by
  unfold decG decM decP;rw[if_pos h,if_pos h,if_pos h,Int.toNat_natCast,e2];exact e.symm
 refine⟨h0, ?_,hb⟩;rw[←hb] at h0⊢;exact bare_sign (fun c=>h0 ((bareN_nil _).2 c))
theorem prod_one {k:Nat} {ca:Int} {ga:Bool} {x:Trip} (hc:ca=1∨ca=2∨ca=3) (h2:ca=2→x.n≠0∧x.s=ga) (h1:ca≠2→x=⟨false,0,0⟩):prodV k ca ga x 2 false ⟨false,1,0⟩=(ca,ga,x,0):=by
 have hg:(ga != false)=ga:=by cases ga<;>rfl
 unfold prodV;rw[if_neg (by omega),hg]
 rcases hc with rfl|rfl|rfl
 ·rw[if_neg (by omega),h1 (by decide)]
  rfl
 ·rw[if_neg (by omega)]
  obtain⟨a1,a2⟩:=h2 rfl;have e:timesT x ⟨false,1,0⟩=x:=by
   obtain⟨s,n,e⟩:=x;unfold timesT;simp only;rw[Nat.mul_one,Int.add_zero,show(s != false)=s by cases s<;>rfl]
  rw[e];unfold numV numC numG numT;rw[if_neg a1,if_neg a1,if_neg a1,a2]
 ·rw[if_pos (.inl rfl),h1 (by decide)]
theorem quot_one {k:Nat} {ca:Int} {ga:Bool} {x:Trip} (hc:ca=1∨ca=2∨ca=3) (h2:ca=2→x.n≠0∧x.s=ga) (h1:ca≠2→x=⟨false,0,0⟩):quotV k ca ga x 2 false ⟨false,1,0⟩=(ca,ga,if ca=2 then overT x ⟨false,1,0⟩ 128 else⟨false,0,0⟩,0):=by
 have hg:(ga != false)=ga:=by cases ga<;>rfl
 unfold quotV;rw[if_neg (by omega),hg]
 rcases hc with rfl|rfl|rfl
 ·rw[if_neg (by omega),if_neg (by omega),if_neg (by omega),if_neg (by omega),h1 (by decide)]
  have e:(overT ⟨false,0,0⟩ ⟨false,1,0⟩ 128).n=0:=by
   show 0*2^_/1*2+(if decide (0<0*2^_ % 1)=true then 1 else 0)=0
   simp
  unfold numV numC numG numT;rw[if_pos e,if_pos e,if_pos e]
 ·rw[if_neg (by omega),if_neg (by omega),if_neg (by omega),if_pos rfl]
  obtain⟨a1,a2⟩:=h2 rfl;have e:=(over_round (R:=2) (D:=1) (L:=0) (G:=0) (gr:=true) (s:=true) (way:=1) (a:=x) (b:=⟨false,1,0⟩) a1 (by decide) (by decide) (by decide)).1;have es:(overT x ⟨false,1,0⟩ 128).s=ga:=by
   show(x.s != false)=ga
   rw[a2,hg]
  unfold numV numC numG numT;rw[if_neg e,if_neg e,if_neg e,es]
 ·rw[if_pos rfl,if_neg (by omega)]
theorem rec_one {k:Nat} (way:Int) (a b o:ByteArray) (f g:Int×Bool×Trip×Int) (h1:patC (k:Int) o=0) (h2:decC (k:Int) o=2) (h:errL (k:Int) [a,b]=0→noNum (k:Int) a=false→f=g):recT (k:Int) way [a,o,b] f=recT (k:Int) way [a,b] g:=by
 have hE:errL (k:Int) [a,o,b]=errL (k:Int) [a,b]:=by
  simp only[errL,h1,if_pos]
 have hN:[a,o,b].any (noNum (k:Int))=[a,b].any (noNum (k:Int)):=by
  have:noNum (k:Int) o=false:=by unfold noNum;rw[h2];rfl
  simp only[List.any_cons,List.any_nil,this,Bool.false_or]
 unfold recT;rw[hE,hN]
 by_cases hf:famC (k:Int)=0
 ·rw[if_pos hf,if_pos hf]
 rw[if_neg hf,if_neg hf]
 by_cases he:errL (k:Int) [a,b]≠0
 ·rw[if_pos he,if_pos he]
 rw[if_neg he,if_neg he]
 by_cases hn:[a,b].any (noNum (k:Int))=true
 ·rw[if_pos hn,if_pos hn]
 ·rw[if_neg hn,if_neg hn,h (by omega) (by
   simp only[List.any_cons,List.any_nil,Bool.or_false] at hn
   cases c:noNum (k:Int) a
   ·rfl
   ·rw[c,Bool.true_or] at hn
    exact absurd rfl hn)]
theorem patC_bad {n:Int} {p:ByteArray} (hf:famC n≠0) (h:patC n p≠0):patC n p=1:=by
 unfold patC at h⊢;rw[if_neg hf] at h⊢
 split
 ·rename_i c
  rw[if_pos c] at h;exact absurd rfl h
 ·rfl
theorem noNum_le {k:Nat} {a:ByteArray} (hp:patC (k:Int) a=0) (h:noNum (k:Int) a=false):((decC (k:Int) a:Nat):Int)=1∨((decC (k:Int) a:Nat):Int)=2∨((decC (k:Int) a:Nat):Int)=3:=by
 have:=decC_in hp;unfold noNum at h;have:=of_decide_eq_false h;omega
theorem arithOne_walk (n:Int) (a b:ByteArray) (way:Int) (w:World) (hT:Tab w):Calls Tryz.prog 13 #[yi n,.string a,.string b,yi way] w fun z w'=>z= .returned (.bool true)∧Below w.heap.size w w':=by
 have HB:=fun w1 (b:Below w.heap.size w w1)=>arithBegun_any w1 (hT.later b)
 by_cases hf:famC n=0
 ·have HO:=fun w1 (b1:Below w.heap.size w w1)=>oneOf_W n 6 (encS n 2 false [1] 0) w1 (fun q w2 b2 hl=>by
   have:=encode_any n 2 false (some ⟨q,0,none⟩) 1 [1] 0 w2 (rd_one (hl.cell 0 rfl)) (Dg.small_cons.2 ⟨by omega,Dg.small_nil _ (by omega)⟩) ((hT.later b1).later b2);rw[show encE n 2 false [1] 0=6 from if_pos (.inl hf)] at this
   exact this)
  exact one_err 6 n way a b _ w rfl HB HO
 obtain⟨k1,k2,k3⟩:=famC_in hf;obtain⟨k,rfl⟩: ∃k:Nat,n=(k:Int):=⟨n.toNat,k3.symm⟩;rw[Int.toNat_natCast] at k1 k2;have hk:1≤k∧k≤8:=⟨k1,k2⟩;obtain⟨f1,f2,f3,f4⟩:=one_facts hk;have HO:=fun w1 (b:Below w.heap.size w w1)=>oneOf_any k hk w1 (hT.later b)
 have HF:=fun w1 (b1:Below w.heap.size w w1)=>fused_any (k:Int) way a (encS (k:Int) 2 false [1] 0) b w1 (hT.later b1)
 have HA:=fun w1 (b1:Below w.heap.size w w1)=>add_any (k:Int) way a b w1 (hT.later b1)
 have HM:=fun w1 (b1:Below w.heap.size w w1)=>mul_any (k:Int) way a (encS (k:Int) 2 false [1] 0) w1 (hT.later b1)
 have HV:=fun w1 (b1:Below w.heap.size w w1)=>div_any (k:Int) way a (encS (k:Int) 2 false [1] 0) w1 (hT.later b1)
 generalize encS (k:Int) 2 false [1] 0=o at f1 f2 f3 f4 HO HF HM HV;have hx:patC (k:Int) a=0→(((decC (k:Int) a:Nat):Int)=2→(opT (k:Int) a).n≠0∧(opT (k:Int) a).s=decG (k:Int) a)∧(((decC (k:Int) a:Nat):Int)≠2→opT (k:Int) a=⟨false,0,0⟩):=fun hp=>
  ⟨fun c=>by obtain⟨q1,q2,-⟩:=op_parts hk hp (by omega);exact⟨q1,q2⟩,fun c=>(op_small hk hp).2.1 (by omega)⟩
 have e:recT (k:Int) way [a,o,b] (fusF (k:Int) way a o b)=recT (k:Int) way [a,b] (addF (k:Int) way a b):=rec_one way a b o _ _ f1 f2 (fun he hn=>by
  have hp:=errL_zero he a (by simp);have hm:mulF (k:Int) a o=(((decC (k:Int) a:Nat):Int),decG (k:Int) a,opT (k:Int) a,0):=by
   unfold mulF;rw[f2,f3,f4,Int.toNat_natCast];exact prod_one (noNum_le hp hn) (hx hp).1 (hx hp).2
  unfold fusF addF;rw[hm,if_pos rfl])
 rw[e] at HF;have HY: ∀w1,Below w.heap.size w w1→Calls Tryz.prog 37 #[yi way] w1 fun z w'=>z= .returned (.bool (isWay way))∧Below w1.heap.size w1 w':=fun w1 _=>(refIsWay_any way w1).mono (fun _ _ h=>⟨h.1,by rw[h.2];exact Below.refl _ _⟩)
 cases hw:isWay way
 ·have h0:(recT (k:Int) way [a,b] (addF (k:Int) way a b)).2.2≠0:=by
   have hy:way<1∨5<way:=by
    unfold isWay at hw;simp at hw;omega
   unfold recT;rw[if_neg hf]
   by_cases he:errL (k:Int) [a,b]≠0
   ·rw[if_pos he]
    exact he
   ·rw[if_neg he,if_pos hy]
    decide
  rw[hw] at HY;exact one_way (k:Int) way _ _ a b o _ w (by simpa using h0) HB HO HF HA HY
 rw[hw] at HY;have hy: ¬(way<1∨5<way):=by
  unfold isWay at hw;simp at hw;omega
 have HD:=fun w1 (_:Below w.heap.size w w1)=>decode_any (k:Int) a w1
 have HE:=fun vo vc w1 (b1:Below w.heap.size w w1) h=>encode_any (k:Int) ((decC (k:Int) a:Nat):Int) (decG (k:Int) a) vo vc (Dg.dg 4294967296 (decM (k:Int) a)) (decP (k:Int) a) w1 h (Dg.small_dg _ _ (by omega)) (hT.later b1)
 by_cases hp:patC (k:Int) a=0
 rotate_left
 ·rw[patC_bad hf hp] at HD
  exact one_c1 _ _ (k:Int) way _ _ _ _ _ a b o _ _ w HB HO HF HA HY HD HE
 rw[hp] at HD
 by_cases hE:encE (k:Int) ((decC (k:Int) a:Nat):Int) (decG (k:Int) a) (Dg.dg 4294967296 (decM (k:Int) a)) (decP (k:Int) a)=0
 rotate_left
 ·have hv:encE (k:Int) ((decC (k:Int) a:Nat):Int) (decG (k:Int) a) (Dg.dg 4294967296 (decM (k:Int) a)) (decP (k:Int) a)=3∨encE (k:Int) ((decC (k:Int) a:Nat):Int) (decG (k:Int) a) (Dg.dg 4294967296 (decM (k:Int) a)) (decP (k:Int) a)=4∨encE (k:Int) ((decC (k:Int) a:Nat):Int) (decG (k:Int) a) (Dg.dg 4294967296 (decM (k:Int) a)) (decP (k:Int) a)=5:=by
   have hl:chk (Dg.dg 4294967296 (decM (k:Int) a))=0:=by
    refine chk_of (Dg.norm_dg _ _ (by omega)) (two_len (k:=64) ?_ (by omega));unfold decM;rw[if_pos hp,Int.toNat_natCast];exact valM_lt hk _ _ (frN_64 hk (fld_lt k a).2)
   have:=decC_in hp;unfold encE at hE⊢;rw[if_neg (by omega),if_neg (fun c=>c hl)] at hE⊢
   split at hE
   ·rename_i c2
    rw[if_pos c2];unfold enE at hE⊢
    split at hE
    ·rename_i q
     rw[if_pos q];exact .inl rfl
    ·rename_i q
     rw[if_neg q]
     split at hE
     ·rename_i q2
      rw[if_pos q2];exact .inr (.inl rfl)
     ·rename_i q2
      rw[if_neg q2]
      split at hE
      ·exact absurd rfl hE
      ·rename_i q3
       rw[if_neg q3];exact .inr (.inl rfl)
   ·rename_i c2
    rw[if_neg c2];unfold othE at hE⊢
    split at hE
    ·rename_i q
     rw[if_pos q];exact .inr (.inr rfl)
    ·rename_i q
     rw[if_neg q]
     split at hE
     ·rename_i q2
      rw[if_pos q2];exact .inr (.inl rfl)
     ·exact absurd rfl hE
  rcases hv with h|h|h<;>rw[h] at HE
  ·exact one_c2_3 _ (k:Int) way _ _ _ _ _ a b o _ _ w HB HO HF HA HY HD HE
  ·exact one_c2_4 _ (k:Int) way _ _ _ _ _ a b o _ _ w HB HO HF HA HY HD HE
  ·exact one_c2_5 _ (k:Int) way _ _ _ _ _ a b o _ _ w HB HO HF HA HY HD HE
 rw[hE] at HE
 by_cases h3:3< ((decC (k:Int) a:Nat):Int)
 ·exact one_c3 _ (k:Int) way _ _ _ _ _ a b o _ _ w h3 HB HO HF HA HY HD HE
 have hc3:((decC (k:Int) a:Nat):Int)=1∨((decC (k:Int) a:Nat):Int)=2∨((decC (k:Int) a:Nat):Int)=3:=by have:=decC_in hp;omega
 have hno:[a,o].any (noNum (k:Int))=false:=by
  have h1:noNum (k:Int) o=false:=by unfold noNum;rw[f2];rfl
  have h2:noNum (k:Int) a=false:=by unfold noNum;exact decide_eq_false (by omega)
  simp[h1,h2]
 have her:errL (k:Int) [a,o]=0:=by simp only[errL,hp,f1,if_pos]
 have hr: ∀f,recT (k:Int) way [a,o] f=ansT k way f.1 f.2.1 f.2.2.1 f.2.2.2:=fun f=>by
  unfold recT;rw[if_neg hf,if_neg (by omega),if_neg hy,if_neg (by rw[hno];decide),Int.toNat_natCast]
 have hm:mulF (k:Int) a o=(((decC (k:Int) a:Nat):Int),decG (k:Int) a,opT (k:Int) a,0):=by
  unfold mulF;rw[f2,f3,f4,Int.toNat_natCast];exact prod_one hc3 (hx hp).1 (hx hp).2
 have hv:divF (k:Int) a o=(((decC (k:Int) a:Nat):Int),decG (k:Int) a,if((decC (k:Int) a:Nat):Int)=2 then overT (opT (k:Int) a) ⟨false,1,0⟩ 128 else⟨false,0,0⟩,0):=by
  unfold divF;rw[f2,f3,f4,Int.toNat_natCast];exact quot_one hc3 (hx hp).1 (hx hp).2
 rw[hr,hm] at HM;rw[hr,hv] at HV;simp only at HM HV;have sm:=Dg.small_dg 4294967296 (decM (k:Int) a) (by omega);obtain⟨e1,-,-,-,-,-,e7⟩:=enc_dec hk sm hE;have hZ:=decode_any (k:Int) (encS (k:Int) ((decC (k:Int) a:Nat):Int) (decG (k:Int) a) (Dg.dg 4294967296 (decM (k:Int) a)) (decP (k:Int) a));rw[patC_ok hk e1] at hZ
 rcases hc3 with c|c|c
 ·rw[c] at HD HE HM HV
  rw[if_neg (by omega)] at HV;rw[(hx hp).2 (by omega)] at HM;obtain⟨s,s1,s2,s3⟩:=ans_zero hk way (decG (k:Int) a) ⟨false,0,0⟩ 0;rw[s1] at HM HV;have HZ:=fun w1 (_:Below w.heap.size w w1)=>decode_any (k:Int) s w1
  rw[s2,s3] at HZ;exact one_zero _ _ _ s (k:Int) way _ _ _ _ _ a b o _ _ w HB HO HF HA HY HD HE HM HV HZ
 ·have c2:decC (k:Int) a=2:=by omega
  obtain⟨q1,q2,q3⟩:=op_parts hk hp c2;have hcx:chk (Dg.dg 4294967296 (decM (k:Int) a))=0:=by
   unfold encE at hE;rw[if_neg (by omega)] at hE
   by_cases q:chk (Dg.dg 4294967296 (decM (k:Int) a))=0
   ·exact q
   ·rw[if_pos q] at hE
    exact absurd hE q
  have hE2:=hE;rw[c,(two_is hk hcx).1] at hE2;obtain⟨-,hh,-⟩:=enE_parts hk sm hcx hE2;rw[Dg.vl_dg _ _ (by omega),q3] at hh;have hbb:bare (opT (k:Int) a)=opT (k:Int) a:=by
   rw[←q3,bare_bare]
  have hans:=held_ans hk way (decG (k:Int) a) (opT (k:Int) a) 0 q1 hh sm hcx (by rw[q2];exact hE2) (by rw[Dg.vl_dg _ _ (by omega),q2,q3,hbb]);rw[q2] at hans;have hpl:plcT k way (overT (opT (k:Int) a) ⟨false,1,0⟩ 128)=plcT k way (opT (k:Int) a):=by
   obtain⟨-,-,d1,-,-,-,lg,-,w64,-,-,hg⟩:=fmt_fit hk;have:=(over_round (R:=(rdN k:Int)) (D:=(dgN k:Int)) (L:=lsI k) (G:=gsI k) (gr:=decide (k≤3)) (s:=(opT (k:Int) a).s) (way:=way) (a:=opT (k:Int) a) (b:=⟨false,1,0⟩) q1 (by decide) (by omega) (by rw[Int.toNat_natCast];exact w64)).2;unfold plcT;rw[show(overT (opT (k:Int) a) ⟨false,1,0⟩ 128).s=(opT (k:Int) a).s from by show((opT (k:Int) a).s != false)=_;cases (opT (k:Int) a).s<;>rfl,this]
   simp
  have hans2:ansT k way 2 (decG (k:Int) a) (overT (opT (k:Int) a) ⟨false,1,0⟩ 128) 0=ansT k way 2 (decG (k:Int) a) (opT (k:Int) a) 0:=by
   unfold ansT;rw[hpl]
  rw[c] at HD HE HM HV hZ;rw[if_pos rfl,hans2,hans] at HV;rw[hans] at HM;exact one_num 2 _ _ _ _ (k:Int) way _ _ _ _ _ a b o _ _ w (by decide) (by decide) HB HO HF HA HY HD HE HM HV (fun w1 _=>hZ w1)
 ·obtain⟨x1,x2⟩:=e7 (by omega)
  have hnil:Dg.dg 4294967296 (decM (k:Int) a)=[]:=List.length_eq_zero_iff.1 x1;rw[c] at HD HE HM HV hZ hE;rw[if_neg (by omega)] at HV;have hans: ∀t,ansT k way 3 (decG (k:Int) a) t 0=(encS (k:Int) 3 (decG (k:Int) a) (Dg.dg 4294967296 (decM (k:Int) a)) (decP (k:Int) a),0,0):=fun t=>by
   unfold ansT;rw[if_neg (by decide),if_neg (by decide)];rw[hnil,x2] at hE⊢;exact encT_ok (k:=k) (m:=0) hE
  rw[hans] at HM HV;exact one_num 3 _ _ _ _ (k:Int) way _ _ _ _ _ a b o _ _ w (by decide) (by decide) HB HO HF HA HY HD HE HM HV (fun w1 _=>hZ w1)
end Go.Proofs.YtnhackdjplppjaaGreatDoor
