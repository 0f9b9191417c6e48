/-
  Texts laid together: Ef2, Ce9, Eb1, Cr5, Co25, Co23, Cr9, Cr11, Eg1, Ce12, Eg2, Eg3.
-/
import Derived.Test.YtnhackdjplppjaaGreatDoorSp23
set_option maxRecDepth 100000
namespace Go.Proofs.YtnhackdjplppjaaGreatDoor
open Go.RowKit
theorem wdI_nat (R:Int):wdI R=(widthN R:Int):=by
 unfold wdI widthN
 split<;>rfl
theorem fmt_fit {k:Nat} (hk:1≤k∧k≤8):1≤exN k∧1≤frN k∧1≤dgN k∧dgN k≤64∧ -16445≤lsI k∧lsI k≤0∧lsI k≤gsI k∧gsI k≤16320∧widthN (rdN k:Int)*dgN k≤64∧widthN (rdN k:Int)≤4∧1≤widthN (rdN k:Int)∧gridC (rdN k:Int) (dgN k:Int) (lsI k) (gsI k)=0:=by
 rcases eight hk with rfl|rfl|rfl|rfl|rfl|rfl|rfl|rfl<;>exact⟨by decide,by decide,by decide,by decide,by decide,by decide,by decide,by decide,by decide,by decide,by decide,by decide⟩
theorem dg16_mono {a b:Nat} (h:a≤b):(Dg.dg 65536 a).length≤(Dg.dg 65536 b).length:=by
 refine Dg.dg_len_le 65536 a _ (by omega) (Nat.lt_of_le_of_lt h ?_);have:=Dg.vl_lt 65536 (Dg.dg 65536 b) (Dg.small_dg 65536 b (by omega))
 rwa [Dg.vl_dg 65536 b (by omega)] at this
theorem and_lead {d j:Nat} (h:d<2^ (j+1)):d&&& 2^j≠0↔bitLen d=j+1:=by
 have hb:=bitLen_le_of d (j+1) h;rw[and_bit];have hp:0<2^j:=Nat.pow_pos (by omega)
 by_cases hc:2^j≤d
 ·have h1:bitLen d=j+1:=by
   have:=(lt_bits d j).1;have h2: ¬bitLen d<j+1:=fun c=>this c hc
   omega
  have ht:d.testBit j=true:=by
   rw[Nat.testBit_eq_decide_div_mod_eq];have:d/2^j=1:=by
    rw[Nat.pow_succ] at h;have h3:1≤d/2^j:=(Nat.le_div_iff_mul_le hp).2 (by omega);have h4:d/2^j<2:=(Nat.div_lt_iff_lt_mul hp).2 (by omega);omega
   rw[this];rfl
  rw[if_pos ht];exact⟨fun _=>h1,fun _=>by omega⟩
 ·have h1:bitLen d<j+1:=(lt_bits d j).2 hc
  have ht:d.testBit j=false:=by
   rw[Nat.testBit_eq_decide_div_mod_eq,Nat.div_eq_of_lt (by omega)];rfl
  rw[if_neg (by rw[ht];simp)];exact⟨fun c=>absurd rfl c,fun c=>by omega⟩
end Go.Proofs.YtnhackdjplppjaaGreatDoor
namespace Go.Proofs.YtnhackdjplppjaaGreatDoor
open Go.RowKit
theorem turnB_twice {k:Nat} (hk:1≤k∧k≤8) (zs:List Nat) (hl:zs.length=szN k):turnB k (turnB k zs)=zs:=by
 apply List.ext_getElem (by rw[turnB_len,turnB_len]);intro p hp1 hp2;have e1:(turnB k (turnB k zs)).getD p 0=(turnB k (turnB k zs))[p]:=by simp only[List.getD_eq_getElem?_getD,List.getElem?_eq_getElem hp1,Option.getD_some]
 have e2:zs.getD p 0=zs[p]:=by simp only[List.getD_eq_getElem?_getD,List.getElem?_eq_getElem hp2,Option.getD_some]
 have hp:p<szN k:=by omega
 rw[←e1,←e2,plN_at k _ p (by rw[turnB_len];exact hl) (by rw[turnB_len];exact hp2),plN_at k zs _ hl (by rw[hl];exact plN_lt hk hp),plN_twice hk hp]
theorem bytesOf_strOf (zs:List Nat) (hs:Dg.Small 256 zs):bytesOf (strOf zs)=zs:=by
 unfold bytesOf strOf;apply List.ext_getElem (by simp);intro p hp1 hp2;have h:=hs p;rw[List.getD_eq_getElem?_getD,List.getElem?_eq_getElem hp2,Option.getD_some] at h;simp;exact h
theorem valB_bit (bf:Nat→Bool): ∀n r,r<n→valB bf n/2^ (n-1-r) % 2=if bf r then 1 else 0
 |0,_,h=>absurd h (Nat.not_lt_zero _)
 |n+1,r,h=>by
  rw[valB]
  by_cases e:r=n
  ·subst e
   rw[show r+1-1-r=0 from by omega,Nat.pow_zero,Nat.div_one]
   split<;>omega
  ·have ih:=valB_bit bf n r (by omega)
   rw[show n+1-1-r=(n-1-r)+1 from by omega,Nat.pow_succ,Nat.mul_comm (2^ (n-1-r)) 2,←Nat.div_div_eq_div_mul]
   rw[show(valB bf n*2+if bf n=true then 1 else 0)/2=valB bf n from by split<;>omega]
   exact ih
theorem bitB_byL (bf:Nat→Bool) (n i:Nat) (h:i<8*n):bitB (byL bf n) i=if bf i then 1 else 0:=by
 unfold bitB;rw[byL_at bf n _ (by omega)];have:=valB_bit (fun j=>bf (8*(i/8)+j)) 8 (i % 8) (by omega)
 rw[show 8-1-i % 8=7-i % 8 from by omega,show 8*(i/8)+i % 8=i from by omega] at this
 exact this
theorem bitsV_byL (bf:Nat→Bool) (m f:Nat): ∀n,f+n≤8*m→bitsV (byL bf m) f n=valB (fun j=>bf (f+j)) n
 |0,_=>rfl
 |n+1,h=>by
  rw[bitsV,valB,bitsV_byL bf m f n (by omega),bitB_byL bf m (f+n) (by omega)];omega
theorem valB_num: ∀(n e:Nat),valB (fun j=>decide (e/2^ (n-1-j) % 2=1)) n=e % 2^n
 |0,e=>by simp[valB,Nat.mod_one]
 |n+1,e=>by
  rw[valB,valB_congr (g:=fun j=>decide (e/2/2^ (n-1-j) % 2=1)) n (fun j hj=>by
   rw[Nat.div_div_eq_div_mul,←Nat.pow_succ',show(n-1-j).succ=n+1-1-j from by omega]),valB_num n (e/2),show n+1-1-n=0 from by omega,Nat.pow_zero,Nat.div_one,Nat.pow_succ]
  have h1:e % (2^n*2)=e/2 % 2^n*2+e % 2:=by
   rw[Nat.mul_comm (2^n) 2,Nat.mod_mul];omega
  rw[h1]
  rcases(show e % 2=0∨e % 2=1 by omega) with h|h<;>rw[h]<;>rfl
theorem byL_small (bf:Nat→Bool) (n:Nat):Dg.Small 256 (byL bf n):=by
 intro i
 by_cases h:i<n
 ·rw[byL_at bf n i h]
  exact valB_lt _ 8
 ·rw[List.getD_eq_getElem?_getD,List.getElem?_eq_none (by rw[byL_len];omega)]
  simp
theorem fldB_written {k:Nat} (hk:1≤k∧k≤8) (ng:Bool) (e f:Nat):fldB k (strOf (wrtB k ng e f))=byL (patF (exN k) (frN k) ng e f) (szN k):=by
 unfold fldB;rw[wrtB_bits hk,bytesOf_strOf _ (turnB_small k _ (byL_small _ _)),turnB_twice hk _ (byL_len _ _)]
theorem strOf_size (zs:List Nat):(strOf zs).size=zs.length:=by
 unfold strOf
 show(zs.map (fun n=>UInt8.ofNat n)).toArray.size=_
 simp
theorem fields_written {k:Nat} (hk:1≤k∧k≤8) (ng:Bool) (e f:Nat):
  fldN k (strOf (wrtB k ng e f))=ng∧fldE k (strOf (wrtB k ng e f))=e % 2^exN k∧fldF k (strOf (wrtB k ng e f))=f % 2^frN k∧(strOf (wrtB k ng e f)).size=szN k:=by
 obtain⟨h1,h2,h3,h4,-,h7⟩:=sizes_fit hk;unfold fldN fldE fldF;rw[fldB_written hk];refine⟨?_, ?_, ?_, ?_⟩
 ·rw[bitsV_byL _ _ _ _ (by omega)]
  simp only[valB,patF]
  cases ng<;>simp
 ·rw[bitsV_byL _ _ _ _ (by omega),←valB_num (exN k) e]
  refine valB_congr _ (fun j hj=> ?_)
  unfold patF;rw[if_neg (by omega),if_pos (show 1+j≤exN k by omega),show exN k-(1+j)=exN k-1-j from by omega]
 ·rw[bitsV_byL _ _ _ _ (by omega),←valB_num (frN k) f]
  refine valB_congr _ (fun j hj=> ?_)
  unfold patF;rw[if_neg (by omega),if_neg (show¬1+exN k+j≤exN k by omega),show exN k+frN k-(1+exN k+j)=frN k-1-j from by omega]
 ·rw[strOf_size,wrtB_len]
end Go.Proofs.YtnhackdjplppjaaGreatDoor
namespace Go.Proofs.YtnhackdjplppjaaGreatDoor
open Go.RowKit
theorem heE_two {L:Int} {j:Nat} {t:PlaceT} (hlt:t.d<2^ (j+1)):heE 2 L (2^j) t=(t.p-L).toNat+if 2^j≤t.d then 1 else 0:=by
 have h:=and_lead hlt;have hb:=lt_bits t.d j;have hle:=bitLen_le_of t.d (j+1) hlt;unfold heE
 by_cases hc:2^j≤t.d
 ·have h1: ¬bitLen t.d<j+1:=fun c=>(hb.1 c) hc
  rw[if_pos ⟨rfl,h.2 (by omega)⟩,if_pos hc]
 ·have h1:=hb.2 hc
  rw[if_neg (fun c=>by have:=h.1 c.2;omega),if_neg hc]
theorem heE_hex {L:Int} {ld:Nat} {t:PlaceT}:heE 16 L ld t=(t.p-L).toNat:=by
 unfold heE;rw[if_neg (fun c=>by have:=c.1;omega),Nat.add_zero]
theorem or_lead {f n:Nat} (h:f<2^n):f|||2^n=f+2^n:=by
 have:=Nat.two_pow_add_eq_or_of_lt h 1;rw[Nat.mul_one] at this;rw[Nat.or_comm,←this,Nat.add_comm]
theorem or_high {f n:Nat} (h1:2^n≤f) (h2:f<2^ (n+1)):f|||2^n=f:=by
 obtain⟨r,rfl⟩: ∃r,f=r+2^n:=⟨f-2^n,by omega⟩;have hr:r<2^n:=by rw[Nat.pow_succ] at h2;omega
 rw[←or_lead hr,Nat.or_assoc,Nat.or_self]
theorem mod_lead {d n:Nat} (h1:2^n≤d) (h2:d<2^ (n+1)):d % 2^n=d-2^n:=by
 rw[Nat.pow_succ] at h2;rw[Nat.mod_eq_sub_mod h1,Nat.mod_eq_of_lt (by omega)]
theorem spot_fields {k:Nat} (hk:1≤k∧k≤8) (ng:Bool) (t:PlaceT) (h1:lsI k≤t.p) (h2:t.p≤gsI k) (h0:t.d≠0) (hlt:t.d<2^ (widthN (rdN k:Int)*dgN k)) (hf:2^ (widthN (rdN k:Int)*(dgN k-1))≤t.d∨(k≤3∧t.p=lsI k)):
  heE (rdN k:Int) (lsI k) (leadN k) t<2^exN k∧clsN k ng (heE (rdN k:Int) (lsI k) (leadN k) t) (t.d % 2^frN k)=2∧plcN k (heE (rdN k:Int) (lsI k) (leadN k) t) (t.d % 2^frN k)=t.d∧plcP k (heE (rdN k:Int) (lsI k) (leadN k) t)=t.p:=by
 have hex:(k=4∨k=5)∨k=3∨(k=1∨k=2)∨(k=6∨k=7∨k=8):=by omega
 rcases hex with hx|hx|hx|hx
 ·have hR:(rdN k:Int)=16:=by rcases hx with rfl|rfl<;>rfl
  have hfr:widthN (rdN k:Int)*dgN k=frN k:=by rcases hx with rfl|rfl<;>decide
  have hrd:rdN k=16:=by rcases hx with rfl|rfl<;>rfl
  have hgl:gsI k-lsI k<128∧2^exN k=128:=by rcases hx with rfl|rfl<;>decide
  rw[hfr] at hlt;rw[hR,heE_hex,Nat.mod_eq_of_lt hlt];refine⟨by omega, ?_, ?_, ?_⟩
  ·unfold clsN
   rw[if_neg (by omega),if_pos (by omega),if_neg h0]
  ·unfold plcN
   rw[if_pos hrd]
  ·unfold plcP
   rw[if_pos hrd];omega
 ·subst hx
  have hw:widthN ((rdN 3:Nat):Int)=1:=rfl;rw[hw,Nat.one_mul] at hlt hf;have hlt':t.d<2^ (63+1):=hlt;have hf':2^63≤t.d∨(3≤3∧t.p=lsI 3):=hf;have hh:heE ((rdN 3:Nat):Int) (lsI 3) (leadN 3) t=(t.p-lsI 3).toNat+if 2^63≤t.d then 1 else 0:=heE_two (L:=lsI 3) (j:=63) hlt'
  have hm:t.d % 2^frN 3=t.d:=Nat.mod_eq_of_lt hlt';have hl3:lsI 3= -16445:=rfl;have hg3:gsI 3=16320:=rfl;have he3:2^exN 3=32768:=rfl;have ho3:onesN 3=32767:=rfl;rw[hh,hm]
  by_cases hc:2^63≤t.d
  ·rw[if_pos hc]
   refine⟨by omega, ?_, ?_, ?_⟩
   ·unfold clsN
    rw[if_pos (by omega),if_neg (by omega),if_neg (by omega),if_neg (fun c=>by have:=c.2;omega)]
   ·unfold plcN
    rw[if_neg (by decide),if_neg (by omega)];exact or_high hc hlt'
   ·unfold plcP
    rw[if_neg (by decide),if_neg (by omega)];omega
  ·have hp:=(hf'.resolve_left hc).2
   rw[if_neg hc,hp];have hz:(lsI 3-lsI 3).toNat+0=0:=by omega
   rw[hz];refine⟨by omega, ?_, ?_, ?_⟩
   ·unfold clsN
    rw[if_pos (by omega),if_pos rfl,if_neg h0]
   ·unfold plcN
    rw[if_neg (by decide),if_pos rfl]
   ·unfold plcP
    rw[if_neg (by decide),if_pos rfl]
 ·have hR:(rdN k:Int)=2:=by rcases hx with rfl|rfl<;>rfl
  have hrd: ¬rdN k=16:=by rcases hx with rfl|rfl<;>decide
  have hw:widthN (rdN k:Int)=1:=by rw[hR];rfl
  have hfr:dgN k=frN k+1:=by rcases hx with rfl|rfl<;>decide
  have hld:leadN k=2^frN k:=by rcases hx with rfl|rfl<;>rfl
  have hgl:gsI k-lsI k+1< (onesN k:Int)∧2^exN k=onesN k+1:=by rcases hx with rfl|rfl<;>decide
  rw[hw,Nat.one_mul,hfr] at hlt hf;rw[Nat.add_sub_cancel] at hf;rw[hR,hld,heE_two hlt]
  by_cases hc:2^frN k≤t.d
  ·rw[if_pos hc,mod_lead hc hlt]
   have hr:t.d-2^frN k<2^frN k:=by rw[Nat.pow_succ] at hlt;omega
   refine⟨by omega, ?_, ?_, ?_⟩
   ·unfold clsN
    rw[if_pos (by omega),if_neg (by omega),if_neg (by omega),if_neg (fun c=>by have:=c.1;omega)]
   ·unfold plcN
    rw[if_neg hrd,if_neg (by omega),hld,or_lead hr];omega
   ·unfold plcP
    rw[if_neg hrd,if_neg (by omega)];omega
  ·have hp:=(hf.resolve_left hc).2
   rw[if_neg hc,hp,Nat.mod_eq_of_lt (by omega)];have hz:(lsI k-lsI k).toNat+0=0:=by omega
   rw[hz];refine⟨by omega, ?_, ?_, ?_⟩
   ·unfold clsN
    rw[if_pos (by omega),if_pos rfl,if_neg h0]
   ·unfold plcN
    rw[if_neg hrd,if_pos rfl]
   ·unfold plcP
    rw[if_neg hrd,if_pos rfl]
 ·have hR:(rdN k:Int)=2:=by rcases hx with rfl|rfl|rfl<;>rfl
  have hrd: ¬rdN k=16:=by rcases hx with rfl|rfl|rfl<;>decide
  have hw:widthN (rdN k:Int)=1:=by rw[hR];rfl
  have hfr:dgN k=frN k+1:=by rcases hx with rfl|rfl|rfl<;>decide
  have hld:leadN k=2^frN k:=by rcases hx with rfl|rfl|rfl<;>rfl
  have hgl:gsI k-lsI k+1< (2^exN k:Nat):=by rcases hx with rfl|rfl|rfl<;>decide
  rw[hw,Nat.one_mul,hfr] at hlt hf;rw[Nat.add_sub_cancel] at hf;have hc:2^frN k≤t.d:=hf.resolve_right (fun c=>by have:=c.1;omega)
  rw[hR,hld,heE_two hlt,if_pos hc,mod_lead hc hlt];have hr:t.d-2^frN k<2^frN k:=by rw[Nat.pow_succ] at hlt;omega
  refine⟨by omega, ?_, ?_, ?_⟩
  ·unfold clsN
   rw[if_neg (by omega),if_neg (by omega),if_neg (by omega)]
  ·unfold plcN
   rw[if_neg hrd,if_neg (by omega),hld,or_lead hr];omega
  ·unfold plcP
   rw[if_neg hrd,if_neg (by omega)];omega
end Go.Proofs.YtnhackdjplppjaaGreatDoor
namespace Go.Proofs.YtnhackdjplppjaaGreatDoor
open Go.RowKit
structure DecF (w:World) (bn bf:Nat) (ng:Bool) (fv:List Value) (w':World):Prop where
 q:LocE w' w.heap.size 32 (yoL 0 false false (.slice none 0 0) 0)
 f:LocE w' bf 58 fv
 n:LocE w' bn 4 [.bool ng]
 b:Below w.heap.size w w'
theorem DecF.later {w w1 w2:World} {bn bf:Nat} {ng:Bool} {fv:List Value} (h:DecF w bn bf ng fv w1) (b:Below w1.heap.size w1 w2):DecF w bn bf ng fv w2:=
 ⟨h.q.later b,h.f.later b,h.n.later b,below_trans h.b b⟩
end Go.Proofs.YtnhackdjplppjaaGreatDoor
namespace Go.Proofs.YtnhackdjplppjaaGreatDoor
open Go.RowKit
set_option maxHeartbeats 3200000 in
theorem class_W (n:Int) (R sz ex:Nat) (D L G fam:Int) (gr:Bool) (F:Nat) (ng:Bool) (e f:Nat) (c:Int) (s:ByteArray) (w:World)
  (HR: ∀w1,Calls Tryz.prog 95 #[yi n,.string s] w1 fun z w'=>z= .returned (.tuple #[ylV (R:Int) D L G gr (sz:Int) (ex:Int) fam F,yfV ng (e:Int) (f:Int),yi 0])∧Below w1.heap.size w1 w')
  (HC: ∀w1,Calls Tryz.prog 149 #[ylV (R:Int) D L G gr (sz:Int) (ex:Int) fam F,yfV ng (e:Int) (f:Int)] w1 fun z w'=>z= .returned (yi c)∧Below w1.heap.size w1 w'):
  Calls Tryz.prog 94 #[yi n,.string s] w fun z w'=>z= .returned (.tuple #[yi c,.bool ng,yi 0])∧Below w.heap.size w w':=by
 have hsf:=hsf_z;have HR':Hid _:=HR;have HC':Hid _:=HC;clear HR HC
 go_enter Tryz.func94,Tryz.ntmps94
 go_wp2_with fail
 refine(HR'.out _).mono ?_;rintro z w1 ⟨rfl,b1⟩;have bl:=below_alloc w1 (.cells (ylL (R:Int) D L G gr (sz:Int) (ex:Int) fam F).toArray 144);have bf:=below_alloc (w1.alloc (.cells (ylL (R:Int) D L G gr (sz:Int) (ex:Int) fam F).toArray 144)) (.cells (yfL ng (e:Int) (f:Int)).toArray 147);have l0:=((locE_new w1 (ylL (R:Int) D L G gr (sz:Int) (ex:Int) fam F) 144).later bf).drew;have m0:=(locE_new (w1.alloc (.cells (ylL (R:Int) D L G gr (sz:Int) (ex:Int) fam F).toArray 144)) (yfL ng (e:Int) (f:Int)) 147).drew;rw[World.size_alloc] at m0;have b0:=(below_trans (below_trans b1 bl) bf).drew;obtain⟨x0,x1,x2,x3,x4,x5,x6,x7,x8⟩:=l0.cs9;obtain⟨u0,u1,u2⟩:=m0.cs3
 go_wp2_with fail
 go_region_held3 (fun wq=>(wq.cell? ⟨w1.heap.size,0,none⟩=some (yi (R:Int))∧wq.cell? ⟨w1.heap.size,1,none⟩=some (yi D)∧wq.cell? ⟨w1.heap.size,2,none⟩=some (yi L)∧wq.cell? ⟨w1.heap.size,3,none⟩=some (yi G)∧wq.cell? ⟨w1.heap.size,4,none⟩=some (.bool gr)∧wq.cell? ⟨w1.heap.size,5,none⟩=some (yi (sz:Int))∧wq.cell? ⟨w1.heap.size,6,none⟩=some (yi (ex:Int))∧wq.cell? ⟨w1.heap.size,7,none⟩=some (yi fam)∧wq.cell? ⟨w1.heap.size,8,none⟩=some (.func (.func F) #[] #[]))∧(wq.cell? ⟨w1.heap.size+1,0,none⟩=some (.bool ng)∧wq.cell? ⟨w1.heap.size+1,1,none⟩=some (yi (e:Int))∧wq.cell? ⟨w1.heap.size+1,2,none⟩=some (.int .u64 (f:Int)))) (go_keep) (first
  | (go_at_call 149;refine(HC'.out _).mono ?_;rintro z w2 ⟨rfl,b2⟩;have l2:=l0.later b2;have m2:=m0.later b2;have b02:=below_trans b0 b2;obtain⟨y0,y1,y2,y3,y4,y5,y6,y7,y8⟩:=l2.cs9;obtain⟨v0,v1,v2⟩:=m2.cs3))
 all_goals go_wp2
 all_goals go_ret3
 all_goals exact⟨rfl,b02⟩
set_option maxHeartbeats 3200000 in
theorem class_err (n:Int) (er:Int) (her:er≠0) (s:ByteArray) (w:World)
  (HR: ∀w1,Calls Tryz.prog 95 #[yi n,.string s] w1 fun z w'=>z= .returned (.tuple #[yzV 0 0 0 0 false 0 0 0,yfV false 0 0,yi er])∧Below w1.heap.size w1 w'):
  Calls Tryz.prog 94 #[yi n,.string s] w fun z w'=>z= .returned (.tuple #[yi 0,.bool false,yi er])∧Below w.heap.size w w':=by
 have hsn:=hsn_z;have HR':Hid _:=HR;have he:(er==0)=false:=by simpa using her
 clear HR her
 go_enter Tryz.func94,Tryz.ntmps94
 go_wp2_with fail
 refine(HR'.out _).mono ?_;rintro z w1 ⟨rfl,b1⟩;have bl:=below_alloc w1 (.cells (yzL 0 0 0 0 false 0 0 0).toArray 144);have bf:=below_alloc (w1.alloc (.cells (yzL 0 0 0 0 false 0 0 0).toArray 144)) (.cells (yfL false 0 0).toArray 147);have b0:=below_trans (below_trans b1 bl) bf
 go_wp2
 go_ret3
 exact⟨rfl,b0⟩
def clsG (n:Int) (s:ByteArray):Bool:=if patC n s=0 then fldN n.toNat s else false
theorem class_any (n:Int) (s:ByteArray) (w:World):Calls Tryz.prog 94 #[yi n,.string s] w fun z w'=>z= .returned (.tuple #[yi ((decC n s:Nat):Int),.bool (clsG n s),yi (patC n s)])∧Below w.heap.size w w':=by
 unfold decC clsG
 by_cases h:patC n s=0
 ·rw[if_pos h,if_pos h]
  have hf:famC n≠0:=fun hf=>by
   unfold patC at h;rw[if_pos hf] at h;omega
  obtain⟨h1,h2,h3⟩:=famC_in hf;have HR:=fun w1=>codecRead_ok n s w1 h
  have HC:=fun w1=>lclass_any n.toNat ⟨h1,h2⟩ (fldN n.toNat s) (fldE n.toNat s) (fldF n.toNat s) w1 (fldF_small ⟨h1,h2⟩ s)
  rw[h];generalize n.toNat=k at*;generalize clsN k (fldN k s) (fldE k s) (fldF k s)=c at*;generalize fldN k s=ng at*;generalize fldE k s=e at*;generalize fldF k s=f at*
  rcases eight ⟨h1,h2⟩ with rfl|rfl|rfl|rfl|rfl|rfl|rfl|rfl
  all_goals exact class_W _ _ _ _ _ _ _ _ _ _ ng e f _ s w HR HC
 ·rw[if_neg h,if_neg h]
  exact class_err n _ h s w (fun w1=>codecRead_bad n s w1 h)
end Go.Proofs.YtnhackdjplppjaaGreatDoor
namespace Go.Proofs.YtnhackdjplppjaaGreatDoor
open Go.RowKit
def patA:ByteArray:=strOf [64,64,0,0]
def patB:ByteArray:=strOf [0,128,0,0]
theorem patA_ok:patC 1 patA=0∧decC 1 patA=2∧decG 1 patA=false∧decM 1 patA=3∧decP 1 patA=0:=by
 refine⟨?_, ?_, ?_, ?_, ?_⟩<;>kernel_rfl
theorem patB_ok:encOE 6 5 0 0 false 0=0∧encOS 6 5 0 0 false 0=patB:=by
 refine⟨?_, ?_⟩<;>kernel_rfl
theorem dg3:Dg.dg 4294967296 3=[3]:=by
 have:=Dg.dg_vl 4294967296 (by omega) [3] (fun i=>by
  match i with
  |0=>decide
  |i+1=>simp) (fun _=>by simp)
 simpa[Dg.vl] using this
theorem made_run {P:Program} (W:World) (e src dst:TypeId) (zs:List Nat) (hs:P.underlying src=some (.slice e)) (he:P.underlying e=some (.int .u8)) (hd:P.underlying dst=some .string) (hm:zs.length≤maxLen):
  (convert src dst (.slice (some ⟨W.heap.size,0,none⟩) zs.length zs.length)).run P (W.alloc (.cells (zs.map (fun n:Nat=>Value.int .u8 (n:Int))).toArray e))= .ok (.string (strOf zs)) (W.alloc (.cells (zs.map (fun n:Nat=>Value.int .u8 (n:Int))).toArray e)):=
 convert_bytes src dst hs he hd (own_of_heap (base:=W.heap.size) (heap_alloc_new _ _) (Nat.le_refl _) hm)
set_option maxHeartbeats 6400000 in
theorem codecBegun_any (w:World):Calls Tryz.prog 49 #[] w fun z w'=>z= .returned (.bool true)∧Below w.heap.size w w':=by
 have hcA: ∀W:World,(convert 110 9 (.slice (some ⟨W.heap.size,0,none⟩) 4 4)).run Tryz.prog (W.alloc (.cells #[.int .u8 64,.int .u8 64,.int .u8 0,.int .u8 0] 5))= .ok (.string patA) (W.alloc (.cells #[.int .u8 64,.int .u8 64,.int .u8 0,.int .u8 0] 5)):=fun W=>made_run W 5 110 9 [64,64,0,0] Tryz.underlying110 Tryz.underlying5 Tryz.underlying9 (by unfold maxLen;simp)
 have hcB: ∀W:World,(convert 110 9 (.slice (some ⟨W.heap.size,0,none⟩) 4 4)).run Tryz.prog (W.alloc (.cells #[.int .u8 0,.int .u8 128,.int .u8 0,.int .u8 0] 5))= .ok (.string patB) (W.alloc (.cells #[.int .u8 0,.int .u8 128,.int .u8 0,.int .u8 0] 5)):=fun W=>made_run W 5 110 9 [0,128,0,0] Tryz.underlying110 Tryz.underlying5 Tryz.underlying9 (by unfold maxLen;simp)
 have HD:Hid (∀w1,Calls Tryz.prog 43 #[yi 1,.string patA] w1 (DecRes w1 2 false 3 0 0)):=fun w1=>by
  have:=decode_any 1 patA w1;obtain⟨h1,h2,h3,h4,h5⟩:=patA_ok;rw[h1,h2,h3,h4,h5] at this;exact this
 have HE:Hid (∀w1,Calls Tryz.prog 44 #[yi 6,yvV 5 false (.slice none 0 0) 0] w1 fun z w'=>z= .returned (.tuple #[.string patB,yi 0])∧Below w1.heap.size w1 w'):=fun w1=>by
  have:=encode_other 6 5 (by omega) false none 0 0 0 0 w1 (fun w2 _=>(check_any _ [] w2 (rd_nil _ _)).mono (fun _ _ h=>⟨h.1,by rw[h.2];exact Below.refl _ _⟩))
  rw[patB_ok.1,patB_ok.2] at this;exact this
 generalize patA=pA at*;generalize patB=pB at*;have b1:=below_alloc w (.cells #[.int .u8 64,.int .u8 64,.int .u8 0,.int .u8 0] 5)
 go_enter Tryz.func49,Tryz.ntmps49
 go_wp2_with fail
 refine(HD.out _).mono ?_;rintro z w2 ⟨v,rfl,r2,b2⟩;rw[dg3] at r2;obtain⟨vo,vc,hv⟩:=r2.shape;subst hv;have b3:=below_alloc w2 (.cells (yvL 2 false (.slice vo 1 vc) 0).toArray 73);have q3:=locE_new w2 (yvL 2 false (.slice vo 1 vc) 0) 73;have b03:=below_trans (below_trans b1 b2) b3;have r3:=r2.later b3
 go_wp2_with fail
 refine(HE.out _).mono ?_;rintro z w4 ⟨rfl,b4⟩;have q4:=q3.later b4;have r4:=r3.later b4;have b04:=below_trans b03 b4;obtain⟨x0,x1,x2,x3⟩:=q4.cs4;have b5:=below_alloc w4 (.cells #[.int .u32 3] 141);have own5:Own (w4.alloc (.cells #[.int .u32 3] 141)) w4.heap.size 141 .u32 (.slice (some ⟨w4.heap.size,0,none⟩) 1 1) [3]:=own_of_heap (zs:=[3]) (heap_alloc_new _ _) (Nat.le_refl _) (by unfold maxLen;simp);have hsn:=same_any _ _ _ [3] (w4.alloc (.cells #[.int .u32 3] 141)) (r4.later b5) own5.rd;have HN:Hid _:=hsn;have b05:=below_trans b04 b5;have hx0:=World.new_ne w4 _ x0;clear b1 b2 b3 b03 r2 r3 q3 HD HE hsn r4 b4 b04 own5
 go_wp2_with fail
 refine Calls.mono HN.out ?_;rintro z w6 ⟨rfl,b6⟩;have y3:=(q4.later b5).later b6|>.cell 3 rfl
 have b06:=below_trans b05 b6
 go_wp2
 go_ret
 exact⟨rfl,below_trans b06 (below_alloc _ _)⟩
end Go.Proofs.YtnhackdjplppjaaGreatDoor
namespace Go.Proofs.YtnhackdjplppjaaGreatDoor
open Go.RowKit
def refG (k:Nat) (ng:Bool) (E FF:Nat):Bool:=
 if k=3 then(if E+1=2^exN k then(if FF=2^ (dgN k-1) then ng else false) else if 0<E∧FF<2^ (dgN k-1) then false else ng)
 else if k≤2 then(if E+1=2^exN k then(if FF=0 then ng else false) else ng)
 else if k≤5 then ng
 else(if E=0 then false else ng)
def refT (k:Nat) (ng:Bool) (E FF:Nat):Trip:=
 if k=3 then(if E+1=2^exN k∨0<E∧FF<2^ (dgN k-1) then⟨false,0,0⟩ else bare ⟨ng,FF,wdI (rdN k:Int)*(lsI k+(((E-1:Nat):Nat):Int))⟩)
 else if k≤2 then(if E+1=2^exN k then⟨false,0,0⟩ else bare ⟨ng,FF+(if 0<E then 2^ (dgN k-1) else 0),wdI (rdN k:Int)*(lsI k+(((E-1:Nat):Nat):Int))⟩)
 else if k≤5 then bare ⟨ng,FF,wdI (rdN k:Int)*(lsI k+(E:Int))⟩
 else(if E=0 then⟨false,0,0⟩ else bare ⟨ng,FF+2^ (dgN k-1),wdI (rdN k:Int)*(lsI k+(E:Int)-1)⟩)
end Go.Proofs.YtnhackdjplppjaaGreatDoor
namespace Go.Proofs.YtnhackdjplppjaaGreatDoor
open Go.RowKit
theorem strip_eq (r:Nat) (hr:2≤r): ∀(j n q:Nat) (p:Int),q % r≠0→r^j*q<2^n→stripF r n (r^j*q) p=(q,p+(j:Int))
 |0,n,q,p,hq,hn=>by
  rw[Nat.pow_zero,Nat.one_mul] at hn⊢
  cases n with
  |zero=>
   have:q=0:=by simpa using hn
   subst this;simp at hq
  |succ n=>
   rw[stripF,if_neg hq];simp
 |j+1,n,q,p,hq,hn=>by
  have e1:r^ (j+1)*q=r*(r^j*q):=by rw[Nat.pow_succ,Nat.mul_comm (r^j) r,Nat.mul_assoc]
  rw[e1] at hn⊢
  cases n with
  |zero=>
   exfalso
   have h0:r*(r^j*q)=0:=by simpa using hn
   have hq0:q≠0:=fun h=>hq (by rw[h];simp)
   have h1:0<r^j*q:=Nat.mul_pos (Nat.pow_pos (by omega)) (Nat.pos_of_ne_zero hq0);have h2:0<r*(r^j*q):=Nat.mul_pos (by omega) h1;omega
  |succ n=>
   rw[stripF,if_pos (Nat.mul_mod_right _ _),Nat.mul_div_cancel_left _ (by omega)];have hlt:r^j*q<2^n:=by
    have h2:2*(r^j*q)≤r*(r^j*q):=Nat.mul_le_mul_right _ hr;rw[Nat.pow_succ] at hn;omega
   rw[strip_eq r hr j n q (p+1) hq hlt]
   congr 1
   push_cast
   omega
theorem or_add {f n:Nat} (h:f<2^n):f|||2^n=f+2^n:=by
 rw[Nat.or_comm,nat_join n (2^n) f (Nat.mod_self _) h];omega
theorem or_top {f n:Nat} (h1:2^n≤f) (h2:f<2^ (n+1)):f|||2^n=f:=by
 rw[Nat.pow_succ] at h2;have e:f=2^n||| (f-2^n):=by
  rw[nat_join n (2^n) (f-2^n) (Nat.mod_self _) (by omega)];omega
 rw[e,Nat.or_comm,←Nat.or_assoc,Nat.or_self]
theorem refT_num {k:Nat} (hk:1≤k∧k≤8) {ng:Bool} {E F:Nat} (hE:E<2^exN k) (hF:F<2^frN k) (hc:clsN k ng E F=2):refT k ng E F=bare ⟨ng,plcN k E F,wdI (rdN k:Int)*plcP k E⟩:=by
 unfold refT
 by_cases h3:k=3
 ·subst h3
  rw[if_pos rfl];unfold clsN at hc;rw[if_pos (show 3≤3 by omega),show onesN 3=2^exN 3-1 from rfl] at hc
  have hp:2≤2^exN 3:=by decide
  have hF':F<2^64:=hF;have hlead:leadN 3=2^63:=rfl;unfold plcN plcP;rw[if_neg (show¬rdN 3=16 by decide),if_neg (show¬rdN 3=16 by decide),hlead]
  generalize(2:Nat)^exN 3=px at*
  by_cases e0:E=0
  ·rw[if_neg (show¬(E+1=px∨0<E∧F<2^ (dgN 3-1)) by omega),if_pos e0,if_pos e0]
   subst e0;simp
  ·rw[if_neg e0] at hc
   by_cases e1:E=px-1
   ·rw[if_pos e1] at hc
    by_cases hz:F=(if 3=3 then 2^63 else 0)
    ·rw[if_pos hz] at hc
     omega
    ·rw[if_neg hz] at hc
     omega
   ·rw[if_neg e1] at hc
    have hf: ¬F<2^63:=fun hf=>by
     rw[if_pos ⟨rfl,hf⟩] at hc;omega
    rw[if_neg (show¬(E+1=px∨0<E∧F<2^ (dgN 3-1)) from fun h=>by
     rcases h with h|h
     ·omega
     ·exact hf h.2),if_neg e0,if_neg e0,or_top (by omega) hF',show lsI 3+(((E-1:Nat):Nat):Int)=lsI 3+(E:Int)-1 from by omega]
 ·rw[if_neg h3]
  by_cases h2:k≤2
  ·rw[if_pos h2]
   have hfd:frN k=dgN k-1∧rdN k=2∧2≤2^exN k:=by rcases(show k=1∨k=2 by omega) with rfl|rfl<;>decide
   unfold clsN at hc;rw[if_pos (show k≤3 by omega),show onesN k=2^exN k-1 from rfl,if_neg h3] at hc
   rw[hfd.1] at hF;unfold plcN plcP;rw[if_neg (show¬rdN k=16 by omega),if_neg (show¬rdN k=16 by omega)]
   have hp:=hfd.2.2;have hL:leadN k=2^ (dgN k-1):=rfl;rw[hL]
   by_cases e0:E=0
   ·rw[if_neg (show¬E+1=2^exN k by omega),if_pos e0,if_pos e0,if_neg (show¬0<E by omega)]
    subst e0;simp
   ·rw[if_neg e0] at hc
    by_cases e1:E=2^exN k-1
    ·rw[if_pos e1] at hc
     split at hc<;>omega
    ·rw[if_neg (show¬E+1=2^exN k by omega),if_neg e0,if_neg e0,if_pos (show 0<E by omega),or_add hF,show lsI k+(((E-1:Nat):Nat):Int)=lsI k+(E:Int)-1 from by omega]
  ·rw[if_neg h2]
   by_cases h5:k≤5
   ·rw[if_pos h5]
    have hr:rdN k=16:=by rcases(show k=4∨k=5 by omega) with rfl|rfl<;>rfl
    unfold plcN plcP;rw[if_pos hr,if_pos hr]
   ·rw[if_neg h5]
    have hfd:frN k=dgN k-1∧rdN k=2:=by rcases(show k=6∨k=7∨k=8 by omega) with rfl|rfl|rfl<;>decide
    rw[hfd.1] at hF;unfold clsN at hc;rw[if_neg (show¬k≤3 by omega),if_neg h5] at hc
    have e0:E≠0:=fun e0=>by
     rw[if_pos e0] at hc
     split at hc<;>omega
    unfold plcN plcP;rw[if_neg (show¬rdN k=16 by omega),if_neg (show¬rdN k=16 by omega),if_neg e0,if_neg e0,if_neg e0,show leadN k=2^ (dgN k-1) from rfl,or_add hF]
theorem val2 {k:Nat} (hk:1≤k∧k≤8) {ng:Bool} {E F:Nat} (hE:E<2^exN k) (hF:F<2^frN k) (hF64:F<2^64) (hc:clsN k ng E F=2) (hr:rdN k=2):
  valM k ng E F=(refT k ng E F).n∧valP k ng E F=(refT k ng E F).e:=by
 rw[refT_num hk hE hF hc];unfold valM valP;rw[if_pos hc,if_pos hc,hr];have h0:=plcN_pos hc;have hl:=plcN_lt hk E hF64;generalize plcN k E F=D at*;generalize plcP k E=P at*;obtain⟨m,hm⟩:=tz_spec (n:=D) (by omega);have hd:=div_tz hm;have hs:=strip_eq 2 (by omega) (tz D) 64 (2*m+1) P (by omega) (by rw[←hm];exact hl);rw[←hm] at hs;rw[hs];unfold bare;rw[if_neg (by show¬D=0;omega)]
 refine⟨hd.symm, ?_⟩
 show P+(tz D:Int)=wdI ((2:Nat):Int)*P+(tz D:Int)
 rw[show wdI ((2:Nat):Int)=1 from by decide,Int.one_mul]
theorem val16 {k:Nat} (hk:1≤k∧k≤8) {ng:Bool} {E F:Nat} (hE:E<2^exN k) (hF:F<2^frN k) (hF64:F<2^64) (hc:clsN k ng E F=2) (hr:rdN k=16):
  4*valP k ng E F≤(refT k ng E F).e∧(refT k ng E F).e<4*valP k ng E F+4∧valM k ng E F=shN (refT k ng E F).n ((refT k ng E F).e-4*valP k ng E F):=by
 rw[refT_num hk hE hF hc];unfold valM valP;rw[if_pos hc,if_pos hc,hr];have h0:=plcN_pos hc;have hl:=plcN_lt hk E hF64;generalize plcN k E F=D at*;generalize plcP k E=P at*;obtain⟨m,hm⟩:=tz_spec (n:=D) (by omega);have hd:=div_tz hm;obtain⟨a,b,hab,hb⟩: ∃a b,tz D=4*a+b∧b<4:=⟨tz D/4,tz D % 4,by omega,Nat.mod_lt _ (by omega)⟩;have e16:D=16^a*(2^b*(2*m+1)):=by
  rw[hm,hab,Nat.pow_add,Nat.pow_mul,Nat.mul_assoc]
 have hq:2^b*(2*m+1) % 16≠0:=by
  rcases(show b=0∨b=1∨b=2∨b=3 by omega) with rfl|rfl|rfl|rfl<;>omega
 have hs:=strip_eq 16 (by omega) a 64 (2^b*(2*m+1)) P hq (by rw[←e16];exact hl);rw[←e16] at hs;rw[hs];unfold bare;rw[if_neg (by show¬D=0;omega),show wdI ((16:Nat):Int)=4 from by decide]
 simp only;rw[hab];refine⟨by push_cast;omega,by push_cast;omega, ?_⟩;rw[show 4*P+((4*a+b:Nat):Int)-4*(P+(a:Int))=(b:Int) from by push_cast;omega]
 unfold shN;rw[if_neg (by omega),Int.toNat_natCast,←hab,hd,Nat.mul_comm]
end Go.Proofs.YtnhackdjplppjaaGreatDoor
namespace Go.Proofs.YtnhackdjplppjaaGreatDoor
open Go.RowKit
structure EnF (w:World) (bf:Nat) (vv fl:List Value) (W:World):Prop where
 v:LocE W w.heap.size 73 vv
 z:LocE W (w.heap.size+1) 32 (yoL 0 false false (.slice none 0 0) 0)
 f:LocE W bf 58 fl
 b:Below w.heap.size w W
theorem EnF.later {w W W':World} {bf:Nat} {vv fl:List Value} (h:EnF w bf vv fl W) (b:Below W.heap.size W W'):EnF w bf vv fl W':=
 ⟨h.v.later b,h.z.later b,h.f.later b,below_trans h.b b⟩
theorem EnF.lt {w W:World} {bf:Nat} {vv fl:List Value} (h:EnF w bf vv fl W):w.heap.size+1<W.heap.size∧bf<W.heap.size:=⟨h.z.lt,h.f.lt⟩
end Go.Proofs.YtnhackdjplppjaaGreatDoor
namespace Go.Proofs.YtnhackdjplppjaaGreatDoor
open Go.RowKit
def encE (n c:Int) (ng:Bool) (xs:List Nat) (p:Int):Int:=
 if famC n=0∨c<1∨5<c then 6 else if chk xs≠0 then chk xs else if c=2 then enE n.toNat ng xs p else othE n.toNat c.toNat xs.length ng p
def encS (n c:Int) (ng:Bool) (xs:List Nat) (p:Int):ByteArray:=
 if famC n=0∨c<1∨5<c then⟨#[]⟩ else if chk xs≠0 then⟨#[]⟩ else if c=2 then enS n.toNat ng xs p else othS n.toNat c.toNat xs.length ng p
theorem encode_any (n c:Int) (ng:Bool) (ao:Option Addr) (ca:Nat) (xs:List Nat) (p:Int) (w:World) (hr:Rd w .u32 (.slice ao xs.length ca) xs) (sa:Dg.Small 4294967296 xs) (hT:Tab w):
  Calls Tryz.prog 44 #[yi n,yvV c ng (.slice ao xs.length ca) p] w fun z w'=>z= .returned (.tuple #[.string (encS n c ng xs p),yi (encE n c ng xs p)])∧Below w.heap.size w w':=by
 have HN: ∀w1,Below w.heap.size w w1→Calls Tryz.prog 98 #[.slice ao xs.length ca] w1 fun z w'=>z= .returned (yi (chk xs))∧Below w1.heap.size w1 w':=fun w1 b=>(check_any _ xs w1 (hr.later b)).mono (fun _ _ h=>⟨h.1,by rw[h.2];exact Below.refl _ _⟩)
 unfold encE encS
 by_cases hf:famC n=0
 ·rw[if_pos (.inl hf),if_pos (.inl hf)]
  exact enc_none n c p ng ao xs.length ca w (fun w1=>layoutOf_none n w1 hf)
 ·obtain⟨h1,h2,h3⟩:=famC_in hf
  obtain⟨k,rfl⟩: ∃k:Nat,n=(k:Int):=⟨n.toNat,h3.symm⟩;rw[Int.toNat_natCast] at h1 h2⊢;have HL:=fun w1=>layoutOf_any k ⟨h1,h2⟩ w1
  by_cases hc1:c<1
  ·rw[if_pos (.inr (.inl hc1)),if_pos (.inr (.inl hc1))]
   rcases eight ⟨h1,h2⟩ with rfl|rfl|rfl|rfl|rfl|rfl|rfl|rfl
   all_goals exact enc_low _ _ _ _ _ _ _ _ _ _ c p ng ao xs.length ca w HL hc1
  ·by_cases hc5:5<c
   ·rw[if_pos (.inr (.inr hc5)),if_pos (.inr (.inr hc5))]
    rcases eight ⟨h1,h2⟩ with rfl|rfl|rfl|rfl|rfl|rfl|rfl|rfl
    all_goals exact enc_high _ _ _ _ _ _ _ _ _ _ c p ng ao xs.length ca w HL hc5
   ·have hno: ¬(famC (k:Int)=0∨c<1∨5<c):=by
     rintro(h|h|h)
     ·exact hf h
     ·exact hc1 h
     ·exact hc5 h
    rw[if_neg hno,if_neg hno]
    by_cases hn:chk xs=0
    ·rw[if_neg (show¬chk xs≠0 from fun h=>h hn),if_neg (show¬chk xs≠0 from fun h=>h hn)]
     by_cases hc2:c=2
     ·subst hc2
      rw[if_pos rfl,if_pos rfl];have HO:=fun w1 (b:Below w.heap.size w w1)=>encodeNumber_any k ⟨h1,h2⟩ ng ao ca xs p w1 (hr.later b) sa hn (hT.later b)
      generalize enS k ng xs p=st at*;generalize enE k ng xs p=er at*
      rcases eight ⟨h1,h2⟩ with rfl|rfl|rfl|rfl|rfl|rfl|rfl|rfl
      all_goals exact enc_number _ _ _ _ _ _ _ _ _ _ p ng ao xs.length ca w HL _ HN st er HO hn
     ·rw[if_neg hc2,if_neg hc2]
      obtain⟨m,hm⟩: ∃m:Nat,c=(m:Int):=⟨c.toNat,by omega⟩;subst hm;rw[Int.toNat_natCast];have HO:=fun w1=>encodeOther_any k m ⟨h1,h2⟩ (by omega) ng ao xs.length ca p w1
      generalize othS k m xs.length ng p=st at*;generalize othE k m xs.length ng p=er at*
      rcases eight ⟨h1,h2⟩ with rfl|rfl|rfl|rfl|rfl|rfl|rfl|rfl
      all_goals exact enc_other _ _ _ _ _ _ _ _ _ _ _ p ng ao xs.length ca w HL _ HN st er HO (by omega) (by omega) (by omega) hn
    ·rw[if_pos hn,if_pos hn]
     rcases eight ⟨h1,h2⟩ with rfl|rfl|rfl|rfl|rfl|rfl|rfl|rfl
     all_goals exact enc_digits _ _ _ _ _ _ _ _ _ _ c p ng ao xs.length ca w HL _ HN (by omega) (by omega) hn
end Go.Proofs.YtnhackdjplppjaaGreatDoor
namespace Go.Proofs.YtnhackdjplppjaaGreatDoor
open Go.RowKit
theorem fmt_ends {k:Nat} (hk:1≤k∧k≤8): -16445≤(widthN (rdN k:Int):Int)*lsI k∧(widthN (rdN k:Int):Int)*(gsI k+(dgN k:Int))≤16384:=by
 rcases eight hk with rfl|rfl|rfl|rfl|rfl|rfl|rfl|rfl<;>decide
theorem num_held {k:Nat} (hk:1≤k∧k≤8) {ng:Bool} {xs:List Nat} {p:Int} (hc:chk xs=0) (hx:xs.length≠0) (hp: ¬(p< -20000∨20000<p)):
  enE k ng xs p=if inR (rdN k:Int) (dgN k:Int) (lsI k) (gsI k) (decide (k≤3)) (bare ⟨ng,Dg.vl 4294967296 xs,(widthN (rdN k:Int):Int)*p⟩).n (bare ⟨ng,Dg.vl 4294967296 xs,(widthN (rdN k:Int):Int)*p⟩).e=true then 0 else 4:=by
 obtain⟨f1,f2,f3,f4,f5,f6,f7,f8,f9,f10,f11,hgc⟩:=fmt_fit hk;obtain⟨g1,g2⟩:=fmt_ends hk;have hvn:Dg.vl 4294967296 xs≠0:=fun h=>by
  obtain⟨n1,-⟩:=chk_zero hc;exact Dg.vl_ne_zero 4294967296 (by omega) xs (by intro e;subst e;simp at hx) n1 h
 have hpl:placeC xs p (rdN k:Int) (dgN k:Int) (lsI k) (gsI k)=0:=by
  unfold placeC;rw[if_pos hc,if_pos hgc,if_neg];unfold farB;simp;omega
 have hen:enN k ng xs p=shortT ⟨ng,Dg.vl 4294967296 xs,(widthN (rdN k:Int):Int)*p⟩:=by
  unfold enN dbothR;rw[if_pos hpl]
 unfold enE;rw[if_neg hp,if_neg hx,hen];have hbn:(bare ⟨ng,Dg.vl 4294967296 xs,(widthN (rdN k:Int):Int)*p⟩).n≠0:=fun h=>hvn ((bareN_nil _).1 h)
 generalize htt:(⟨ng,Dg.vl 4294967296 xs,(widthN (rdN k:Int):Int)*p⟩:Trip)=t at*;have hin: ∀hh: ¬1200< (Dg.dg 4294967296 (bare t).n).length,∀h2: ¬((bare t).e< -20000∨20000< (bare t).e),enH k (bare t)=inR (rdN k:Int) (dgN k:Int) (lsI k) (gsI k) (decide (k≤3)) (bare t).n (bare t).e:=fun hh h2=>by
  unfold enH ansH;have hd:dchk (Dg.dg 4294967296 (bare t).n) (bare t).e=0:=by
   unfold dchk;rw[if_pos (chk_of (Dg.norm_dg 4294967296 (bare t).n (by omega)) (by omega)),if_neg h2]
  have hon:onC (dchk (Dg.dg 4294967296 (bare t).n) (bare t).e) (gridC (rdN k:Int) (dgN k:Int) (lsI k) (gsI k))=0:=by unfold onC;rw[if_pos hd];exact hgc
  rw[if_pos hon,Dg.vl_dg _ _ (by omega),held_bare _ _ f7,held_in _ _ f7]
 by_cases hi:inR (rdN k:Int) (dgN k:Int) (lsI k) (gsI k) (decide (k≤3)) (bare t).n (bare t).e=true
 ·rw[if_pos hi]
  have hq:(widthN (rdN k:Int):Int)*lsI k≤(bare t).e∧(bare t).e+(bitLen (bare t).n:Int)≤(widthN (rdN k:Int):Int)*(gsI k+(dgN k:Int)):=by
   have:=hi;unfold inR at this
   rcases of_decide_eq_true this with h|h
   ·exact absurd h hbn
   ·exact⟨h.1,h.2.1⟩
  have hlen: ¬1200< (Dg.dg 4294967296 (bare t).n).length:=by
   have:=two_len (d:=(bare t).n) (k:=bitLen (bare t).n) (L:=1200) (bitLen_spec _).1 (by omega);omega
  have h2: ¬((bare t).e< -20000∨20000< (bare t).e):=by omega
  have hsh:shortT t=(bare t,0):=by unfold shortT;rw[if_neg hlen,if_neg h2]
  rw[hsh,if_pos ⟨rfl,by rw[hin hlen h2];exact hi⟩]
 ·rw[if_neg hi,if_neg]
  rintro⟨h1,h3⟩;unfold shortT at h1 h3
  by_cases hlen:1200< (Dg.dg 4294967296 (bare t).n).length
  ·rw[if_pos hlen] at h1
   simp at h1
  ·rw[if_neg hlen] at h1 h3
   by_cases h2:(bare t).e< -20000∨20000< (bare t).e
   ·rw[if_pos h2] at h1
    simp at h1
   ·rw[if_neg h2] at h3
    rw[hin hlen h2] at h3;exact hi h3
theorem len_two {xs:List Nat} {L:Nat} (sa:Dg.Small 4294967296 xs) (h:xs.length≤L):(Dg.dg 65536 (Dg.vl 4294967296 xs)).length≤2*L:=by
 refine Dg.dg_len_le 65536 _ _ (by omega) ?_;rw[Nat.pow_mul];exact Nat.lt_of_lt_of_le (Dg.vl_lt 4294967296 xs sa) (Nat.pow_le_pow_right (by omega) h)
theorem bare_small {t:Trip} (h0:t.n≠0):(Dg.dg 65536 (bare t).n).length≤(Dg.dg 65536 t.n).length∧t.e≤(bare t).e∧(bare t).e≤t.e+(bitLen t.n:Int):=by
 obtain⟨-,h2,h3⟩:=bare_top h0;refine⟨dg16_mono (bare_n_le t),by omega,by omega⟩
end Go.Proofs.YtnhackdjplppjaaGreatDoor
namespace Go.Proofs.YtnhackdjplppjaaGreatDoor
open Go.RowKit
theorem enc_vl {xs:List Nat} (hc:chk xs=0) (hx:xs.length≠0):Dg.vl 4294967296 xs≠0:=fun h=>by
 obtain⟨n1,-⟩:=chk_zero hc;exact Dg.vl_ne_zero 4294967296 (by omega) xs (by intro e;subst e;simp at hx) n1 h
theorem bare_sign {s:Bool} {n:Nat} {e:Int} (h:n≠0):(bare ⟨s,n,e⟩).s=s:=by
 unfold bare;rw[if_neg h]
theorem enc_bare {k:Nat} {ng:Bool} {xs:List Nat} {p:Int} (hx:chk xs=0) (hl:xs.length≠0) (hp: ¬(p< -20000∨20000<p)) (sa:Dg.Small 4294967296 xs) (hE:enE k ng xs p=0):
  (enN k ng xs p).1=bare ⟨ng,Dg.vl 4294967296 xs,(widthN (rdN k:Int):Int)*p⟩∧(Dg.dg 65536 (bare ⟨ng,Dg.vl 4294967296 xs,(widthN (rdN k:Int):Int)*p⟩).n).length≤20000∧ -79000≤(bare ⟨ng,Dg.vl 4294967296 xs,(widthN (rdN k:Int):Int)*p⟩).e∧(bare ⟨ng,Dg.vl 4294967296 xs,(widthN (rdN k:Int):Int)*p⟩).e≤200000:=by
 have h2:(enN k ng xs p).2=0:=by
  refine Decidable.byContradiction fun c=> ?_
  unfold enE at hE;rw[if_neg hp,if_neg hl,if_neg (fun h=>c h.1)] at hE
  omega
 have hr:=en_short (show dbothR (placeC xs p (rdN k:Int) (dgN k:Int) (lsI k) (gsI k)) ⟨ng,Dg.vl 4294967296 xs,(widthN (rdN k:Int):Int)*p⟩=((enN k ng xs p).1,0) from Prod.ext rfl h2)
 have hd:=hr.2;rw[hr.1] at hd;obtain⟨-,e1,e2⟩:=dchk_zero hd;have hb:=bare_small (t:=⟨ng,Dg.vl 4294967296 xs,(widthN (rdN k:Int):Int)*p⟩) (enc_vl hx hl);have hl2:=len_two sa (chk_zero hx).2;refine⟨hr.1,Nat.le_trans hb.1 ?_,by omega,by omega⟩
 show(Dg.dg 65536 (Dg.vl 4294967296 xs)).length≤20000
 omega
end Go.Proofs.YtnhackdjplppjaaGreatDoor
