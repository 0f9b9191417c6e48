/-
  Texts laid together: Long1, Long2, Over, Dy4.
-/
import Derived.Test.YtbdokgamhinajaaGreatDoorSm10
import Derived.Test.YtbdokgamhinajaaGreatDoorSm09
set_option maxRecDepth 100000
set_option maxHeartbeats 3200000
namespace Go.Proofs.YtbdokgamhinajaaGreatDoor
open _root_.Go.Proofs.Tryz
open Go.RowKit
theorem Pi {A D M N i nn:Nat}{R os bs:List Nat}(h:Jm A D M R os N (i+1))(sb:Dg.Small 4294967296 bs)(hbs:Dg.vl 4294967296 bs=D)(hn:2≤nn)(hD1:2147483648*4294967296^ (nn-1)≤D)(hD2:D<4294967296^nn):
  2147483648≤bs.getD (nn-1) 0∧R.getD (i+nn) 0≤bs.getD (nn-1) 0∧
  ∀g,g<4294967296→(∀k,k*(bs.getD (nn-1) 0*4294967296+bs.getD (nn-2) 0)≤(R.getD (i+nn) 0*4294967296+R.getD (i+(nn-1)) 0)*4294967296+R.getD (i+(nn-2)) 0→k<4294967296→k≤g)→
   g*(bs.getD (nn-1) 0*4294967296+bs.getD (nn-2) 0)≤(R.getD (i+nn) 0*4294967296+R.getD (i+(nn-1)) 0)*4294967296+R.getD (i+(nn-2)) 0→
   Dg.vl 4294967296 R/4294967296^i/D<4294967296∧(g=Dg.vl 4294967296 R/4294967296^i/D∨g=Dg.vl 4294967296 R/4294967296^i/D+1):=by
 obtain⟨-,-,sR,-,-,-,hX⟩:=h;obtain⟨m,rfl⟩: ∃m,nn=m+2:=⟨nn-2,by omega⟩;have hB:(0:Nat)<4294967296:=by omega
 rw[show m+2-1=m+1 from rfl] at*
 rw[show m+2-2=m from rfl]
 have d1:bs.getD (m+1) 0=D/4294967296^ (m+1) % 4294967296:=by rw[CG 4294967296 bs (m+1) hB sb,hbs]
 have d0:bs.getD m 0=D/4294967296^m % 4294967296:=by rw[CG 4294967296 bs m hB sb,hbs]
 have p2:=CG 4294967296 R (i+(m+2)) hB sR;have p1:=CG 4294967296 R (i+(m+1)) hB sR;have p0:=CG 4294967296 R (i+m) hB sR;have hXl:Dg.vl 4294967296 R<4294967296^ (i+m+3):=by
  have e1:D*4294967296^ (i+1)≤4294967296^ (m+2)*4294967296^ (i+1):=Nat.mul_le_mul_right _ (Nat.le_of_lt hD2);rw[←Nat.pow_add,show m+2+(i+1)=i+m+3 from by omega] at e1
  exact Nat.lt_of_lt_of_le hX e1
 have tp:=adr (n:=m+2) hB (by omega) hX;rw[show m+2-1=m+1 from rfl] at tp
 have hDt:D/4294967296^ (m+1)<4294967296:=by
  rw[Nat.div_lt_iff_lt_mul (Nat.pow_pos hB),Nat.mul_comm,←Nat.pow_succ];exact hD2
 have t3:=aeU 4294967296 (Dg.vl 4294967296 R) (i+m) hB hXl;have t2:=two 4294967296 D m hB hD2;rw[d1,d0,p2,p1,p0];rw[show i+(m+2)=i+m+2 from by omega] at tp⊢
 rw[show i+(m+1)=i+m+1 from by omega]
 refine⟨?_, ?_, ?_⟩
 ·rw[Nat.mod_eq_of_lt hDt,Nat.le_div_iff_mul_le (Nat.pow_pos hB)]
  exact hD1
 ·rw[Nat.mod_eq_of_lt hDt]
  exact Nat.le_trans (Nat.mod_le _ _) tp
 ·rw[t3,t2]
  intro g hg hlow hup;refine NC hB hX ?_ hg hlow hup;have e1:1*4294967296^ (m+1)≤2147483648*4294967296^ (m+1):=Nat.mul_le_mul_right _ (by omega);rw[Nat.one_mul] at e1;exact Nat.le_trans e1 hD1
theorem Iv {A D M N i q:Nat}{R os cur:List Nat}(h:Jm A D M R os N (i+1))(hi:i<M)(hq:q<4294967296)(hl:cur.length=R.length)(sc:Dg.Small 4294967296 cur)
  (hv:Dg.vl 4294967296 cur+4294967296^i*(D*q)=Dg.vl 4294967296 R) (hlt:Dg.vl 4294967296 cur<D*4294967296^i):Jm A D M cur (os.set i q) N i:=by
 obtain⟨h1,h2,h3,h4,h5,h6,h7⟩:=h;refine⟨by omega,by simpa using h2,sc,Dg.small_set h4 _ _ hq,fun j hj=> ?_, ?_,hlt⟩
 ·rw[Dg.getD_set _ _ _ _ (by omega),if_neg (by omega)];exact h5 j (by omega)
 ·have hs:=Dg.vl_set 4294967296 os i q (by omega)
  rw[h5 i (by omega),Nat.mul_zero,Nat.add_zero] at hs;rw[hs,Nat.mul_add,←h6,←hv];have e:D*(4294967296^i*q)=4294967296^i*(D*q):=by rw[←Nat.mul_assoc,←Nat.mul_assoc,Nat.mul_comm D]
  rw[e];omega
theorem acV (l:List Nat)(n:Nat):Dg.vl 4294967296 (l++List.replicate n 0)=Dg.vl 4294967296 l:=by
 rw[Dg.vl_append,Dg.vl_zeros 4294967296 (List.replicate n 0) (fun i=>by
  by_cases h:i<n
  ·simp[List.getD_eq_getElem?_getD,h]
  ·simp[List.getD_eq_getElem?_getD,h]),Nat.mul_zero,Nat.add_zero]
theorem TM {l m:List Nat}(h:Dg.Small 4294967296 l)(k:Dg.Small 4294967296 m):Dg.Small 4294967296 (l++m):=by
 intro i
 by_cases hi:i<l.length
 ·have:=h i
  simpa[List.getD_eq_getElem?_getD,List.getElem?_append_left hi] using this
 ·have:=k (i-l.length)
  simpa[List.getD_eq_getElem?_getD,List.getElem?_append_right (Nat.le_of_not_lt hi)] using this
theorem CV (n:Nat):Dg.Small 4294967296 (List.replicate n 0):=by
 intro i
 by_cases h:i<n
 ·simp[List.getD_eq_getElem?_getD,h]
 ·simp[List.getD_eq_getElem?_getD,h]
theorem EP (n j:Nat):(List.replicate n 0).getD j 0=0:=by
 by_cases h:j<n
 ·simp[List.getD_eq_getElem?_getD,h]
 ·simp[List.getD_eq_getElem?_getD,h]
theorem Pj {X na nn s D:Nat}{az:List Nat}(haz:Dg.dg 4294967296 (X*2^s)=az)(hal:az.length≤na+1)(hX:X<4294967296^na)(hs:s<32)(hn:1≤nn)(hle:nn≤na+1)(hD1:2147483648*4294967296^ (nn-1)≤D):
  Jm (X*2^s) D (na+1-nn) (az++(List.replicate (na+1) 0).drop az.length) (List.replicate (na+1-nn) 0) (na+1) (na+1-nn):=by
 have sz:Dg.Small 4294967296 az:=by rw[←haz];exact Dg.small_dg _ _ (by omega)
 have hv:Dg.vl 4294967296 (az++(List.replicate (na+1) 0).drop az.length)=X*2^s:=by
  rw[List.drop_replicate,acV,←haz,Dg.vl_dg _ _ (by omega)]
 refine⟨by simp;omega,by simp, ?_,CV _,fun j _=>EP _ j, ?_, ?_⟩
 ·rw[List.drop_replicate]
  exact TM sz (CV _)
 ·rw[hv,Dg.vl_zeros _ _ (EP _),Nat.mul_zero,Nat.zero_add]
 ·rw[hv]
  have e1:2147483648*4294967296^ (nn-1)*4294967296^ (na+1-nn)≤D*4294967296^ (na+1-nn):=Nat.mul_le_mul_right _ hD1;rw[Nat.mul_assoc,←Nat.pow_add,show nn-1+(na+1-nn)=na from by omega] at e1
  have e2:X*2^s<4294967296^na*2^s:=Nat.mul_lt_mul_of_pos_right hX (Nat.pow_pos (by omega));have e3:4294967296^na*2^s≤4294967296^na*2^31:=Nat.mul_le_mul_left _ (Nat.pow_le_pow_right (by omega) (by omega));rw[show(2:Nat)^31=2147483648 from rfl,Nat.mul_comm _ 2147483648] at e3
  omega
theorem Xs {X Y s M N:Nat}{R os:List Nat}(hY:0<Y)(h:Jm (X*2^s) (Y*2^s) M R os N 0):Dg.vl 4294967296 os=X/Y∧Dg.vl 4294967296 R/2^s=X % Y:=by
 obtain⟨-,-,-,-,-,h6,h7⟩:=h;rw[Nat.pow_zero,Nat.mul_one] at h7;have hp:0<2^s:=Nat.pow_pos (by omega);have hD:0<Y*2^s:=Nat.mul_pos hY hp;have e1:X*2^s/(Y*2^s)=Dg.vl 4294967296 os:=by
  rw[←h6,Nat.mul_add_div hD,Nat.div_eq_of_lt h7,Nat.add_zero]
 have e2:X*2^s % (Y*2^s)=Dg.vl 4294967296 R:=by
  rw[←h6,Nat.mul_add_mod,Nat.mod_eq_of_lt h7]
 rw[Nat.mul_div_mul_right _ _ hp] at e1;rw[Nat.mul_mod_mul_right] at e2;refine⟨e1.symm, ?_⟩;rw[←e2,Nat.mul_div_cancel _ hp]
theorem JS (va vb:Value)(xs ys:List Nat)(w:World)(ha:Rd w .u32 va xs)(hb:Rd w .u32 vb ys)(sa:Dg.Small 4294967296 xs)(sb:Dg.Small 4294967296 ys)(nb:Dg.Norm ys)(hn:2≤ys.length)(hle:ys.length≤xs.length)(hla:xs.length≤900000):
  yC 166 #[va,vb] w (Two w (Dg.vl 4294967296 xs/Dg.vl 4294967296 ys) (Dg.vl 4294967296 xs % Dg.vl 4294967296 ys)):=by
 obtain⟨i0,hi,hz0,hz1,hz2⟩:=info_parts Tryz.infoU32;have hsz:(Tryz.prog.info? 148).map (·.size)=some 1:=by rw[hi];simp[hz1]
 obtain⟨s,hs⟩: ∃s,32-bitLen (ys.getD (ys.length-1) 0)=s:=⟨_,rfl⟩;obtain⟨hs32,hD1,hD2⟩:=V7 ys s sb nb hn hs.symm;have hlz:=XC (ys.getD (ys.length-1) 0) w (sb _);rw[hs] at hlz;have hrb:=vO vb ys s 0 s (2^s) w hb sb (by omega) (by omega) hs32 rfl (by omega) (by intro e;rw[e] at hn;simp at hn);have HRA:Hid (∀w1,yB w w1→yC 152 #[va,yi s] w1 (Num w1 (Dg.vl 4294967296 xs*2^s))):=fun w1 b1=>
  vO va xs s 0 s (2^s) w1 (ha.l b1) sa (by omega) (by omega) hs32 rfl (by omega) (by intro e;rw[e] at hle;have h0:ys.length≤0:=hle;omega)
 obtain⟨ao,ca,rfl⟩:=ha.shape;obtain⟨bo,cb,rfl⟩:=hb.shape;obtain⟨-,-,hcb⟩:=iQ hb;obtain⟨bb,boff,rfl,hcell⟩:=hcb (by omega);have hy:=hcell (ys.length-1) (by omega);have hyl:=sb (ys.length-1);have n1:((ys.length:Int)-1)=((ys.length-1:Nat):Int):=by omega
 have hvx:=Dg.vl_lt 4294967296 xs sa;obtain⟨X,hX⟩: ∃X,Dg.vl 4294967296 xs=X:=⟨_,rfl⟩;obtain⟨Y,hY⟩: ∃Y,Dg.vl 4294967296 ys=Y:=⟨_,rfl⟩;rw[hX] at HRA hvx⊢;rw[hY] at hrb hD1 hD2⊢;obtain⟨nn,hnn⟩: ∃nn,ys.length=nn:=⟨_,rfl⟩;obtain⟨na,hna⟩: ∃na,xs.length=na:=⟨_,rfl⟩;obtain⟨y,hyy⟩: ∃y,ys.getD (ys.length-1) 0=y:=⟨_,rfl⟩;rw[hyy] at hlz hy hyl;rw[hnn] at hD1 hD2 hrb hy n1 hn hle⊢;rw[hna] at HRA hle hla hvx⊢;have HD1:Hid (2147483648*4294967296^ (nn-1)≤Y*2^s):=hD1;have HD2:Hid (Y*2^s<4294967296^nn):=hD2;have HVX:Hid (X<4294967296^na):=hvx;clear ha hb sa sb nb hs hcb hcell hX hY hnn hna hyy hD1 hD2 hvx
 go_enter func166,ntmps166
 go_wp2_with fail
 refine hlz.mono ?_;rintro e w' ⟨rfl,rfl⟩;clear hlz
 go_wp2_with fail
 refine hrb.mono ?_;rintro e w1 ⟨vby,rfl,ownb,bel1⟩;clear hrb;have hDl:(Dg.dg 4294967296 (Y*2^s)).length=nn:=V8 nn _ (by omega) (by have:=HD1.out;omega) HD2.out;obtain⟨gb,cby,rfl,hgb1,hgb2,hcby⟩:=ownb.form (by omega);rw[hDl] at ownb hcby⊢;obtain⟨bs,hbs⟩: ∃bs,Dg.dg 4294967296 (Y*2^s)=bs:=⟨_,rfl⟩;rw[hbs] at ownb hDl
 go_wp2_with (at_make;refine wpList_make_full _ rfl _ _ 158 rfl w1.heap.size 148 i0 (.int .u32 0) 1 underlying158 hi hz0 hz1 _ _ _ _ (na+1) rfl rfl (by omega) (by omega) ?b2 ?b3 (Nat.le_refl _) ?_)
 case b2=>rw[hz2];omega
 case b3=>unfold maxLen;omega
 intro w2 hown2 hgrow2;have own2:=gL hown2;have bel2:yB w1 w2:=(Below.refl _ _).grown hgrow2 (Nat.le_refl _) (fun k h=>by cases h)
 clear hown2 hgrow2
 go_wp2_with fail
 refine(HRA.out w2 (aa bel1 bel2)).mono ?_;rintro e w3 ⟨vra,rfl,owna,bel3⟩;obtain⟨az,haz⟩: ∃az,Dg.dg 4294967296 (X*2^s)=az:=⟨_,rfl⟩;rw[haz] at owna;have hal:az.length≤na+1:=by rw[←haz];exact RI X na s HVX.out hs32
 have rda:=owna.rd;obtain⟨ara,cra,rfl⟩:=rda.shape;have own3:=own2.l bel3;obtain⟨w4,hrun,own4,gr4⟩:=Nw 158 158 3 underlying158 hsz own3 rda (by simpa using hal);have b12:=aa bel1 bel2;have b13:=aa b12 bel3;have bel4:Below w'.heap.size w' w4:=b13.grown gr4 b13.size (fun k hk=>by cases hk;exact bel1.size)
 have ownb4:=((ownb.l bel2).l bel3).other gr4 (by omega);have own4:=own4.lower bel1.size;clear own3 rda owna HRA own2 ownb hsz
 go_wp2_with (at_make;refine wpList_make_full _ rfl _ _ 158 rfl w4.heap.size 148 i0 (.int .u32 0) 1 underlying158 hi hz0 hz1 _ _ _ _ (na+1-nn) rfl rfl ?b0 ?b1 ?b2 ?b3 (Nat.le_refl _) ?_)
 case b0=>omega
 case b1=>omega
 case b2=>rw[hz2];omega
 case b3=>unfold maxLen;omega
 intro w5 hown5 hgrow5;have own5:=gL hown5;have bel5:yB w4 w5:=(Below.refl _ _).grown hgrow5 (Nat.le_refl _) (fun k h=>by cases h)
 have ownr5:=own4.l bel5;have ownb5:=ownb4.l bel5;have belw:=aa bel4 bel5;have hb14:w1.heap.size<w4.heap.size:=own4.block.2;have hbw1:w'.heap.size≤w1.heap.size:=bel1.size;clear hown5 hgrow5 own4 ownb4 bel4 bel5 bel1 bel2 bel3 b12 b13 gr4 hrun hy hyl n1;have hst:=Pj (nn:=nn) haz hal HVX.out hs32 (by omega) (by omega) HD1.out;have hsb:Dg.Small 4294967296 bs:=by rw[←hbs];exact Dg.small_dg _ _ (by omega)
 have hvb:Dg.vl 4294967296 bs=Y*2^s:=by rw[←hbs];exact Dg.vl_dg _ _ (by omega)
 have hY0:0<Y:=by
  rcases Nat.eq_zero_or_pos Y with e|e
  ·have:=HD1.out
   rw[e,Nat.zero_mul] at this;have h2:=Nat.pow_pos (n:=nn-1) (show 0<4294967296 by omega)
   omega
  ·exact e
 obtain⟨M,hM⟩: ∃M,na+1=M+nn:=⟨na+1-nn,by omega⟩;rw[hM,Nat.add_sub_cancel] at own5 hst;rw[hM] at ownr5;rw[hM,Nat.add_sub_cancel];obtain⟨g4,hg4⟩: ∃g4,w4.heap.size=g4:=⟨_,rfl⟩;obtain⟨g1,hg1⟩: ∃g1,w1.heap.size=g1:=⟨_,rfl⟩;rw[hg4] at own5 hb14⊢;rw[hg1] at ownr5 hb14 hbw1 hgb2⊢;have own5:=own5.lower (show w'.heap.size≤g4 by omega)
 have ne1:gb≠g1:=by omega
 have ne2:g1≠g4:=by omega
 have ne3:gb≠g4:=by omega
 have hbw4:w'.heap.size≤g4:=by omega
 have hMN:M+nn≤900001:=by omega
 clear haz hal HVX hbs hM hle hla hg4 hg1
 go_wp2
 go_loopw [10] (fun iv wr=>ae2 w' (X*2^s) (Y*2^s) M (M+nn) g1 g4 gb cby bs iv wr) (fun iv _=>(intOf iv+1).toNat)
 case atStart=>exact⟨M,_,_,Nat.le_refl _,rfl,hst,ownr5,own5,by rw[hDl];exact ownb5,belw⟩
 case round=>
  clear hst own5 ownr5 ownb5 belw hgb1 hgb2 hcby hb14 hi hz0 hz1 hz2;obtain⟨k,R,os,hk,rfl,hI,ownR,ownO,ownB,bel⟩:=hrel
  by_cases hk0:k=0
  ·subst hk0
   have hen:=Xs hY0 hI;have ro:=ownO.rd;have rr:=ownR.rd;clear ownB
   go_wp2_with fail
   refine(jD _ _ _ _ _ ro).mono ?_;rintro e w6 ⟨m,rfl,hm,rfl⟩;have to:=jW 4294967296 (by omega) ownO hI.2.2.2.1 hm;rw[hen.1] at to
   go_wp2_with fail
   refine(jD _ _ _ _ _ rr).mono ?_;rintro e w6 ⟨m2,rfl,hm2,rfl⟩;have tr:=jW 4294967296 (by omega) ownR hI.2.2.1 hm2;have hlow:=Dj _ _ s 0 s w6 tr.rd (Dg.small_dg _ _ (by omega)) (by have h1:=hm2.1;have h2:=hI.1;have h3:=tr.len;omega) (by omega) hs32 (by omega);rw[Dg.vl_dg _ _ (by omega),hen.2] at hlow;clear ro rr hm hm2 hen ownO ownR tr hI
   go_wp2_with fail
   refine hlow.mono ?_;rintro e w7 ⟨vr,rfl,ownr7,bel7⟩;have to7:=to.l bel7;have b7:=aa bel bel7;have or7:=ownr7.lower bel.size;clear hlow
   go_wp2
   go_ret2
   exact⟨_,_,rfl,to7,or7,b7⟩
  ·obtain⟨i,rfl⟩: ∃i,k=i+1:=⟨k-1,by omega⟩
   have n2:((i+1:Nat):Int)-1=(i:Int):=by omega
   rw[n2];have hRl:=hI.1;rw[hDl] at ownB;have c2:=ownR.c (i+nn) (by omega);have c1:=ownR.c (i+(nn-1)) (by omega);have c0:=ownR.c (i+(nn-2)) (by omega);have e1:=ownB.c (nn-1) (by omega);have e0:=ownB.c (nn-2) (by omega);have lg:=Pi hI hsb hvb hn HD1.out HD2.out;have hgs:=TX g1 i nn (M+nn-i) gb 0 cby _ _ _ _ _ wr hn (by omega) (by omega) c2 c1 c0 (by rw[Nat.zero_add];exact e1) (by rw[Nat.zero_add];exact e0) (hI.2.2.1 _) (hI.2.2.1 _) (hI.2.2.1 _) (hsb _) (hsb _) lg.1 lg.2.1;have LG:=lg.2.2;have HLG:Hid _:=LG;clear c2 c1 c0 e1 e0 lg LG
   go_wp2_with fail
   rw[show i+nn+1-i=nn+1 from by omega]
   refine hgs.mono ?_;rintro e w6 ⟨g,rfl,hgl,hlow,hup,bel6⟩;clear hgs;have hq:=HLG.out g hgl hlow hup;clear HLG hlow hup;have ownR6:=ownR.l bel6;have ownO6:=ownO.l bel6;have ownB6:=ownB.l bel6;have b6:=aa bel bel6;clear ownR ownO ownB bel6 bel;have htk:=H7 g1 (M+nn) i (M+nn-i) w'.heap.size g R bs _ w6 ownR6 hI.2.2.1 hsb (fun w'' hg=>(ownB6.other hg ne1).rd) (by omega) hgl (by omega)
   rw[hDl] at htk;obtain⟨q,hqq⟩: ∃q,Dg.vl 4294967296 R/4294967296^i/(Y*2^s)=q:=⟨_,rfl⟩;rw[hqq] at hq;have HRE:Hid (∀cur b,acc R cur bs i g b→_):=fun cur b hT=>QR hT hI.2.2.1 rfl hvb (Nat.mul_pos hY0 (Nat.pow_pos (by omega))) (by rw[hDl];exact HD2.out) hI.2.2.2.2.2.2 hqq hq.2
   go_wp2_with fail
   refine htk.mono ?_;rintro e w7 ⟨b,cur,rfl,hT,ownC,gr7⟩;have hre:=HRE.out cur b hT;have hb1:=hT.2.2.2.1;have hTl:=hT.1;have hTs:=hT.2.1;have ownO7:=ownO6.other gr7 ne2.symm;have ownB7:=ownB6.other gr7 ne1;have b7:=b6.grown gr7 b6.size (fun k hk=>by cases hk;exact hbw1)
   have hql:=hq.1;have hil:i<M:=by omega
   clear HRE hT htk hq hqq ownR6 ownO6 ownB6 b6 gr7
   by_cases hb:b=0
   ·subst hb
    obtain⟨rfl,hv,hlt⟩:=hre.1 rfl;have hnx:=Iv hI hil hgl hTl hTs hv hlt;have ed:decide ((0:Nat)=1)=false:=rfl;rw[ed];have hf:=ownO7.f i;have hcO:=ownO7.c i (by have:=hI.2.1;omega);clear hre hv hlt hI hTs
    go_wp2
    go_roundw
    case rel=>exact⟨i,cur,_,by omega,by go_num,hnx,ownC.other (bI _ _ _ _) ne2,ownO7.store i _,by rw[hDl];exact ownB7.other (bI _ _ _ _) ne3,b7.setCell (by exact hbw4) _⟩
    case measure=>simp[intOf]
   ·have hb:b=1:=by omega
    subst hb;obtain⟨rfl,hbk⟩:=hre.2 rfl;have hpb:=Mj g1 (M+nn) i (M+nn-i) w'.heap.size cur bs _ w7 ownC hTs hsb (fun w'' hg=>(ownB7.other hg ne1).rd) (by omega) (by omega)
    rw[hDl] at hpb;have ed:decide ((1:Nat)=1)=true:=rfl;rw[ed];have n3:((q+1:Nat):Int)-1=(q:Int):=by omega
    have HBK:Hid _:=hbk;clear hre hbk
    go_wp2_with fail
    refine hpb.mono ?_;rintro e w8 ⟨o,cur',rfl,hB,ownC8,gr8⟩;obtain⟨hv,hlt⟩:=HBK.out cur' o hB;have hnx:=Iv hI hil hql (hB.1.trans hTl) hB.2.1 hv hlt;have ownO8:=ownO7.other gr8 ne2.symm;have ownB8:=ownB7.other gr8 ne1;have b8:=b7.grown gr8 b7.size (fun k hk=>by cases hk;exact hbw1)
    have hf:=ownO8.f i;have hcO:=ownO8.c i (by have:=hI.2.1;omega);clear hpb HBK hv hlt hB gr8 hI hTs ownC ownO7 ownB7 b7
    go_wp2
    go_roundw
    case rel=>exact⟨i,cur',_,by omega,by go_num,hnx,ownC8.other (bI _ _ _ _) ne2,ownO8.store i _,by rw[hDl];exact ownB8.other (bI _ _ _ _) ne3,b8.setCell (by exact hbw4) _⟩
    case measure=>simp[intOf]
theorem zf (w:World)(base e d:Nat)(hb:base≤w.heap.size):Own (w.alloc (.cells #[.int .u32 d] e)) base e .u32 (.slice (some ⟨w.heap.size,0,none⟩) 1 1) [d]:=
 World.ownsRow_lit (e:=e) (size:=1) (base:=base) w #[.int .u32 d] 1 hb (by unfold maxLen;omega) rfl
theorem Xx {a b:Int}(h:b≤a):decide (dm a b<0)=false:=by
 unfold dm;rw[if_neg (by omega)]
 by_cases h2:b<a
 ·rw[if_pos h2];rfl
 ·rw[if_neg h2];rfl
theorem A9 (va vb:Value)(xs ys:List Nat)(w:World)(ha:Rd w .u32 va xs)(hb:Rd w .u32 vb ys)(sa:Dg.Small 4294967296 xs)(sb:Dg.Small 4294967296 ys)(na:Dg.Norm xs)(nb:Dg.Norm ys)(hne:ys≠[])(hla:xs.length≤900000):
  yC 139 #[va,vb] w (Two w (Dg.vl 4294967296 xs/Dg.vl 4294967296 ys) (Dg.vl 4294967296 xs % Dg.vl 4294967296 ys)):=by
 have hcm:=jF va vb xs ys w ha hb sa sb na nb;have hY0:0<Dg.vl 4294967296 ys:=Nat.pos_of_ne_zero (Dg.vl_ne_zero 4294967296 (by omega) ys hne nb);have hln:0<ys.length:=List.length_pos_iff.2 hne
 by_cases hlt:Dg.vl 4294967296 xs<Dg.vl 4294967296 ys
 ·rw[gX (by omega)] at hcm
  rw[Nat.div_eq_of_lt hlt,Nat.mod_eq_of_lt hlt];have HX:Hid (xs=Dg.dg 4294967296 (Dg.vl 4294967296 xs)):=Dg.eq_dg 4294967296 (by omega) xs _ sa na rfl;have HA:Hid (Rd w .u32 va xs):=ha;obtain⟨ao,ca,rfl⟩:=ha.shape;obtain⟨bo,cb,rfl⟩:=hb.shape;clear ha hb sa sb na nb hne hlt hY0
  go_enter func139,ntmps139
  go_wp2_with fail
  refine hcm.mono ?_;rintro e w1 ⟨rfl,b1⟩;clear hcm
  go_wp2_with fail
  refine(Bz _ xs w1 (HA.out.l b1) (by omega)).mono ?_;rintro e w2 ⟨rfl,own2,b2⟩;have own2:=own2.lower b1.size;have b12:=aa b1 b2;clear b1 b2 HA
  go_wp2
  go_ret2
  exact⟨_,_,rfl,aQ _ _ _ _,HX.out▸own2,b12⟩
 ·have hd:=Xx (a:=(Dg.vl 4294967296 xs:Int)) (b:=(Dg.vl 4294967296 ys:Int)) (by omega)
  obtain⟨r,hr⟩: ∃r,dm (Dg.vl 4294967296 xs) (Dg.vl 4294967296 ys)=r:=⟨_,rfl⟩;rw[hr] at hd hcm;clear hr;have HA:Hid (Rd w .u32 va xs):=ha;have HB:Hid (Rd w .u32 vb ys):=hb;obtain⟨ao,ca,rfl⟩:=ha.shape;obtain⟨bo,cb,rfl⟩:=hb.shape
  by_cases h1:ys.length=1
  ·obtain⟨d,rfl⟩: ∃d,ys=[d]:=List.length_eq_one_iff.1 h1
   have hv:Dg.vl 4294967296 [d]=d:=by simp[Dg.vl]
   have hdl:d<4294967296:=(Dg.small_cons.1 sb).1;rw[hv] at hY0⊢;clear ha hb hlt hv h1 hln hne nb sb
   go_enter func139,ntmps139
   go_wp2_with fail
   refine hcm.mono ?_;rintro e w1 ⟨rfl,b1⟩;clear hcm
   go_wp2_with fail
   refine(Bz _ xs w1 (HA.out.l b1) (by omega)).mono ?_;rintro e w2 ⟨rfl,own2,b2⟩;have b12:=aa b1 b2;obtain⟨-,-,hcb⟩:=iQ (HB.out.l b12);obtain⟨bb,boff,rfl,hcell⟩:=hcb (by simp);have hc:=hcell 0 (by simp);simp only[List.getD_cons_zero,Nat.add_zero] at hc;clear hcell hcb
   go_wp2_with fail
   refine(uG _ _ _ _ xs d w2 own2 sa hY0 hdl (by omega)).mono ?_;rintro e w3 ⟨qs,rfl,own3,hql,hqs,hqv,gr3⟩;have b13:=b12.grown gr3 b12.size (fun k hk=>by cases hk;exact b1.size)
   have r3:=own3.rd;have own3:=own3.lower b1.size;obtain⟨rm,hrm⟩: ∃rm,Dg.vl 4294967296 xs % d=rm:=⟨_,rfl⟩;rw[hrm];have hrl:rm<4294967296:=by have:=Nat.mod_lt (Dg.vl 4294967296 xs) hY0;omega
   clear gr3 own2 b12 b2 hc
   go_wp2_with fail
   refine(jD _ _ _ _ _ r3).mono ?_;rintro e w4 ⟨m,rfl,hm,rfl⟩;have t3:=jW 4294967296 (by omega) own3 hqs hm;rw[hqv] at t3;have ownd:=zf w4 w.heap.size 148 rm b13.size;have b4:yB w4 (w4.alloc (.cells #[.int .u32 (rm:Int)] 148)):=(Below.refl _ _).alloc (Nat.le_refl _) _;have t4:=t3.l b4;have b14:=aa b13 b4;have rd4:=ownd.rd;clear own3 r3 hm t3 b4 b13 b1 hqv
   go_wp2_with fail
   refine(jD _ _ _ _ _ rd4).mono ?_;rintro e w5 ⟨m2,rfl,hm2,rfl⟩;have t5:=jW 4294967296 (by omega) ownd (Dg.small_cons.2 ⟨hrl,Dg.small_nil _ (by omega)⟩) hm2;rw[show Dg.vl 4294967296 [rm]=rm from by simp[Dg.vl]] at t5
   clear ownd rd4 hm2
   go_wp2
   go_ret2
   exact⟨_,_,rfl,t4,by rw[hrm];exact t5,b14⟩
  ·have hll:ys.length≤xs.length:=by
    rcases Nat.lt_or_ge xs.length ys.length with e|e
    ·exact absurd (Dg.vl_lt_of_len 4294967296 (by omega) xs ys sa nb e) hlt
    ·exact e
   have HLO:Hid (∀w1,yB w w1→yC 166 #[.slice ao xs.length ca,.slice bo ys.length cb] w1 (Two w1 (Dg.vl 4294967296 xs/Dg.vl 4294967296 ys) (Dg.vl 4294967296 xs % Dg.vl 4294967296 ys))):=fun w1 b1=>
    JS _ _ xs ys w1 (ha.l b1) (hb.l b1) sa sb nb (by omega) hll hla
   obtain⟨q,hq⟩: ∃q,Dg.vl 4294967296 xs/Dg.vl 4294967296 ys=q:=⟨_,rfl⟩;obtain⟨m,hm⟩: ∃m,Dg.vl 4294967296 xs % Dg.vl 4294967296 ys=m:=⟨_,rfl⟩;rw[hq,hm] at HLO⊢;have h2:((ys.length:Int)==1)=false:=by simp;omega
   clear ha hb hlt hne nb sb na sa hY0 hq hm HA HB
   go_enter func139,ntmps139
   go_wp2_with fail
   refine hcm.mono ?_;rintro e w1 ⟨rfl,b1⟩;clear hcm
   go_wp2_with fail
   refine(HLO.out w1 b1).mono ?_;rintro e w2 ⟨v1,v2,rfl,o1,o2,b2⟩;have o1:=o1.lower b1.size;have o2:=o2.lower b1.size;have b12:=aa b1 b2;clear b1 b2 HLO
   go_wp2
   go_ret2
   exact⟨_,_,rfl,o1,o2,b12⟩
theorem CE (n:Nat)(i:Int)(h:0≤i):shN n i=n*2^i.toNat:=by
 unfold shN;rw[if_neg (by omega)]
theorem Zm (ts:Bool)(ao:Option Addr)(ca n:Nat)(e x:Int)(w:World)(hr:Rd w .u32 (.slice ao (Dg.dg 4294967296 n).length ca) (Dg.dg 4294967296 n))(hL:(Dg.dg 4294967296 n).length≤500000)
  (_h1: -1000000≤e) (_h2:e≤1000000) (_h3: -1000000≤x) (h4:x≤e) (h5:e-x≤1000000):
  Calls Tryz.prog 105 #[.agg #[.bool ts,.slice ao (Dg.dg 4294967296 n).length ca,.int .i64 e],.int .i64 x] w (Num w (n*2^ (e-x).toNat)):=by
 have HSH:Hid (∀w1,Below w.heap.size w w1→Calls Tryz.prog 130 #[.slice ao (Dg.dg 4294967296 n).length ca,.int .i64 (e-x)] w1 (Num w1 (n*2^ (e-x).toNat))):=fun w1 b1=>by
  have:=eO _ _ (e-x) w1 (hr.l b1) (Dg.small_dg _ _ (by omega)) (by omega) (by omega) (by omega)
  rwa [Dg.vl_dg _ _ (by omega),CE n _ (by omega)] at this
 obtain⟨m,hm⟩: ∃m,(Dg.dg 4294967296 n).length=m:=⟨_,rfl⟩;obtain⟨q,hq⟩: ∃q,n*2^ (e-x).toNat=q:=⟨_,rfl⟩;rw[hm,hq] at HSH⊢;clear hm hr hL hq;have l1:=aA w (.bool ts) (.slice ao m ca) (.int .i64 e) 74;have bA:=af w (.cells #[.bool ts,.slice ao m ca,.int .i64 e] 74);have bd:Below (w.alloc (.cells #[.bool ts,.slice ao m ca,.int .i64 e] 74)).heap.size (w.alloc (.cells #[.bool ts,.slice ao m ca,.int .i64 e] 74)) (w.alloc (.cells #[.bool ts,.slice ao m ca,.int .i64 e] 74)).drew:=(Below.refl _ _).drew;have l1:=l1.l bd;have b02:=aa bA bd;clear bA bd;have e3:IntKind.i64.wrap (e-x)=e-x:=IntWalk.i64_in _ ⟨by omega,by omega⟩;obtain⟨-,⟨c0,c1,c2⟩,-⟩:=id l1
 go_enter func105,ntmps105
 go_wp2_with fail
 go_region_held3 (fun wq=>wq.cell? ⟨w.heap.size,0,none⟩=some (.bool ts)∧wq.cell? ⟨w.heap.size,1,none⟩=some (.slice ao m ca)∧wq.cell? ⟨w.heap.size,2,none⟩=some (.int .i64 e)) (go_keep) (first
  | (go_at_call 115;refine(cN ts ao m ca e _).mono ?_;rintro x w3 ⟨rfl,b3⟩;have l13:=l1.l b3;have b03:=aa b02 b3;obtain⟨-,⟨p0,p1,p2⟩,-⟩:=id l13)
  | (go_at_call 130;refine(HSH.out _ b03).mono ?_;rintro x w4 ⟨vs,rfl,own4,b4⟩;have l14:=l13.l b4;have b04:=aa b03 b4;obtain⟨-,⟨q0,q1,q2⟩,-⟩:=id l14))
 all_goals go_wp2
 go_ret
 exact⟨_,rfl,own4.lower b03.size,b04⟩
theorem CF (n k L j:Nat)(h:(Dg.dg 4294967296 n).length≤L)(hk:k≤32*j):(Dg.dg 4294967296 (n*2^k)).length≤L+j:=by
 apply Dg.dg_len_le 4294967296 _ _ (by omega);have h1:=Dg.vl_lt 4294967296 (Dg.dg 4294967296 n) (Dg.small_dg _ _ (by omega));rw[Dg.vl_dg _ _ (by omega)] at h1;have h2:4294967296^ (Dg.dg 4294967296 n).length≤4294967296^L:=Nat.pow_le_pow_right (by omega) h;have h3:2^k≤4294967296^j:=by
  rw[show(4294967296:Nat)=2^32 from rfl,←Nat.pow_mul]
  exact Nat.pow_le_pow_right (by omega) (by omega)
 rw[Nat.pow_add];have h4:0<4294967296^j:=Nat.pow_pos (by omega);generalize 4294967296^j=c at*;generalize 4294967296^L=d at*;have h5:n*2^k≤n*c:=Nat.mul_le_mul_left _ h3;have h6:n*c<d*c:=Nat.mul_lt_mul_of_pos_right (by omega) h4;omega
theorem uj (v u:Value)(a b:ak)(w:World)(hv:Dv w v a)(hu:Dv w u b)(hLa:(Dg.dg 4294967296 a.n).length≤100000)(hLb:(Dg.dg 4294967296 b.n).length≤100000)
  (ha1: -100000≤a.e) (ha2:a.e≤100000) (hb1: -100000≤b.e) (hb2:b.e≤100000):
  Calls Tryz.prog 62 #[v,u] w (jN w (aG a b)):=by
 obtain⟨s0,rfl,ra⟩:=hv;obtain⟨ao,ca,rfl⟩:=ra.shape;obtain⟨s1,rfl,rb⟩:=hu;obtain⟨bo,cb,rfl⟩:=rb.shape;obtain⟨sa,an,ae⟩:=a;obtain⟨sb,bn,be⟩:=b;simp only at ra rb hLa hLb ha1 ha2 hb1 hb2⊢;have HATA:Hid (∀w1,Below w.heap.size w w1→Calls Tryz.prog 105 #[.agg #[.bool sa,.slice ao (Dg.dg 4294967296 an).length ca,.int .i64 ae],.int .i64 (min ae be)] w1 (Num w1 (an*2^ (ae-min ae be).toNat))):=fun w1 b1=>
  Zm sa ao ca an ae (min ae be) w1 (ra.l b1) (by omega) (by omega) (by omega) (by omega) (by omega) (by omega)
 have HATB:Hid (∀w1,Below w.heap.size w w1→Calls Tryz.prog 105 #[.agg #[.bool sb,.slice bo (Dg.dg 4294967296 bn).length cb,.int .i64 be],.int .i64 (min ae be)] w1 (Num w1 (bn*2^ (be-min ae be).toNat))):=fun w1 b1=>
  Zm sb bo cb bn be (min ae be) w1 (rb.l b1) (by omega) (by omega) (by omega) (by omega) (by omega) (by omega)
 have lX:=CF an (ae-min ae be).toNat 100000 6251 hLa (by omega);have lY:=CF bn (be-min ae be).toNat 100000 6251 hLb (by omega);unfold aG;simp only;obtain⟨X,hX⟩: ∃X,an*2^ (ae-min ae be).toNat=X:=⟨_,rfl⟩;obtain⟨Y,hY⟩: ∃Y,bn*2^ (be-min ae be).toNat=Y:=⟨_,rfl⟩;obtain⟨ma,hma⟩: ∃m,(Dg.dg 4294967296 an).length=m:=⟨_,rfl⟩;obtain⟨mb,hmb⟩: ∃m,(Dg.dg 4294967296 bn).length=m:=⟨_,rfl⟩;rw[hX] at HATA lX⊢;rw[hY] at HATB lY⊢;rw[hma] at HATA⊢;rw[hmb] at HATB⊢;obtain⟨x,hx⟩: ∃x,min ae be=x:=⟨_,rfl⟩;have HX:Hid _:=hx;have HPL:Hid (∀v1 v2 w1,Rd w1 .u32 v1 (Dg.dg 4294967296 X)→Rd w1 .u32 v2 (Dg.dg 4294967296 Y)→Calls Tryz.prog 107 #[v1,v2] w1 (Num w1 (X+Y))):=fun v1 v2 w1 h1 h2=>by
  have:=rj v1 v2 _ _ w1 h1 h2 (Dg.small_dg _ _ (by omega)) (Dg.small_dg _ _ (by omega)) (by omega) (by omega)
  rwa [Dg.vl_dg _ _ (by omega),Dg.vl_dg _ _ (by omega)] at this
 have HCM:Hid (∀v1 v2 w1,Rd w1 .u32 v1 (Dg.dg 4294967296 X)→Rd w1 .u32 v2 (Dg.dg 4294967296 Y)→Calls Tryz.prog 108 #[v1,v2] w1 fun e w'=>e= .returned (.int .i64 (dm X Y))∧Below w1.heap.size w1 w'):=fun v1 v2 w1 h1 h2=>by
  have:=jF v1 v2 _ _ w1 h1 h2 (Dg.small_dg _ _ (by omega)) (Dg.small_dg _ _ (by omega)) (Dg.norm_dg _ _ (by omega)) (Dg.norm_dg _ _ (by omega))
  rwa [Dg.vl_dg _ _ (by omega),Dg.vl_dg _ _ (by omega)] at this
 have HMI:Hid (∀P Q v1 v2 w1,P≤Q→(Dg.dg 4294967296 Q).length≤500000→Rd w1 .u32 v1 (Dg.dg 4294967296 Q)→Rd w1 .u32 v2 (Dg.dg 4294967296 P)→Calls Tryz.prog 109 #[v1,v2] w1 (Num w1 (Q-P))):=fun P Q v1 v2 w1 hle hl h1 h2=>by
  have:=zL v1 v2 _ _ w1 h1 h2 (Dg.small_dg _ _ (by omega)) (Dg.small_dg _ _ (by omega)) (by omega) (aH _ _ _ (by omega) hle) (by rw[Dg.vl_dg _ _ (by omega),Dg.vl_dg _ _ (by omega)];exact hle)
  rwa [Dg.vl_dg _ _ (by omega),Dg.vl_dg _ _ (by omega)] at this
 clear hX hY hma hmb hx ra rb hLa hLb;obtain⟨A,hA⟩: ∃A,w.alloc (.cells #[.bool sa,.slice ao ma ca,.int .i64 ae] 74)=A:=⟨_,rfl⟩;have la:=aA w (.bool sa) (.slice ao ma ca) (.int .i64 ae) 74;have bA:=af w (.cells #[.bool sa,.slice ao ma ca,.int .i64 ae] 74);have sA:A.heap.size=w.heap.size+1:=by rw[←hA,World.size_alloc]
 rw[hA] at la bA;obtain⟨B,hB⟩: ∃B,A.alloc (.cells #[.bool sb,.slice bo mb cb,.int .i64 be] 74)=B:=⟨_,rfl⟩;have lb:=aA A (.bool sb) (.slice bo mb cb) (.int .i64 be) 74;have bB:=af A (.cells #[.bool sb,.slice bo mb cb,.int .i64 be] 74);have sB:B.heap.size=w.heap.size+1+1:=by rw[←hB,World.size_alloc,sA]
 rw[hB] at lb bB;rw[sA] at lb;have lc:=aA B (.bool false) (.slice none 0 0) (.int .i64 0) 74;have bC:=af B (.cells #[.bool false,.slice none 0 0,.int .i64 0] 74);rw[sB] at lc;have bd:Below (B.alloc (.cells #[.bool false,.slice none 0 0,.int .i64 0] 74)).heap.size (B.alloc (.cells #[.bool false,.slice none 0 0,.int .i64 0] 74)) (B.alloc (.cells #[.bool false,.slice none 0 0,.int .i64 0] 74)).drew:=(Below.refl _ _).drew;have la:=((la.l bB).l bC).l bd;have lb:=(lb.l bC).l bd;have lc:=lc.l bd;have b02:=aa (aa (aa bA bB) bC) bd;rw[←hB,←hA] at la lb lc b02;clear bA bB bC bd sA sB hA hB;have ne3:w.heap.size+1+1≠w.heap.size:=by omega
 have ne4:w.heap.size≠w.heap.size+1+1:=by omega
 by_cases hs:sa=sb
 ·subst hs
  rw[if_pos rfl]
  go_enter func62,ntmps62
  obtain⟨-,⟨ca0,ca1,ca2⟩,-⟩:=id la;obtain⟨-,⟨cb0,cb1,cb2⟩,-⟩:=id lb
  go_wp2_with fail
  go_region_held3 (fun wq=>(wq.cell? ⟨w.heap.size,0,none⟩=some (.bool sa)∧wq.cell? ⟨w.heap.size,1,none⟩=some (.slice ao ma ca)∧wq.cell? ⟨w.heap.size,2,none⟩=some (.int .i64 ae))∧wq.cell? ⟨w.heap.size+1,0,none⟩=some (.bool sa)∧wq.cell? ⟨w.heap.size+1,1,none⟩=some (.slice bo mb cb)∧wq.cell? ⟨w.heap.size+1,2,none⟩=some (.int .i64 be)) (go_keep) (first
   | (go_at_call 105;refine(HATA.out _ b02).mono ?_;rintro z w3 ⟨v1,rfl,o1,b3⟩;have la3:=la.l b3;have lb3:=lb.l b3;have lc3:=lc.l b3;have b03:=aa b02 b3;obtain⟨-,⟨p0,p1,p2⟩,-⟩:=id la3;obtain⟨-,⟨p3,p4,p5⟩,-⟩:=id lb3;clear b02)
   | (go_at_call 105;refine(HATB.out _ b03).mono ?_;rintro z w4 ⟨v2,rfl,o2,b4⟩;have la4:=la3.l b4;have lb4:=lb3.l b4;have lc4:=lc3.l b4;have b04:=aa b03 b4;obtain⟨-,⟨q0,q1,q2⟩,-⟩:=id la4;obtain⟨-,⟨q3,q4,q5⟩,-⟩:=id lb4))
  clear la lb lc la3 lb3 lc3 p0 p1 p2 p3 p4 p5 ca0 ca1 ca2 cb0 cb1 cb2 b03;have r1:=(o1.l b4).rd;have r2:=o2.rd;clear o1 o2 b3 b4;have bd:Below w4.heap.size w4 w4.drew:=(Below.refl _ _).drew;have la5:=la4.l bd;have lb5:=lb4.l bd;have lc5:=lc4.l bd;have b05:=aa b04 bd;have r1:=r1.l bd;have r2:=r2.l bd;obtain⟨-,⟨c0,c1,c2⟩,-⟩:=id la5;obtain⟨-,⟨c3,c4,c5⟩,-⟩:=id lb5;clear la4 lb4 lc4 bd q0 q1 q2 q3 q4 q5
  go_wp2
  go_region_held3 (fun wq=>wq.cell? ⟨w.heap.size,0,none⟩=some (.bool sa)) (go_keep) (first
   | (go_at_call 107;refine(HPL.out v1 v2 _ r1 r2).mono ?_;rintro z w6 ⟨vs,rfl,o6,b6⟩;have la6:=la5.l b6;have lb6:=lb5.l b6;have lc6:=lc5.l b6;have b06:=aa b05 b6;obtain⟨so,sc,hvs⟩:=o6.rd.shape;subst hvs;obtain⟨-,⟨t0,t1,t2⟩,-⟩:=id la6;clear r1)
   | (go_at_call 106;refine(l9 sa so _ sc _ _).mono ?_;rintro z w7 ⟨rfl,b7⟩;have la7:=la6.l b7;have lb7:=lb6.l b7;have lc7:=lc6.l b7;have b07:=aa b06 b7;obtain⟨-,⟨u0,u1,u2⟩,-⟩:=id la7;obtain⟨hl7,⟨d0,d1,d2⟩,f0,f1,f2⟩:=id lc7))
  all_goals go_wp2
  obtain⟨-,⟨g0,g1,g2⟩,-⟩:=aD lc7 (.bool sa) (.slice so (Dg.dg 4294967296 (X+Y)).length sc) (.int .i64 (min ae be));have o7:=(o6.l b7).apart3 (b:=w.heap.size+1+1) lc5.1 (.bool sa) (.slice so (Dg.dg 4294967296 (X+Y)).length sc) (.int .i64 (min ae be));have b8:=am b07 (show w.heap.size≤w.heap.size+1+1 by omega) (.bool sa) (.slice so (Dg.dg 4294967296 (X+Y)).length sc) (.int .i64 (min ae be))
  refine bodyPost_ret (v:= .agg #[.bool sa,.slice so (Dg.dg 4294967296 (X+Y)).length sc,.int .i64 (min ae be)]) (by simp[results,results62,go_sem,g0,g1,g2]) rfl ?_;exact⟨_,rfl,o7.lower b05.size,b8⟩
 ·rw[if_neg hs]
  have hsb:(sa==sb)=false:=by simp[hs]
  by_cases hlt:X<Y
  ·rw[if_pos hlt]
   rw[gX (by omega)] at HCM
   go_enter func62,ntmps62
   obtain⟨-,⟨ca0,ca1,ca2⟩,-⟩:=id la;obtain⟨-,⟨cb0,cb1,cb2⟩,-⟩:=id lb
   go_wp2_with fail
   go_region_held3 (fun wq=>(wq.cell? ⟨w.heap.size,0,none⟩=some (.bool sa)∧wq.cell? ⟨w.heap.size,1,none⟩=some (.slice ao ma ca)∧wq.cell? ⟨w.heap.size,2,none⟩=some (.int .i64 ae))∧wq.cell? ⟨w.heap.size+1,0,none⟩=some (.bool sb)∧wq.cell? ⟨w.heap.size+1,1,none⟩=some (.slice bo mb cb)∧wq.cell? ⟨w.heap.size+1,2,none⟩=some (.int .i64 be)) (go_keep) (first
    | (go_at_call 105;refine(HATA.out _ b02).mono ?_;rintro z w3 ⟨v1,rfl,o1,b3⟩;have la3:=la.l b3;have lb3:=lb.l b3;have lc3:=lc.l b3;have b03:=aa b02 b3;obtain⟨-,⟨p0,p1,p2⟩,-⟩:=id la3;obtain⟨-,⟨p3,p4,p5⟩,-⟩:=id lb3;clear b02)
    | (go_at_call 105;refine(HATB.out _ b03).mono ?_;rintro z w4 ⟨v2,rfl,o2,b4⟩;have la4:=la3.l b4;have lb4:=lb3.l b4;have lc4:=lc3.l b4;have b04:=aa b03 b4;obtain⟨-,⟨q0,q1,q2⟩,-⟩:=id la4;obtain⟨-,⟨q3,q4,q5⟩,-⟩:=id lb4))
   clear la lb lc la3 lb3 lc3 p0 p1 p2 p3 p4 p5 ca0 ca1 ca2 cb0 cb1 cb2 b03;have r1:=(o1.l b4).rd;have r2:=o2.rd;clear o1 o2 b3 b4
   go_wp2_with fail
   refine(HCM.out v1 v2 w4 r1 r2).mono ?_;rintro z w9 ⟨rfl,b9⟩;have la4:=la4.l b9;have lb4:=lb4.l b9;have lc4:=lc4.l b9;have b04:=aa b04 b9;have r1:=r1.l b9;have r2:=r2.l b9;clear b9;have bd:Below w9.heap.size w9 w9.drew:=(Below.refl _ _).drew;have la5:=la4.l bd;have lb5:=lb4.l bd;have lc5:=lc4.l bd;have b05:=aa b04 bd;have r1:=r1.l bd;have r2:=r2.l bd;obtain⟨-,⟨c0,c1,c2⟩,-⟩:=id la5;obtain⟨-,⟨c3,c4,c5⟩,-⟩:=id lb5;clear la4 lb4 lc4 bd q0 q1 q2 q3 q4 q5
   go_wp2
   go_region_held3 (fun wq=>wq.cell? ⟨w.heap.size+1,0,none⟩=some (.bool sb)) (go_keep) (first
    | (go_at_call 109;refine(HMI.out X Y v2 v1 _ (by omega) (by omega) r2 r1).mono ?_;rintro z w6 ⟨vs,rfl,o6,b6⟩;have la6:=la5.l b6;have lb6:=lb5.l b6;have lc6:=lc5.l b6;have b06:=aa b05 b6;obtain⟨so,sc,hvs⟩:=o6.rd.shape;subst hvs;obtain⟨-,⟨t0,t1,t2⟩,-⟩:=id lb6;clear r1)
    | (go_at_call 106;refine(l9 sb so _ sc _ _).mono ?_;rintro z w7 ⟨rfl,b7⟩;have la7:=la6.l b7;have lb7:=lb6.l b7;have lc7:=lc6.l b7;have b07:=aa b06 b7;obtain⟨-,⟨u0,u1,u2⟩,-⟩:=id lb7;obtain⟨hl7,⟨d0,d1,d2⟩,f0,f1,f2⟩:=id lc7))
   all_goals go_wp2
   obtain⟨-,⟨g0,g1,g2⟩,-⟩:=aD lc7 (.bool sb) (.slice so (Dg.dg 4294967296 (Y-X)).length sc) (.int .i64 (min ae be));have o7:=(o6.l b7).apart3 (b:=w.heap.size+1+1) lc5.1 (.bool sb) (.slice so (Dg.dg 4294967296 (Y-X)).length sc) (.int .i64 (min ae be));have b8:=am b07 (show w.heap.size≤w.heap.size+1+1 by omega) (.bool sb) (.slice so (Dg.dg 4294967296 (Y-X)).length sc) (.int .i64 (min ae be))
   refine bodyPost_ret (v:= .agg #[.bool sb,.slice so (Dg.dg 4294967296 (Y-X)).length sc,.int .i64 (min ae be)]) (by simp[results,results62,go_sem,g0,g1,g2]) rfl ?_;exact⟨_,rfl,o7.lower b05.size,b8⟩
  ·rw[if_neg hlt]
   have hd:=abX (a:=(X:Int)) (b:=(Y:Int)) (by omega);obtain⟨r,hr⟩: ∃r,dm X Y=r:=⟨_,rfl⟩;rw[hr] at hd HCM;clear hr
   go_enter func62,ntmps62
   obtain⟨-,⟨ca0,ca1,ca2⟩,-⟩:=id la;obtain⟨-,⟨cb0,cb1,cb2⟩,-⟩:=id lb
   go_wp2_with fail
   go_region_held3 (fun wq=>(wq.cell? ⟨w.heap.size,0,none⟩=some (.bool sa)∧wq.cell? ⟨w.heap.size,1,none⟩=some (.slice ao ma ca)∧wq.cell? ⟨w.heap.size,2,none⟩=some (.int .i64 ae))∧wq.cell? ⟨w.heap.size+1,0,none⟩=some (.bool sb)∧wq.cell? ⟨w.heap.size+1,1,none⟩=some (.slice bo mb cb)∧wq.cell? ⟨w.heap.size+1,2,none⟩=some (.int .i64 be)) (go_keep) (first
    | (go_at_call 105;refine(HATA.out _ b02).mono ?_;rintro z w3 ⟨v1,rfl,o1,b3⟩;have la3:=la.l b3;have lb3:=lb.l b3;have lc3:=lc.l b3;have b03:=aa b02 b3;obtain⟨-,⟨p0,p1,p2⟩,-⟩:=id la3;obtain⟨-,⟨p3,p4,p5⟩,-⟩:=id lb3;clear b02)
    | (go_at_call 105;refine(HATB.out _ b03).mono ?_;rintro z w4 ⟨v2,rfl,o2,b4⟩;have la4:=la3.l b4;have lb4:=lb3.l b4;have lc4:=lc3.l b4;have b04:=aa b03 b4;obtain⟨-,⟨q0,q1,q2⟩,-⟩:=id la4;obtain⟨-,⟨q3,q4,q5⟩,-⟩:=id lb4))
   clear la lb lc la3 lb3 lc3 p0 p1 p2 p3 p4 p5 ca0 ca1 ca2 cb0 cb1 cb2 b03;have r1:=(o1.l b4).rd;have r2:=o2.rd;clear o1 o2 b3 b4
   go_wp2_with fail
   refine(HCM.out v1 v2 w4 r1 r2).mono ?_;rintro z w9 ⟨rfl,b9⟩;have la4:=la4.l b9;have lb4:=lb4.l b9;have lc4:=lc4.l b9;have b04:=aa b04 b9;have r1:=r1.l b9;have r2:=r2.l b9;clear b9;have bd:Below w9.heap.size w9 w9.drew:=(Below.refl _ _).drew;have la5:=la4.l bd;have lb5:=lb4.l bd;have lc5:=lc4.l bd;have b05:=aa b04 bd;have r1:=r1.l bd;have r2:=r2.l bd;obtain⟨-,⟨c0,c1,c2⟩,-⟩:=id la5;obtain⟨-,⟨c3,c4,c5⟩,-⟩:=id lb5;clear la4 lb4 lc4 bd q0 q1 q2 q3 q4 q5
   go_wp2
   go_region_held3 (fun wq=>wq.cell? ⟨w.heap.size,0,none⟩=some (.bool sa)) (go_keep) (first
    | (go_at_call 109;refine(HMI.out Y X v1 v2 _ (by omega) (by omega) r1 r2).mono ?_;rintro z w6 ⟨vs,rfl,o6,b6⟩;have la6:=la5.l b6;have lb6:=lb5.l b6;have lc6:=lc5.l b6;have b06:=aa b05 b6;obtain⟨so,sc,hvs⟩:=o6.rd.shape;subst hvs;obtain⟨-,⟨t0,t1,t2⟩,-⟩:=id la6;clear r1)
    | (go_at_call 106;refine(l9 sa so _ sc _ _).mono ?_;rintro z w7 ⟨rfl,b7⟩;have la7:=la6.l b7;have lb7:=lb6.l b7;have lc7:=lc6.l b7;have b07:=aa b06 b7;obtain⟨-,⟨u0,u1,u2⟩,-⟩:=id la7;obtain⟨hl7,⟨d0,d1,d2⟩,f0,f1,f2⟩:=id lc7))
   all_goals go_wp2
   obtain⟨-,⟨g0,g1,g2⟩,-⟩:=aD lc7 (.bool sa) (.slice so (Dg.dg 4294967296 (X-Y)).length sc) (.int .i64 (min ae be));have o7:=(o6.l b7).apart3 (b:=w.heap.size+1+1) lc5.1 (.bool sa) (.slice so (Dg.dg 4294967296 (X-Y)).length sc) (.int .i64 (min ae be));have b8:=am b07 (show w.heap.size≤w.heap.size+1+1 by omega) (.bool sa) (.slice so (Dg.dg 4294967296 (X-Y)).length sc) (.int .i64 (min ae be))
   refine bodyPost_ret (v:= .agg #[.bool sa,.slice so (Dg.dg 4294967296 (X-Y)).length sc,.int .i64 (min ae be)]) (by simp[results,results62,go_sem,g0,g1,g2]) rfl ?_;exact⟨_,rfl,o7.lower b05.size,b8⟩
end Go.Proofs.YtbdokgamhinajaaGreatDoor
