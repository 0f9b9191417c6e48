/-
  Texts laid together: DecW, Ref6, Dr1, Co13, Ar2, Oq1, Eh1, Eh3, Cv11.
-/
import Derived.Test.YtlgkfdcmokchgaaGreatDoorUt10
import Derived.Test.YtlgkfdcmokchgaaGreatDoorUt11
import Derived.Test.YtlgkfdcmokchgaaGreatDoorUt12
import Derived.Test.YtlgkfdcmokchgaaGreatDoorUt17
set_option maxRecDepth 100000
set_option maxHeartbeats 3200000
namespace Go.Proofs.YtlgkfdcmokchgaaGreatDoor
open _root_.Go.Proofs.Tryz
open Go.RowKit
theorem MR (v:Value)(zs:List Nat)(w:World)(h:Rd w .u32 v zs)(hs:Dg.Small 4294967296 zs)(hno:Dg.Norm zs)(hl:zs.length≤1200):
  yC 35 #[v] w (yR w (.string (oW (Dg.vl 4294967296 zs)))):=by
 obtain⟨ao,ca,rfl⟩:=h.shape
 by_cases h0:zs.length=0
 ·obtain rfl:zs=[]:=List.eq_nil_of_length_eq_zero h0
  go_enter func35,ntmps35
  go_wp2
  go_ret
  exact⟨rfl,Below.refl _ _⟩
 ·obtain⟨n,hn⟩: ∃n,Dg.vl 4294967296 zs=n:=⟨_,rfl⟩
  have hlt:=Dg.vl_lt 4294967296 zs hs;have hne:=Dg.vl_ne_zero 4294967296 (by omega) zs (by intro e;subst e;simp at h0) hno;have hzn:Dg.dg 4294967296 n=zs:=by rw[←hn];exact Dg.dg_vl _ (by omega) zs hs hno
  rw[hn] at hlt hne⊢;have HZ:Hid _:=hzn;have HL:Hid _:=hlt;obtain⟨i0,hi,hz0,hz1,hz2⟩:=info_parts Tryz.infoU8;have hzl:((zs.length:Int)==0)=false:=by simp;intro e;subst e;simp at h0
  clear hn hzn hlt hs hno;have hcp:=Bz _ zs w h (by omega)
  go_enter func35,ntmps35
  go_wp2_with fail
  refine hcp.mono ?_;rintro e w1 ⟨rfl,own1,bel1⟩;clear hcp
  go_wp2
  go_loopg [3,4] n (fun m lv rv wr=>afn w zs.length n m lv rv wr)
  case atStart=>
   refine⟨[],zs.length,rfl, ?_,aQ _ _ _ _,⟨Dg.small_nil _ (by omega),by simp[Dg.vl]⟩,bel1,own1.block.2,Nat.le_refl _,by simp⟩;rw[HZ.out];exact own1
  case round=>
   clear own1 bel1;obtain⟨ds,len,rfl,ownR,ownL,hO,bel,hsz,hlen,hdL⟩:=hrel;have hlr:=ownR.len
   by_cases hm:gk=0
   ·subst hm
    have hnv:=hO.2;simp only[Nat.mul_zero,Nat.add_zero] at hnv;have hdsne:ds≠[]:=by intro e;subst e;exact hne hnv
    have hl0:len=0:=by rw[hlr];rfl
    subst hl0;obtain⟨g,cap,rfl,hgb,hgs⟩:=ownL.shapeOf (by simpa using hdsne);have hcl: ∀k,k<ds.length→wr.cell? ⟨g,k,none⟩=some (.int .u8 ((48+ds.getD k 0:Nat):Int)):=fun k hk=>by
     rw[ownL.c k (by simpa using hk)];simp[List.getD_eq_getElem?_getD,hk]
    have Hnv:Hid _:=hnv;have Hcl:Hid _:=hcl;clear hnv hcl hlr;simp only[List.length_map] at ownL⊢;have hcap:=ownL.cap
    go_wp2
    go_loop [6] (fun iv=> ∃k:Nat,0<k∧k≤ds.length∧iv=yi k∧Hid (∀i,k≤i→ds.getD i 0=0)) (fun iv=>(intOf iv).toNat)
    case atStart=>exact⟨ds.length,List.length_pos_iff.2 hdsne,Nat.le_refl _,rfl,fun i hi=>Dg.getD_of_le _ _ hi⟩
    case round=>
     obtain⟨k,hk0,hk,rfl,hz⟩:=hrel;have h1:=Hcl.out (k-1) (by omega);obtain⟨d,hd⟩: ∃d,ds.getD (k-1) 0=d:=⟨_,rfl⟩;rw[hd] at h1;have hd10:d<10:=by rw[←hd];exact hO.1 _
     have Hd:Hid _:=hd;clear hd
     by_cases hd0:d=0
     ·subst hd0
      have hk1:k≠1:=by
       intro e;subst e;refine hne (Hnv.out.trans (Dg.vl_zeros 10 ds (fun i=> ?_)))
       by_cases e:i=0
       ·rw[e];exact Hd.out
       ·exact hz i (by omega)
      go_wp2
      go_round
      case rel=>exact⟨k-1,by omega,by omega,by go_num,fun i hi=>by
       by_cases e:i=k-1
       ·rw[e];exact Hd.out
       ·exact hz i (by omega)⟩
      case measure=>simp[intOf];omega
     ·have ownT:=ownL.take k (by simpa using hk)
      have hrv:=MH g k cap (w.heap.size+1) _ wr ownT (by simp;omega);have hne48:((48+(d:Int))==48)=false:=by simp;omega
      go_wp2_with fail
      refine hrv.mono ?_;rintro e w3 ⟨rfl,ownV,gr⟩;have hcv:=lQ 63 9 underlying63 underlying5 underlying9 ownV;have htr:=Dg.trim_eq 10 (by omega) ds k hO.1 hk hz (fun _=>by rw[Hd.out];exact hd0)
      have bel3:=wX bel bel.size gr (by omega);have HF:Hid (cF (((ds.map (fun d=>48+d)).take k).reverse)=oW n):=XV hne Hnv.out htr
      clear htr hrv
      go_wp2
      go_ret
      exact⟨by rw[←HF.out];rfl,bel3⟩
   ·have hne2:Dg.dg 4294967296 gk≠[]:=fun e=>hm ((Dg.dg_nil_iff _ _ (by omega)).1 e)
    have hpos:0<len:=by
     rcases Nat.eq_zero_or_pos len with e|e
     ·exact absurd (List.eq_nil_of_length_eq_zero (by omega)) hne2
     ·exact e
    have hdl:=Xr hO hm HL.out;have hdb:=Kv w.heap.size len zs.length w.heap.size gk wr ownR (by omega);have hI:=Pd hO;have hgm:gk % 1000000000<1000000000:=Nat.mod_lt _ (by omega);have Hlr:Hid _:=hlr;clear hlr hne2
    go_wp2_with fail
    refine hdb.mono ?_;rintro e w2 ⟨qs,rfl,ownQ,hqs,hqv,gr⟩;have ownL2:=ownL.keep gr (by omega);have bel2:=wX bel bel.size gr (Nat.le_refl _);have hsz2:w.heap.size<w2.heap.size:=Nat.lt_of_lt_of_le hsz gr.size;have Hqv:Hid _:=hqv;clear hdb gr ownR ownL bel hsz hO hqv
    go_wp2
    go_loopw [3,5,20] (fun lv gv jv wr=>afo w zs.length n (gk/1000000000) len ds.length qs lv gv jv wr) (fun _ _ jv _=>(9-intOf jv).toNat)
    case atStart=>exact⟨ds,0,gk % 1000000000,rfl,rfl,by omega,by omega,hgm,ownQ,ownL2,hI,bel2,hsz2⟩
    case round=>
     clear ownQ ownL2 hI bel2 hsz2;obtain⟨es,j,g,rfl,rfl,hj9,hes,hg9,ownQ,ownL,hI,bel,hsz⟩:=hrel
     by_cases hj:j<9
     ·have hel:es.length<32*zs.length+9:=by omega
      have Hes:Hid _:=hes;clear hes;have hbs:=bel.size
      go_wp2_with (at_builtin;refine wpList_append_own _ rfl _ _ 63 rfl (w.heap.size+1) 5 i0 (.int .u8 0) 1 1 underlying63 hi hz0 hz1 hz2 rfl (by decide) _ _ _ rfl (World.ownsRow.alloc ownL _) ⟨wr.heap.size,0,none⟩ 1 1 [.int .u8 (48+(g:Int) % 10)] rfl rfl ?c1 ?c2 ?c3 ?c4 ?c5 ?_)
      case c1=>exact cell_one_new _ _ _
      case c2=>intro u hu;simp at hu;subst hu;rfl
      case c3=>simp only[List.length_map];unfold maxLen;omega
      case c4=>simp only[List.length_map];omega
      case c5=>simp;omega
      intro v' w3 hown' hgrow _;have R:=Qb bel hsz ownQ ownL hown' hgrow;clear hown' hgrow ownQ ownL
      go_wp2
      go_roundw
      case rel=>
       refine⟨es++[g % 10],j+1,g/10,by go_num,by go_num,by omega, ?_,by omega,R.1,R.2.1,TJ hI hj,R.2.2.1,R.2.2.2⟩;have:=Hes.out;simp;omega
      case measure=>simp[intOf];omega
     ·have hj':j=9:=by omega
      subst hj';have rdQ:=ownQ.rd
      go_wp2_with fail
      refine(jD _ _ _ qs _ rdQ).mono ?_;rintro e w' ⟨k,rfl,hk,rfl⟩;have ownT:=jW 4294967296 (by omega) ownQ hqs hk;rw[Hqv.out] at ownT;have hkl:=hk.1;have hql:=ownQ.len
      go_wp2
      go_roundg (gk/1000000000)
      case measure=>exact Nat.div_lt_self (by omega) (by omega)
      case rel=>exact⟨es,k,rfl,ownT,ownL,Xq hI,bel,hsz,by omega,by omega⟩
theorem kD (va:Value)(xs:List Nat)(n:Nat)(w:World)(ha:Rd w .i64 va xs)(sa:Dg.Small 65536 xs)(hla:xs.length≤1000000)(hnl:n≤1000000):
  yC 26 #[va,yi n] w (cG w (Dg.vl 65536 xs*2^n)):=by
 obtain⟨ao,ca,rfl⟩:=ha.shape
 by_cases hne:xs=[]
 ·subst hne
  have hz:Dg.vl 65536 []*2^n=0:=by simp[Dg.vl]
  rw[hz]
  go_enter func26,ntmps26
  go_wp2
  go_ret
  exact⟨_,rfl,(aQ _ 0 0 _).rd,Below.refl _ _⟩
 ·have h00:((xs.length:Int)==0)=false:=by simp;exact hne
  have hp:=pf n (n/16) (n % 16) w (by omega) (by omega) hnl;have hl:=Fr n
  go_enter func26,ntmps26
  go_wp2_with fail
  refine hp.mono ?_;rintro e w1 ⟨v1,rfl,r1,b1⟩;have ht:=fN _ v1 xs _ w1 (ha.l b1) r1 sa (Dg.small_dg _ _ (by omega)) hla (by omega);rw[Dg.vl_dg _ _ (by omega)] at ht
  go_wp2_with fail
  refine ht.mono ?_;rintro e w2 ⟨v2,rfl,r2,b2⟩;have b12:=aa b1 b2;clear ht hp
  go_wp2
  go_ret
  exact⟨_,rfl,r2,b12⟩
theorem lA (v:Value)(t:ak)(w:World)(hv:Rv w v t)(hL:(Dg.dg 65536 t.n).length≤100000)(he1: -1000000≤t.e)(he2:t.e≤1000000):
  yC 30 #[v] w (di w (bare t)):=by
 obtain⟨s0,rfl,hr⟩:=hv;obtain⟨ao,ca,rfl⟩:=hr.shape;obtain⟨ts,n,e⟩:=t;simp only at hr hL he1 he2⊢
 by_cases hn:n=0
 ·subst hn
  rw[show Dg.dg 65536 0=[] from rfl] at hr⊢
  rw[show bare ⟨ts,0,e⟩=⟨false,0,0⟩ from by unfold bare;rfl]
  go_enter func30,ntmps30
  go_wp2
  go_returns
  exact⟨_,rfl,aN _ _,(fun a n c h=>by cases h),((Below.refl _ _).alloc (Nat.le_refl _) _).alloc (by simp[World.size_alloc]) _⟩
 ·have h0:(((Dg.dg 65536 n).length:Int)==0)=false:=by simp[Dg.dg_nil_iff 65536 n (by omega)];exact hn
  have hsm:=Dg.small_dg 65536 n (by omega);have hnm:=Dg.norm_dg 65536 n (by omega);have hvl:=Dg.vl_dg 65536 n (by omega);have hne:Dg.dg 65536 n≠[]:=by rw[Ne,Dg.dg_nil_iff 65536 n (by omega)];exact hn
  obtain⟨xs,hx⟩: ∃xs,Dg.dg 65536 n=xs:=⟨_,rfl⟩;rw[hx] at hr hL h0 hsm hnm hvl hne⊢;have hlp:0<xs.length:=List.length_pos_iff.2 hne;have HNM:Hid (xs.getD (xs.length-1) 0≠0):=hnm hne;obtain⟨-,-,hcb⟩:=iQ hr;obtain⟨b,off,hao,hcell⟩:=hcb hlp;subst hao;have bA:=aa (af w (.cells (ydA ts (.slice (some ⟨b,off,none⟩) xs.length ca) e) 30)) (af _ (.cells (ydA false yN 0) 30))
  go_enter func30,ntmps30
  go_wp2
  go_loop [3] (fun nv=> ∃k:Nat,k<xs.length∧nv=yi ((16*k:Nat):Int)∧Hid (∀j,j<k→xs.getD j 0=0)) (fun nv=>xs.length-(intOf nv).toNat/16)
  case atStart=>exact⟨0,hlp,rfl,fun j hj=>absurd hj (Nat.not_lt_zero j)⟩
  case round=>
   obtain⟨k,hk,rfl,hzk⟩:=hrel;have hq:((16*k:Nat):Int)/16=(k:Int):=by omega
   have hc:=cell_later bA (hcell k hk);have hl:=hsm k;obtain⟨x,hxx⟩: ∃x,xs.getD k 0=x:=⟨_,rfl⟩;rw[hxx] at hc hl;have HX:Hid (xs.getD k 0=x):=hxx;clear hxx
   by_cases hx0:x=0
   ·subst hx0
    have hk1:k+1<xs.length:=by
     rcases Nat.lt_or_ge (k+1) xs.length with h|h
     ·exact h
     ·exfalso
      have:k=xs.length-1:=by omega
      exact HNM.out (by rw[←this];exact HX.out)
    go_wp2
    go_round
    case rel=>exact⟨k+1,hk1,by go_num,fun j hj=>by
     by_cases e:j=k
     ·rw[e];exact HX.out
     ·exact hzk.out j (by omega)⟩
    case measure=>simp[intOf];omega
   ·have h1:((x:Int)==0)=false:=by simp;exact hx0
    go_wp2
    have bd:Below (((w.alloc (.cells (ydA ts (.slice (some ⟨b,off,none⟩) xs.length ca) e) 30)).alloc (.cells (ydA false yN 0) 30))).heap.size ((w.alloc (.cells (ydA ts (.slice (some ⟨b,off,none⟩) xs.length ca) e) 30)).alloc (.cells (ydA false yN 0) 30)) ((w.alloc (.cells (ydA ts (.slice (some ⟨b,off,none⟩) xs.length ca) e) 30)).alloc (.cells (ydA false yN 0) 30)).drew:=(Below.refl _ _).drew;have l1:=((aA w (.bool ts) (.slice (some ⟨b,off,none⟩) xs.length ca) (yi e) 30).l (af _ (.cells (ydA false yN 0) 30))).l bd;have l2:=(aA (w.alloc (.cells (ydA ts (.slice (some ⟨b,off,none⟩) xs.length ca) e) 30)) (.bool false) yN (yi 0) 30).l bd;have z2:=(dI (w.alloc (.cells (ydA ts (.slice (some ⟨b,off,none⟩) xs.length ca) e) 30)) 30).l bd;rw[World.size_alloc] at l2 z2;have b02:=aa bA bd;clear bd
    go_loop [3,4] (fun nv dv=> ∃j d:Nat,nv=yi (16*(k:Int)+(j:Int))∧dv=yi (d:Int)∧0<d∧d≤x∧Hid (x=2^j*d)∧j≤16) (fun _ dv=>(intOf dv).toNat)
    case atStart=>exact⟨0,x,by simp,rfl,by omega,Nat.le_refl _,by show x=2^0*x;simp,by omega⟩
    case round=>
     obtain⟨j,d,rfl,rfl,hd0,hdx,hxd,hj⟩:=hrel
     by_cases hev:d % 2=0
     ·have e1:((d:Int) % 2==0)=true:=by simp;omega
      have hj2:j+1≤16:=by
       rcases Nat.lt_or_ge j 16 with h|h
       ·exact h
       ·exfalso
        have h2:2^16≤2^j:=Nat.pow_le_pow_right (by omega) h;have h3:2^j*1≤2^j*d:=Nat.mul_le_mul_left _ (by omega);rw[←hxd.out] at h3;omega
      go_wp2
      go_round
      case rel=>exact⟨j+1,d/2,by go_num,by go_num,by omega,by omega,by
       show x=2^ (j+1)*(d/2)
       rw[Nat.pow_succ,Nat.mul_assoc,show 2*(d/2)=d from by omega]
       exact hxd.out,hj2⟩
      case measure=>simp[intOf];omega
     ·have e1:((d:Int) % 2==0)=false:=by simp;omega
      obtain⟨m,hm⟩: ∃m,d=2*m+1:=⟨d/2,by omega⟩;have hj15:j<16:=by
       rcases Nat.lt_or_ge j 16 with h|h
       ·exact h
       ·exfalso
        have h2:2^16≤2^j:=Nat.pow_le_pow_right (by omega) h;have h3:2^j*1≤2^j*d:=Nat.mul_le_mul_left _ (by omega);rw[←hxd.out] at h3;omega
      have htz:=QY xs k j m hk hzk.out (by rw[HX.out,←hm];exact hxd.out) hj15;rw[hvl] at htz;have HB:Hid (bare ⟨ts,n,e⟩=⟨ts,n/2^ (16*k+j),e+(16*(k:Int)+(j:Int))⟩):=by
       show bare ⟨ts,n,e⟩=_
       unfold bare;rw[if_neg hn];simp only[htz];rw[show((16*k+j:Nat):Int)=16*(k:Int)+(j:Int) from by omega]
      have HD:Hid (∀w1,yB w w1→yC 27 #[.slice (some ⟨b,off,none⟩) xs.length ca,yi (16*(k:Int)+(j:Int))] w1 (Si w1 (n/2^ (16*k+j)))):=fun w1 b1=>by
       have:=MD _ xs (16*k+j) k j _ _ w1 (hr.l b1) hsm (by omega) rfl hj15 (by omega) rfl rfl
       rwa [hvl,show((16*k+j:Nat):Int)=16*(k:Int)+(j:Int) from by omega] at this
      obtain⟨q,hqq⟩: ∃q,n/2^ (16*k+j)=q:=⟨_,rfl⟩;rw[hqq] at HB HD;have e5:IntKind.i64.wrap (e+(16*(k:Int)+(j:Int)))=e+(16*(k:Int)+(j:Int)):=IntWalk.i64_in _ ⟨by omega,by omega⟩;obtain⟨-,⟨c0,c1,c2⟩,-⟩:=id l1;have ne3:w.heap.size+1≠w.heap.size:=by omega
      clear hqq htz hm hxd hev
      go_wp2
      go_region_held3 (fun wq=>wq.cell? ⟨w.heap.size,0,none⟩=some (.bool ts)∧wq.cell? ⟨w.heap.size,1,none⟩=some (.slice (some ⟨b,off,none⟩) xs.length ca)∧wq.cell? ⟨w.heap.size,2,none⟩=some (yi e)) (go_keep) (first
       | (go_at_call 27;refine(HD.out _ b02).mono ?_;rintro z w3 ⟨vs,rfl,r3,hF3,b3⟩;have l13:=l1.l b3;have l23:=l2.l b3;have z23:=z2.l b3;have b03:=aa b02 b3;obtain⟨so,sc,hvs⟩:=r3.shape;subst hvs;have HF:Hid (Far w.heap.size (yS so q sc)):=hF3.mono b02.size;clear hF3;obtain⟨-,⟨p0,p1,p2⟩,-⟩:=id l13;obtain⟨hl3,⟨d0,d1,d2⟩,f0,f1,f2⟩:=id l23))
      all_goals go_wp2
      obtain⟨-,⟨g0,g1,g2⟩,-⟩:=aD l23 (.bool ts) (yS so q sc) (yi (e+(16*(k:Int)+(j:Int))));have r7:=z23.rd r3 (Dg.norm_dg _ _ (by omega)) (.bool ts) (yS so q sc) (yi (e+(16*(k:Int)+(j:Int))));have b8:=am b03 (show w.heap.size≤w.heap.size+1 by omega) (.bool ts) (yS so q sc) (yi (e+(16*(k:Int)+(j:Int))))
      refine bodyPost_ret (v:=(ydV ts (yS so q sc) (e+(16*(k:Int)+(j:Int))))) (by simp[results,results30,go_sem,g0,g1,g2]) rfl ?_
      show di w (bare ⟨ts,n,e⟩) _ _
      rw[HB.out];exact⟨_,rfl,r7,HF.out,b8⟩
theorem Uz {P:Program}(W:World)(src dst e:TypeId)(s:ByteArray)(hs:P.underlying src=some .string)(hd:P.underlying dst=some (.slice e))(he:P.underlying e=some (.int .u8)):
  ∃W1 cap,(convert src dst (.string s)).run P W= .ok (.slice (some ⟨W.heap.size,0,none⟩) s.size cap) W1∧ik W1 W.heap.size (jr s)∧yB W W1:=by
 refine⟨_,_,run_bytes_of_string W src dst e s hs hd he, ?_, ?_⟩
 ·refine⟨fun i hi=> ?_,fun i hi=> ?_, ?_⟩
  ·have hi':i<s.data.size:=by rw[oV] at hi;exact hi
   rw[show W.heap.size=W.drew.heap.size from rfl,World.cell?_alloc_mark,bytesRow_at s _ i hi',jr,List.getD_eq_getElem?_getD,List.getElem?_map,Array.getElem?_toList,Array.getElem?_eq_getElem hi']
   rfl
  ·have hi':i<s.data.size:=by rw[oV] at hi;exact hi
   rw[show W.heap.size=W.drew.heap.size from rfl,World.frozen?_alloc_mark]
   have: ¬((bytesRow s (grownCap W s.size 0 e)).size≤i):=by
    unfold bytesRow;rw[Array.size_append,Array.size_map];omega
   simp[this]
  ·show W.heap.size< (W.drew.alloc _).heap.size
   rw[World.size_alloc];exact Nat.lt_succ_self _
 ·exact((Below.refl _ _).drew).alloc (Nat.le_refl _) _
theorem zZ {w w':World}{base e size k:Nat}{v:Value}{xs:List Value}(h:w.ownsRow base e size v k xs)(hb:yB w w'):w'.ownsRow base e size v k xs:=by
 obtain⟨hl,h2⟩:=h;refine⟨hl, ?_⟩
 rcases h2 with h2| ⟨g,cap,cur,hv,hbg,hh,r⟩
 ·exact .inl h2
 ·refine .inr ⟨g,cap,cur,hv,hbg, ?_,r⟩
  rw[hb.block g ?_]
  ·exact hh
  ·rw[Array.getElem?_eq_some_iff] at hh
   exact hh.1
theorem Nx {w w':World}{g:Nat}{k:IntKind}{v:Value}{zs:List Nat}(r:Rd w k v zs)(hg:w.grownBy w' (some g))(ho:wF g v zs):Rd w' k v zs:=by
 obtain⟨ao,cap,rfl,h1,h2,h3⟩:=r;refine⟨ao,cap,rfl,h1,h2,fun hp=> ?_⟩
 obtain⟨b,off,rfl,h4⟩:=h3 hp;refine⟨b,off,rfl,fun i hi=> ?_⟩
 have h5:=h4 i hi;have hlt:b<w.heap.size:=World.block_lt_of_cell? w _ h5;have hne:b≠g:=ho hp _ _ _ rfl;rw[←h5];unfold World.cell?;simp only;rw[hg.block b hlt (fun e=>hne (Option.some.inj e))]
theorem au.grownO {w w':World}{b:Nat}{ty:TypeId}{vs:List Value}{row:Option Nat}(h:au w b ty vs)(hg:w.grownBy w' row)(hne: ∀g,row=some g→b≠g):au w' b ty vs:=
 (hg.block b h.lt (fun e=>hne b e.symm rfl)).trans h
def rfG (n:Int)(p:ByteArray):Bool:=zR n.toNat (aZ n.toNat p) (aR n.toNat p) (aU n.toNat p)
def rfT (n:Int)(p:ByteArray):ak:=ji n.toNat (aZ n.toNat p) (aR n.toNat p) (aU n.toNat p)
def rfC (n : Int) (p : ByteArray) (v : Value) : List Value := [.int .i64 ((bM n p : Nat) : Int), .bool (rfG n p), .bool (rfT n p).s, v, .int .i64 (rfT n p).e]
def Gw (w:World)(n:Int)(g:Option Nat)(p:ByteArray)(v:Value):Prop:=
 (∃so sc,v= .slice so (Dg.dg 65536 (rfT n p).n).length sc)∧Rd w .i64 v (Dg.dg 65536 (rfT n p).n)∧ ∀b,g=some b→wF b v (Dg.dg 65536 (rfT n p).n)
def tg (w:World)(n:Int)(g:Option Nat):List ByteArray→List Value→Prop
 | [],cs=>cs=[]
 |p::ps,cs=> ∃v rest,cs=rfC n p v++rest∧Gw w n g p v∧tg w n g ps rest
theorem tg.mono {w w':World}{n:Int}{g g':Option Nat}(h: ∀p v,Gw w n g p v→Gw w' n g' p v): ∀{ps:List ByteArray} {cs:List Value},tg w n g ps cs→tg w' n g' ps cs
 | [],_,hc=>hc
 |p::_,_,hc=>by
  obtain⟨v,rest,h1,h2,h3⟩:=hc;exact⟨v,rest,h1,h p v h2,tg.mono h h3⟩
theorem Gw.l {w w':World}{n:Int}{g:Option Nat}{p:ByteArray}{v:Value}(h:Gw w n g p v)(hb:yB w w'):Gw w' n g p v:=⟨h.1,h.2.1.l hb,h.2.2⟩
structure ab5 (w:World) (n:Int) (ps:List ByteArray) (g cap:Nat):Prop where
 fit:ps.length≤cap
 most:cap≤maxLen
 each: ∀(i:Nat) p,ps[i]? =some p→ ∃so sc,w.rangeAt g (i*5) (rfC n p (.slice so (Dg.dg 65536 (rfT n p).n).length sc))∧Rd w .i64 (.slice so (Dg.dg 65536 (rfT n p).n).length sc) (Dg.dg 65536 (rfT n p).n)
theorem ab5.l {w w':World}{n:Int}{ps:List ByteArray}{g cap:Nat}(h:ab5 w n ps g cap)(hb:yB w w'):ab5 w' n ps g cap:=
 ⟨h.fit,h.most,fun i p hp=>by
  obtain⟨so,sc,h1,h2⟩:=h.each i p hp;exact⟨so,sc,aC h1 hb,h2.l hb⟩⟩
theorem RowAt.l {w w':World}{g:Option Nat}{v:Value}{zs:List Nat}(h:RowAt w g v zs)(hb:yB w w'):RowAt w' g v zs:=⟨h.1.l hb,h.2⟩
theorem RowAt.grow {w w':World}{g g':Option Nat}{v:Value}{zs:List Nat}(h:RowAt w g v zs)(hg:w.grownBy w' g)(hat:g'=g∨g'=some w.heap.size):RowAt w' g' v zs:=by
 obtain⟨k2,k3⟩:=h;refine⟨?_,fun b hb=> ?_⟩
 ·cases g with
  |none=>exact k2.l ⟨hg.os,hg.tape,hg.output,hg.size,fun j hj=>hg.block j hj (fun e=>nomatch e)⟩
  |some b=>exact Nx k2 hg (k3 b rfl)
 ·rcases hat with e|e
  ·exact k3 b (by rw[←e];exact hb)
  ·have hbw:b=w.heap.size:=by
    rw[e] at hb;exact(Option.some.inj hb).symm
   exact t9 k2 (by omega)
theorem DysAt.mono {w w':World}{g g':Option Nat}(h: ∀v zs,RowAt w g v zs→RowAt w' g' v zs): ∀{ts:List ak} {cs:List Value},DysAt w g ts cs→DysAt w' g' ts cs
 | [],_,hc=>hc
 |_::_,_,hc=>by
  obtain⟨so,sc,rest,h1,h2,h3⟩:=hc;exact⟨so,sc,rest,h1,h _ _ h2,DysAt.mono h h3⟩
theorem HdI.l {base:Nat}{ts:List ak}{lv:Value}{w w':World}(h:HdI base ts lv w)(hb:yB w w'):HdI base ts lv w':=by
 obtain⟨cs,h1,h2⟩:=h;exact⟨cs,zZ h1 hb,h2.mono (fun _ _ k=>k.l hb)⟩
theorem hd_more {base:Nat}{w1 w2:World}{ts us:List ak}{lv v':Value}{cs ds:List Value}(h2:DysAt w1 lv.ownBlock ts cs)(hx:DysAt w1 lv.ownBlock us ds)(hown:w2.ownsRow base 78 3 v' (ts.length+us.length) (cs++ds))(hg:w1.grownBy w2 lv.ownBlock)(hat:v'.ownBlock=lv.ownBlock∨v'.ownBlock=some w1.heap.size):
  HdI base (ts++us) v' w2:=by
 refine⟨cs++ds,by rw[List.length_append];exact hown, ?_⟩;exact(hx.mono (fun _ _ k=>k.grow hg hat)).app (h2.mono (fun _ _ k=>k.grow hg hat))
theorem hd_app {base:Nat}{ts us:List ak}{lv:Value}{W:World}{Q m:Nat}{ds:List Value}(h:HdI base ts lv W)(nl:au W Q 78 ds)(hx:DysAt W lv.ownBlock us ds)(hm:us.length=m)(h1: ∀u∈ds,u.oneCell'=true)(hl:ts.length+m≤1000)(hb:base≤W.heap.size):
  ∃v' w',Hid ((Builtin.append_ #[92,92] 92 #[lv,.slice (some ⟨Q,0,none⟩) m m]).run Tryz.prog W= .ok v' w')∧HdI base (ts++us) v' w'∧W.grownBy w' lv.ownBlock∧(v'.ownBlock=lv.ownBlock∨v'.ownBlock=some W.heap.size):=by
 obtain⟨i0,hi,hz0,hz1,hz2⟩:=info_parts (show(Tryz.prog.info? 78).map (fun i=>(i.zero,i.size,i.bytes))=some (some (ydV false yN 0),3,40) by kernel_rfl)
 obtain⟨cs,k1,k2⟩:=h;subst hm;obtain⟨v',w4,hrun,hown',hgrow,-,hat⟩:=run_append_own_at (P:=Tryz.prog) W base 92 92 78 i0 _ 3 40 underlying92 hi hz0 hz1 hz2 rfl (by omega) lv ts.length cs k1 ⟨Q,0,none⟩ us.length us.length ds hx.len (fun j u hj=>by
  have:=nl.c j hj;rw[Addr.add_mid,Nat.zero_add];exact this) h1 (by unfold maxLen;omega) (by omega) hb
 exact⟨v',w4,hrun,hd_more k2 hx hown' hgrow hat,hgrow,hat⟩
theorem DysV.l {w w':World}{ts:List ak}{g cap:Nat}(h:DysV w ts g cap)(hb:yB w w'):DysV w' ts g cap:=
 ⟨h.fit,h.most,fun i t ht=>by
  obtain⟨so,sc,h1,h2⟩:=h.each i t ht;exact⟨so,sc,aC h1 hb,h2.l hb⟩⟩
theorem row_one {w:World}{q r:Nat}{g:Option Nat}(h:au w q 54 [.int .u32 r])(hg: ∀b,g=some b→b≠q):RowAt w g (.slice (some ⟨q,0,none⟩) 1 1) [r]:=
 ⟨⟨_,1,rfl,Nat.le_refl _,by unfold maxLen;omega,fun _=>⟨q,0,rfl,fun i hi=>by
  obtain rfl:i=0:=by simpa using hi
  exact h.c 0 rfl⟩⟩,fun b hb _ a n c hv=>by
  cases hv
  exact fun e=>hg b hb e.symm⟩
theorem HdW.l {w wr w':World}{lv one up:Value}{U:Nat}{cs:List Value}{ts:List ak}(h:HdW w lv one up U cs ts wr)(hb:yB wr w'):HdW w lv one up U cs ts w':=
 ⟨aa h.1 hb,h.2.1.l hb,h.2.2.1.l hb,h.2.2.2.1.l hb,h.2.2.2.2.l hb⟩
theorem HdW.grow {w wr w':World}{lv v' one up:Value}{U:Nat}{cs:List Value}{ts us:List ak}(h:HdW w lv one up U cs ts wr)(hg:wr.grownBy w' lv.ownBlock)(hat:v'.ownBlock=lv.ownBlock∨v'.ownBlock=some wr.heap.size)(hn:HdI (w.heap.size+1) us v' w'):HdW w v' one up U cs us w':=by
 have hl:=h.lt;obtain⟨h1,h2,h3,h4,h5⟩:=h;exact⟨h1.grown hg h1.size (fun g hg=>by have:=hl g hg;omega),h2.grownO hg (fun g hg=>by have:=hl g hg;omega),hn,h4.grow hg hat,h5.grow hg hat⟩
theorem toInt_num1 (c n wy p pp r r1 f1:Int)(g ps ov un ex ok:Bool)(m P:Nat)(t:ak)(s:ByteArray)(w:World)(hc:(c != 1)=false)(hr1:r1=if ok=true then r else 0)(hf1:f1=if ok=true then(if ex=true then 0 else 1) else 16)
  (HQ: ∀w1,yB w w1→yC 38 #[yi n,.string s,yi wy] w1 (CRes w1 c g m p t 0))
  (HT: ∀xo xc w1,yC 40 #[yDV t xo xc] w1 fun z w'=> ∃eo ec,z= .returned (yrV t.s (yT xo t.n xc) (.slice eo 1 ec) t.e)∧Rd w' .u32 (.slice eo 1 ec) [1]∧yB w1 w')
  (HG: ∀xo xc eo ec w1,yB w w1→Rd w1 .u32 (yT xo t.n xc) (Dg.dg 4294967296 t.n)→Rd w1 .u32 (.slice eo 1 ec) [1]→yC 39 #[yrV t.s (yT xo t.n xc) (.slice eo 1 ec) t.e,ygV 2 64 0 0 true,yi wy] w1 fun z w'=> ∃po pc,z= .returned (.tuple #[ypV ps (yT po P pc) pp ex ov un,yi 0])∧Rd w' .u32 (yT po P pc) (Dg.dg 4294967296 P)∧yB w1 w')
  (HH: ∀po pc w1,yB w w1→Rd w1 .u32 (yT po P pc) (Dg.dg 4294967296 P)→yC 41 #[ypV ps (yT po P pc) pp ex ov un] w1 (yR w1 (.tuple #[yi r,.bool ok]))):
  yC 15 #[yi n,.string s,yi wy] w (yR w (.tuple #[yi r1,yi f1,yi 0])):=by
 replace HQ:Hid _:=HQ;replace HT:Hid _:=HT;replace HG:Hid _:=HG;replace HH:Hid _:=HH;replace hr1:Hid _:=hr1;replace hf1:Hid _:=hf1
 go_enter func15,ntmps15
 have b0:=Below.refl w.heap.size w
 go_wp2_with fail
 refine(HQ.out _ b0).mono ?_;rintro zz w1 ⟨v1x3,v2x4,rfl,r1x5,r2x6,bb2⟩;have b7:=aa b0 bb2;obtain⟨vo,vc,hv⟩:=r1x5.shape;subst hv;obtain⟨xo,xc,hv⟩:=r2x6.shape;subst hv;clear b0 bb2 HQ;obtain⟨W10,hW9,q11,q12,al8⟩:=iG w1 (yvL c g (yT vo m vc) p) 48 (yDL t xo xc) 78;replace hW9:Hid _:=hW9;have hl13:w.heap.size≤w1.heap.size:=b7.size;have r14:=r2x6.l al8;have b15:=aa b7 al8;clear r1x5 r2x6 b7 al8
 go_upto_region 2 with fail
 rw[hW9.out];clear hW9;obtain⟨W18,hW17,q19,al16⟩:=cA W10 (ygL 2 64 0 0 true) 82;replace hW17:Hid _:=hW17;have hl20:w.heap.size≤W10.heap.size:=b15.size;have hl21:=q12.lt;have c22:=q11.c 0 rfl;have q23:=q12.l al16;have r24:=r14.l al16;have b25:=aa b15 al16;clear q11 q12 r14 b15 al16
 go_upto_region 7 with fail
 rw[hW17.out];clear c22 hW17
 go_upto_region 7 with fail
 have bW26:yB W18 W18.drew:=(Below.refl _ _).drew;have q27:=q23.l bW26;have q28:=q19.l bW26;have r29:=r24.l bW26;have b30:=aa b25 bW26;clear q23 q19 r24 b25 bW26;refine wp_region_held_drew (S:=fun wq=>au wq (w1.heap.size+1) 78 (yDL t xo xc)∧au wq W10.heap.size 82 (ygL 2 64 0 0 true)) (by kernel_rfl) ⟨q27,q28⟩ (fun hS0=> ?_)
 generalize W18.drew=WD31 at q27 q28 r29 b30 hS0⊢;refine tq 0 (yDV t xo xc) rfl (fun _ hw0=>fy 78 (.tmp 10) rfl (w1.heap.size+1) 0 (by kernel_rfl) _ _ hw0.1.range underlying78 rfl (by kernel_rfl)) hS0 ?_
 refine tq 2 (ygV 2 64 0 0 true) rfl (fun _ hw0=>fy 82 (.tmp 12) rfl W10.heap.size 0 (by kernel_rfl) _ _ hw0.2.range underlying82 rfl (by kernel_rfl)) hS0 ?_
 refine tq 3 (yi wy) rfl (fun _ _=>by kernel_rfl) hS0 ?_
 refine wpAnyH_ready (rs:=[1,8]) (by kernel_rfl) (by simp) ?_;refine AllReadyH.cons rfl (fun K hK=> ?_) (AllReadyH.cons rfl (fun K hK=> ?_) AllReadyH.nil)
 ·go_simp
  refine(HT.out _ _ _).mono ?_;rintro zz w32 ⟨eo,ec,rfl,r1x34,bb33⟩;have q35:=q27.l bb33;have q36:=q28.l bb33;have r37:=r29.l bb33;have b38:=aa b30 bb33;clear q27 q28 r29 b30 bb33 HT;refine hK.out _ _ ⟨q35,q36⟩ (fun hS39=> ?_)
  clear hK K;refine wpAnyH_ready (rs:=[4,8]) (by kernel_rfl) (by simp) ?_;refine AllReadyH.cons rfl (fun K hK=> ?_) (AllReadyH.cons rfl (fun K hK=> ?_) AllReadyH.nil)
  ·go_simp
   refine(HG.out _ _ _ _ _ b38 r37 r1x34).mono ?_;rintro zz w40 ⟨po,pc,rfl,r1x42,bb41⟩;have q43:=q35.l bb41;have q44:=q36.l bb41;have b45:=aa b38 bb41;clear q35 q36 r37 r1x34 b38 bb41 HG;refine hK.out _ _ ⟨q43,q44⟩ (fun hS46=> ?_)
   clear hK K;refine tq 5 (.tuple #[ypV ps (yT po P pc) pp ex ov un,yi 0]) rfl (fun _ _=>by kernel_rfl) hS46 ?_
   refine tq 6 (ypV ps (yT po P pc) pp ex ov un) rfl (fun _ _=>by go_simp) hS46 ?_
   refine tq 7 (yi 0) rfl (fun _ _=>by go_simp) hS46 ?_
   refine wpAnyH_ready (rs:=[8]) (by kernel_rfl) (by simp) ?_;refine AllReadyH.cons rfl (fun K hK=> ?_) AllReadyH.nil
   go_simp
   have al47:=af w40 (.cells (ypA false yN 0 false false false) 84);have q48:=ah w40 (ypL false yN 0 false false false) 84;have hl51:w.heap.size≤w40.heap.size:=b45.size;have hl52:=q43.lt;have hl53:=q44.lt;have q54:=q43.l al47;have q55:=q44.l al47;have r56:=r1x42.l al47;have b57:=aa b45 al47;refine hK.out _ _ ⟨q54,q55⟩ (fun hS58=> ?_)
   clear hK K;clear q43 q44 r1x42 b45 al47;generalize w40.alloc (.cells (ypA false yN 0 false false false) 84)=WN49 at q54 q55 q48 r56 b57 hS58⊢;generalize w40.heap.size=PQ50 at q48 hl51 hl52 hl53⊢;refine wpAnyH_ready (rs:=[9]) (by kernel_rfl) (by simp) ?_;refine AllReadyH.cons rfl (fun K hK=> ?_) AllReadyH.nil
   have bu:But PQ50 WN49 (WN49.setCells PQ50 0 (ypL ps (yT po P pc) pp ex ov un)):=de _ _ _ _;have hth:WN49.there PQ50 0 6:=dD q48;have q59:au (WN49.setCells PQ50 0 (ypL ps (yT po P pc) pp ex ov un)) PQ50 84 (ypL ps (yT po P pc) pp ex ov un):=q48.sets _ rfl;have r60:=bu.rd r56 (aX r56 q48 (by simp));have q61:=bu.loc q54 (by omega);have q62:=bu.loc q55 (by omega);have b63:=bu.below b57 (by omega);rw[if_pos (by kernel_rfl)];refine wp_store_mid 84 (.tmp 13) (.tmp 42) rfl PQ50 0 (ypA ps (yT po P pc) pp ex ov un) (by kernel_rfl) (by kernel_rfl) hth (by kernel_rfl) (by simp[Value.oneCell']) ?_;refine hK.out _ _ ⟨q61,q62⟩ (fun hS64=> ?_)
   clear hK K;clear q48 r56 q54 q55 b57 bu hth;refine tq 10 (yi 0) rfl (fun _ _=>by kernel_rfl) hS64 ?_
   refine wpAnyH_done (by kernel_rfl) ?_ _;clear hS0 hS39 hS46 hS58 hS64;change Exit.then _ _ _ _ (World.setCells WN49 PQ50 0 (ypL ps (yT po P pc) pp ex ov un));generalize World.setCells WN49 PQ50 0 (ypL ps (yT po P pc) pp ex ov un)=W65 at q61 q62 q59 r60 b63⊢;simp only[Act.put,List.getElem_toArray,List.getElem_cons_succ,List.getElem_cons_zero,List.setIfInBounds_toArray,List.set_cons_zero,List.set_cons_succ];obtain⟨c66,c67,c68,c69,c70,c71⟩:=q59.cs6
   go_wp2_with fail
   refine(HH.out _ _ _ b63 r60).mono ?_;rintro zz w72 ⟨rfl,bb73⟩;have q74:=q59.l bb73;have b75:=aa b63 bb73;clear q61 q62 q59 r60 b63 bb73 HH c66 c67 c68 c69 c70 c71;obtain⟨d0,d1,d2,d3,d4,d5⟩:=q74.cs6;have bf:=b75;clear b75;replace hr1:=hr1.out;replace hf1:=hf1.out
   cases ok
   all_goals cases ex
   all_goals simp at hr1 hf1
   all_goals subst hr1 hf1
   all_goals
    go_wp2
    go_ret3
    exact⟨by simp,bf⟩
  ·go_simp
   have al40:=af w32 (.cells (ypA false yN 0 false false false) 84);have q41:=ah w32 (ypL false yN 0 false false false) 84;have hl44:w.heap.size≤w32.heap.size:=b38.size;have hl45:=q35.lt;have hl46:=q36.lt;have q47:=q35.l al40;have q48:=q36.l al40;have r49:=r37.l al40;have r50:=r1x34.l al40;have b51:=aa b38 al40;refine hK.out _ _ ⟨q47,q48⟩ (fun hS52=> ?_)
   clear hK K;clear q35 q36 r37 r1x34 b38 al40;generalize w32.alloc (.cells (ypA false yN 0 false false false) 84)=WN42 at q47 q48 q41 r49 r50 b51 hS52⊢;generalize w32.heap.size=PQ43 at q41 hl44 hl45 hl46⊢;refine wpAnyH_ready (rs:=[4]) (by kernel_rfl) (by simp) ?_;refine AllReadyH.cons rfl (fun K hK=> ?_) AllReadyH.nil
   go_simp
   refine(HG.out _ _ _ _ _ b51 r49 r50).mono ?_;rintro zz w53 ⟨po,pc,rfl,r1x55,bb54⟩;have q56:=q47.l bb54;have q57:=q48.l bb54;have q58:=q41.l bb54;have b59:=aa b51 bb54;clear q47 q48 q41 r49 r50 b51 bb54 HG;refine hK.out _ _ ⟨q56,q57⟩ (fun hS60=> ?_)
   clear hK K;refine tq 5 (.tuple #[ypV ps (yT po P pc) pp ex ov un,yi 0]) rfl (fun _ _=>by kernel_rfl) hS60 ?_
   refine tq 6 (ypV ps (yT po P pc) pp ex ov un) rfl (fun _ _=>by go_simp) hS60 ?_
   refine tq 7 (yi 0) rfl (fun _ _=>by go_simp) hS60 ?_
   refine wpAnyH_ready (rs:=[9]) (by kernel_rfl) (by simp) ?_;refine AllReadyH.cons rfl (fun K hK=> ?_) AllReadyH.nil
   have bu:But PQ43 w53 (w53.setCells PQ43 0 (ypL ps (yT po P pc) pp ex ov un)):=de _ _ _ _;have hth:w53.there PQ43 0 6:=dD q58;have q61:au (w53.setCells PQ43 0 (ypL ps (yT po P pc) pp ex ov un)) PQ43 84 (ypL ps (yT po P pc) pp ex ov un):=q58.sets _ rfl;have r62:=bu.rd r1x55 (aX r1x55 q58 (by simp));have q63:=bu.loc q56 (by omega);have q64:=bu.loc q57 (by omega);have b65:=bu.below b59 (by omega);rw[if_pos (by kernel_rfl)];refine wp_store_mid 84 (.tmp 13) (.tmp 42) rfl PQ43 0 (ypA ps (yT po P pc) pp ex ov un) (by kernel_rfl) (by kernel_rfl) hth (by kernel_rfl) (by simp[Value.oneCell']) ?_;refine hK.out _ _ ⟨q63,q64⟩ (fun hS66=> ?_)
   clear hK K;clear q58 r1x55 q56 q57 b59 bu hth;refine tq 10 (yi 0) rfl (fun _ _=>by kernel_rfl) hS66 ?_
   refine wpAnyH_done (by kernel_rfl) ?_ _;clear hS0 hS39 hS52 hS60 hS66;change Exit.then _ _ _ _ (World.setCells w53 PQ43 0 (ypL ps (yT po P pc) pp ex ov un));generalize World.setCells w53 PQ43 0 (ypL ps (yT po P pc) pp ex ov un)=W67 at q63 q64 q61 r62 b65⊢;simp only[Act.put,List.getElem_toArray,List.getElem_cons_succ,List.getElem_cons_zero,List.setIfInBounds_toArray,List.set_cons_zero,List.set_cons_succ];obtain⟨c68,c69,c70,c71,c72,c73⟩:=q61.cs6
   go_wp2_with fail
   refine(HH.out _ _ _ b65 r62).mono ?_;rintro zz w74 ⟨rfl,bb75⟩;have q76:=q61.l bb75;have b77:=aa b65 bb75;clear q63 q64 q61 r62 b65 bb75 HH c68 c69 c70 c71 c72 c73;obtain⟨d0,d1,d2,d3,d4,d5⟩:=q76.cs6;have bf:=b77;clear b77;replace hr1:=hr1.out;replace hf1:=hf1.out
   cases ok
   all_goals cases ex
   all_goals simp at hr1 hf1
   all_goals subst hr1 hf1
   all_goals
    go_wp2
    go_ret3
    exact⟨by simp,bf⟩
 ·go_simp
  have al32:=af WD31 (.cells (ypA false yN 0 false false false) 84);have q33:=ah WD31 (ypL false yN 0 false false false) 84;have hl36:w.heap.size≤WD31.heap.size:=b30.size;have hl37:=q27.lt;have hl38:=q28.lt;have q39:=q27.l al32;have q40:=q28.l al32;have r41:=r29.l al32;have b42:=aa b30 al32;refine hK.out _ _ ⟨q39,q40⟩ (fun hS43=> ?_)
  clear hK K;clear q27 q28 r29 b30 al32;generalize WD31.alloc (.cells (ypA false yN 0 false false false) 84)=WN34 at q39 q40 q33 r41 b42 hS43⊢;generalize WD31.heap.size=PQ35 at q33 hl36 hl37 hl38⊢;refine wpAnyH_ready (rs:=[1]) (by kernel_rfl) (by simp) ?_;refine AllReadyH.cons rfl (fun K hK=> ?_) AllReadyH.nil
  go_simp
  refine(HT.out _ _ _).mono ?_;rintro zz w44 ⟨eo,ec,rfl,r1x46,bb45⟩;have q47:=q39.l bb45;have q48:=q40.l bb45;have q49:=q33.l bb45;have r50:=r41.l bb45;have b51:=aa b42 bb45;clear q39 q40 q33 r41 b42 bb45 HT;refine hK.out _ _ ⟨q47,q48⟩ (fun hS52=> ?_)
  clear hK K;refine wpAnyH_ready (rs:=[4]) (by kernel_rfl) (by simp) ?_;refine AllReadyH.cons rfl (fun K hK=> ?_) AllReadyH.nil
  go_simp
  refine(HG.out _ _ _ _ _ b51 r50 r1x46).mono ?_;rintro zz w53 ⟨po,pc,rfl,r1x55,bb54⟩;have q56:=q47.l bb54;have q57:=q48.l bb54;have q58:=q49.l bb54;have b59:=aa b51 bb54;clear q47 q48 q49 r50 r1x46 b51 bb54 HG;refine hK.out _ _ ⟨q56,q57⟩ (fun hS60=> ?_)
  clear hK K;refine tq 5 (.tuple #[ypV ps (yT po P pc) pp ex ov un,yi 0]) rfl (fun _ _=>by kernel_rfl) hS60 ?_
  refine tq 6 (ypV ps (yT po P pc) pp ex ov un) rfl (fun _ _=>by go_simp) hS60 ?_
  refine tq 7 (yi 0) rfl (fun _ _=>by go_simp) hS60 ?_
  refine wpAnyH_ready (rs:=[9]) (by kernel_rfl) (by simp) ?_;refine AllReadyH.cons rfl (fun K hK=> ?_) AllReadyH.nil
  have bu:But PQ35 w53 (w53.setCells PQ35 0 (ypL ps (yT po P pc) pp ex ov un)):=de _ _ _ _;have hth:w53.there PQ35 0 6:=dD q58;have q61:au (w53.setCells PQ35 0 (ypL ps (yT po P pc) pp ex ov un)) PQ35 84 (ypL ps (yT po P pc) pp ex ov un):=q58.sets _ rfl;have r62:=bu.rd r1x55 (aX r1x55 q58 (by simp));have q63:=bu.loc q56 (by omega);have q64:=bu.loc q57 (by omega);have b65:=bu.below b59 (by omega);rw[if_pos (by kernel_rfl)];refine wp_store_mid 84 (.tmp 13) (.tmp 42) rfl PQ35 0 (ypA ps (yT po P pc) pp ex ov un) (by kernel_rfl) (by kernel_rfl) hth (by kernel_rfl) (by simp[Value.oneCell']) ?_;refine hK.out _ _ ⟨q63,q64⟩ (fun hS66=> ?_)
  clear hK K;clear q58 r1x55 q56 q57 b59 bu hth;refine tq 10 (yi 0) rfl (fun _ _=>by kernel_rfl) hS66 ?_
  refine wpAnyH_done (by kernel_rfl) ?_ _;clear hS0 hS43 hS52 hS60 hS66;change Exit.then _ _ _ _ (World.setCells w53 PQ35 0 (ypL ps (yT po P pc) pp ex ov un));generalize World.setCells w53 PQ35 0 (ypL ps (yT po P pc) pp ex ov un)=W67 at q63 q64 q61 r62 b65⊢;simp only[Act.put,List.getElem_toArray,List.getElem_cons_succ,List.getElem_cons_zero,List.setIfInBounds_toArray,List.set_cons_zero,List.set_cons_succ];obtain⟨c68,c69,c70,c71,c72,c73⟩:=q61.cs6
  go_wp2_with fail
  refine(HH.out _ _ _ b65 r62).mono ?_;rintro zz w74 ⟨rfl,bb75⟩;have q76:=q61.l bb75;have b77:=aa b65 bb75;clear q63 q64 q61 r62 b65 bb75 HH c68 c69 c70 c71 c72 c73;obtain⟨d0,d1,d2,d3,d4,d5⟩:=q76.cs6;have bf:=b77;clear b77;replace hr1:=hr1.out;replace hf1:=hf1.out
  cases ok
  all_goals cases ex
  all_goals simp at hr1 hf1
  all_goals subst hr1 hf1
  all_goals
   go_wp2
   go_ret3
   exact⟨by simp,bf⟩
end Go.Proofs.YtlgkfdcmokchgaaGreatDoor
