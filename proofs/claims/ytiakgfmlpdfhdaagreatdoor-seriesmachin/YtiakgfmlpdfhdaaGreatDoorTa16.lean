/-
  Texts laid together: Div1, Bits, Dy1, Lk2, Dy3, Dr1, Aw0, Dy9, Dl8, Bl1, Bl6, Bs2, Bs1, Co15, Se1, Sp1, BlN, BlM.
-/
import Derived.Test.YtiakgfmlpdfhdaaGreatDoorTa04
import Derived.Test.YtiakgfmlpdfhdaaGreatDoorTa05
import Derived.Test.YtiakgfmlpdfhdaaGreatDoorTa06
import Derived.Test.YtiakgfmlpdfhdaaGreatDoorTa07
import Derived.Test.YtiakgfmlpdfhdaaGreatDoorTa08
import Derived.Test.YtiakgfmlpdfhdaaGreatDoorTa09
set_option maxRecDepth 100000
set_option maxHeartbeats 3200000
namespace Go.Proofs.YtiakgfmlpdfhdaaGreatDoor
open _root_.Go.Proofs.Tryz
open Go.RowKit
theorem Bz (v:Value)(zs:List Nat)(w:World)(h:Rd w .u32 v zs)(hl:zs.length≤1000000):
  yC 103 #[v] w fun e w'=>e= .returned (.slice (some ⟨w.heap.size,0,none⟩) zs.length zs.length)∧Own w' w.heap.size 49 .u32 (.slice (some ⟨w.heap.size,0,none⟩) zs.length zs.length) zs∧yB w w':=by
 obtain⟨i0,hi,hz0,hz1,hz2⟩:=info_parts Tryz.infoU32;have hsz:(Tryz.prog.info? 49).map (·.size)=some 1:=by rw[hi];simp[hz1]
 obtain⟨ao,ca,rfl⟩:=h.shape
 go_enter func103,ntmps103
 go_wp2_with (at_make;refine wpList_make_full _ rfl _ _ 92 rfl w.heap.size 49 i0 (.int .u32 0) 1 underlying92 hi hz0 hz1 _ _ _ _ zs.length rfl rfl (by omega) (by omega) ?b2 ?b3 (Nat.le_refl _) ?_)
 case b2=>rw[hz2];omega
 case b3=>unfold maxLen;omega
 intro w0 hown0 hgrow0;have own0:=gL hown0;have bel0:yB w w0:=(Below.refl _ _).grown hgrow0 (Nat.le_refl _) (fun k h=>by cases h)
 obtain⟨w1,hrun,own1,gr1⟩:=Nw 92 92 3 underlying92 hsz own0 (h.l bel0) (by simp);have bel1:=bel0.grown gr1 bel0.size (fun k hk=>by cases hk;exact Nat.le_refl _)
 clear hown0 hgrow0 hsz
 go_wp2
 go_ret
 refine⟨rfl, ?_,bel1⟩;have e:zs++(List.replicate zs.length 0).drop zs.length=zs:=by simp
 rw[e] at own1;exact own1
theorem kE (va:Value)(xs:List Nat)(w:World)(ha:Rd w .u32 va xs)(sa:Dg.Small 4294967296 xs)(na:Dg.Norm xs)(hla:xs.length≤1000000):
  yC 75 #[va] w fun e w'=>e= .returned (yi (bitLen (Dg.vl 4294967296 xs):Nat))∧w'=w:=by
 obtain⟨ao,ca,rfl,-,-,hca⟩:=ha
 by_cases h0:xs.length=0
 ·obtain rfl:xs=[]:=List.eq_nil_of_length_eq_zero h0
  go_enter func75,ntmps75
  go_wp2
  go_ret
  exact⟨rfl,rfl⟩
 ·have hne:xs≠[]:=by intro e;subst e;simp at h0
  obtain⟨b,off,rfl,hcell⟩:=hca (by omega);have hc:=hcell (xs.length-1) (by omega);have hs:=sa (xs.length-1);rw[IL 4294967296 32 (by decide) (by omega) xs sa na hne];obtain⟨x,ex⟩: ∃x,xs.getD (xs.length-1) 0=x:=⟨_,rfl⟩;rw[ex] at hc hs⊢;have hbl:=bF x 32 (by omega);have h3:=IK x w hs;obtain⟨l,hl⟩: ∃l,bitLen x=l:=⟨_,rfl⟩;rw[hl] at h3 hbl⊢;have h00:((xs.length:Int)==0)=false:=by simp;intro e;subst e;simp at h0
  clear ex hcell hca hne hl
  go_enter func75,ntmps75
  go_wp2_with fail
  refine h3.mono ?_;rintro e w' ⟨rfl,rfl⟩
  go_wp2
  go_ret
  exact⟨by go_num,rfl⟩
theorem Zw (x:Nat)(w:World)(hx:x<4294967296)(hx0:x≠0)(hT:Tab w):
  yC 97 #[.int .u32 x] w fun e w'=> ∃k m:Nat,e= .returned (yi k)∧x=2^k*(2*m+1)∧k<32∧w'=w:=by
 obtain⟨hlow,hk⟩:=Lib.lowest_bit 32 x hx0 hx;obtain⟨hi,htab⟩:=Lib.deBruijn32_at _ hk;obtain⟨m,hm,_⟩:=Lib.ctzFrom_spec 32 x (by omega) hx;have e0:Lib.ctz 32 x=Lib.ctzFrom 32 x:=by simp[Lib.ctz,hx0]
 have hcell:=hT _ hi;rw[htab] at hcell;refine(Vp x _ _ w (by simp;omega) (tz32_key x _ hx hx0 hlow) hi hk hcell).mono ?_;rintro e w' ⟨rfl,rfl⟩;exact⟨_,m,rfl,by rw[e0];exact hm,hk,rfl⟩
theorem Gl (v:Value)(n:Nat)(w:World)(hv:Rd w .u32 v (Dg.dg 4294967296 n))(hL:(Dg.dg 4294967296 n).length≤1000000)(hT:Tab w):
  yC 76 #[v] w fun e w'=>e= .returned (yi ((if n=0 then 0 else tz n:Nat):Int))∧w'=w:=by
 have hs:=Dg.small_dg 4294967296 n (by omega);have hvl:=Dg.vl_dg 4294967296 n (by omega);have hz:(∀j,(Dg.dg 4294967296 n).getD j 0=0)→n=0:=fun h=>by rw[←hvl];exact Dg.vl_zeros _ _ h
 obtain⟨xs,hx⟩: ∃xs,Dg.dg 4294967296 n=xs:=⟨_,rfl⟩;rw[hx] at hv hs hvl hz hL;obtain⟨ao,ca,rfl⟩:=hv.shape;obtain⟨hlc,hm,hcb⟩:=iQ hv;have HZ:Hid (∀k,xs.length≤k→(∀j,j<k→xs.getD j 0=0)→n=0):=fun k hk h=>hz (fun j=>by
  by_cases hj:j<k
  ·exact h j hj
  ·simp[List.getD_eq_getElem?_getD,show xs.length≤j from by omega])
 have HN:Hid _:=hvl;clear hx hz hvl hv
 go_enter func76,ntmps76
 go_wp2
 go_loop [7] (fun iv=> ∃k:Nat,k≤xs.length∧iv=yi k∧Hid (∀j,j<k→xs.getD j 0=0)) (fun iv=>xs.length-(intOf iv).toNat)
 case atStart=>exact⟨0,Nat.zero_le _,rfl,fun j hj=>absurd hj (Nat.not_lt_zero j)⟩
 case round=>
  obtain⟨k,hk,rfl,hzk⟩:=hrel
  by_cases hlt:k<xs.length
  ·obtain⟨b,off,rfl,hcell⟩:=hcb (by omega)
   have hc:=hcell k hlt;have hl:=hs k;obtain⟨x,hx⟩: ∃x,xs.getD k 0=x:=⟨_,rfl⟩;rw[hx] at hc hl;have HX:Hid _:=hx;clear hx hcell hcb
   by_cases hx0:x=0
   ·subst hx0
    go_wp2
    go_round
    case rel=>exact⟨k+1,by omega,by go_num,fun j hj=>by
     by_cases e:j=k
     ·rw[e];exact HX.out
     ·exact hzk.out j (by omega)⟩
    case measure=>simp[intOf];omega
   ·have ht:=Zw x w hl hx0 hT
    have h0:((x:Int)==0)=false:=by simp;exact hx0
    go_wp2_with fail
    refine ht.mono ?_;rintro e w' ⟨t,m,rfl,hxm,htl,rfl⟩;have e1:=Zx xs k t m hlt hzk.out (by rw[HX.out];exact hxm) htl;rw[HN.out] at e1;have hn0:n≠0:=by
     intro e;have h2:=adl 4294967296 xs k (by omega) hs (by rw[HN.out];exact e);rw[HX.out] at h2;exact hx0 h2
    clear ht hxm
    go_wp2
    go_ret
    refine⟨?_,rfl⟩
    first|rfl| (rw[e1];rfl)| (simp only[e1];rfl)| (show Ending.returned (Value.int IntKind.i64 (32*(k:Int)+(t:Int)))=_;rw[e1];rfl)
  ·have hn0:=HZ.out k (by omega) hzk.out
   go_wp2
   go_ret
   subst hn0;exact⟨rfl,rfl⟩
theorem But.own {b:Nat}{w w':World}{base e:Nat}{k:IntKind}{v:Value}{zs:List Nat}(h:But b w w')(r:Own w base e k v zs){ty:TypeId}{vs:List Value}(hl:au w b ty vs)(hty:ty≠e):Own w' base e k v zs:=by
 obtain⟨h0,h2⟩:=r;refine⟨h0, ?_⟩
 rcases h2 with h2| ⟨g',cap',cur,hv,hbg,hh,r⟩
 ·exact .inl h2
 ·refine .inr ⟨g',cap',cur,hv,hbg, ?_,r⟩
  have hne:g'≠b:=by
   intro e;subst e;unfold au at hl;rw[hl] at hh;simp only[Option.some.injEq,Obj.cells.injEq] at hh;exact hty hh.2.1
  rw[h.block g' hne];exact hh
theorem Loc.apart {w:World}{b c:Nat}{v0 v1 v2:Value}(h:Loc w b v0 v1 v2)(hne:c≠b)(x0 x1 x2:Value):
  Loc (((w.setCell ⟨c,0,none⟩ x0).setCell ⟨c,1,none⟩ x1).setCell ⟨c,2,none⟩ x2) b v0 v1 v2:=by
 obtain⟨hl,⟨c0,c1,c2⟩,f0,f1,f2⟩:=h;refine⟨by simpa using hl,⟨?_, ?_, ?_⟩,by simpa using f0,by simpa using f1,by simpa using f2⟩
 ·rw[World.cell?_setCell_other (h:=by simp),World.cell?_setCell_other (h:=by simp),World.cell?_setCell_other (h:=by simp)];exact c0
 ·rw[World.cell?_setCell_other (h:=by simp),World.cell?_setCell_other (h:=by simp),World.cell?_setCell_other (h:=by simp)];exact c1
 ·rw[World.cell?_setCell_other (h:=by simp),World.cell?_setCell_other (h:=by simp),World.cell?_setCell_other (h:=by simp)];exact c2
theorem gu {w:World}{b:Nat}{v:Value}{zs:List Nat}(hr:Rd w .u32 v zs)(h:ZB w b)(_hn:Dg.Norm zs)(x0 x1 x2:Value):
  Rd (((w.setCell ⟨b,0,none⟩ x0).setCell ⟨b,1,none⟩ x1).setCell ⟨b,2,none⟩ x2) .u32 v zs:=by
 obtain⟨hl,ty,hh⟩:=h;obtain⟨ao,cap,rfl,h1,h2,h3⟩:=hr;refine⟨ao,cap,rfl,h1,h2,fun hp=> ?_⟩
 obtain⟨c,off,rfl,hc⟩:=h3 hp;refine⟨c,off,rfl,fun i hi=> ?_⟩
 have hne:c≠b:=by
  intro e;subst e;have k1:=hc (zs.length-1) (by omega);unfold World.cell? at k1;simp only[hh] at k1;obtain⟨o,ho⟩: ∃o,off+(zs.length-1)=o:=⟨_,rfl⟩;rw[ho] at k1
  match o,k1 with
  |0,k1=>simp at k1
  |1,k1=>simp at k1
  |2,k1=>simp at k1
  |o+3,k1=>simp at k1
 rw[World.cell?_setCell_other (h:=by simp),World.cell?_setCell_other (h:=by simp),World.cell?_setCell_other (h:=by simp)];exact hc i hi
theorem afy {P:Program}{w0 w:World}{n b:Nat}{ty:TypeId}{z0 z1 z2:Value}{d:TypeDesc}(h:au w b ty [z0,z1,z2])(hb:Below n w0 w)(hn:n≤b)(hu:P.underlying ty=some d)(hd:d.isRow=true)(hi:(P.info? ty).map (·.size)=some 3)(v0 v1 v2:Value):
  (loadVar ty ⟨b,0,none⟩).run P (((w.setCell ⟨b,0,none⟩ v0).setCell ⟨b,1,none⟩ v1).setCell ⟨b,2,none⟩ v2)= .ok (.agg #[v0,v1,v2]) (((w.setCell ⟨b,0,none⟩ v0).setCell ⟨b,1,none⟩ v1).setCell ⟨b,2,none⟩ v2)∧Below n w0 (((w.setCell ⟨b,0,none⟩ v0).setCell ⟨b,1,none⟩ v1).setCell ⟨b,2,none⟩ v2)∧But b w (((w.setCell ⟨b,0,none⟩ v0).setCell ⟨b,1,none⟩ v1).setCell ⟨b,2,none⟩ v2):=by
 have cR:au (((w.setCell ⟨b,0,none⟩ v0).setCell ⟨b,1,none⟩ v1).setCell ⟨b,2,none⟩ v2) b ty [v0,v1,v2]:=(((h.set 0 v0).set 1 v1).set 2 v2);have bu:=((ag w b 0 v0).trans (ag _ b 1 v1)).trans (ag _ b 2 v2);exact⟨run_loadVar_mid (P:=P) _ b 0 ty [v0,v1,v2] _ cR.range hu hd hi,bu.below hb hn,bu⟩
theorem afA {w:World}{b:Nat}{ty:TypeId}{z0 z1 z2:Value}(h:au w b ty [z0,z1,z2]):(w.cell? ⟨b,0,none⟩=some z0∧w.cell? ⟨b,1,none⟩=some z1∧w.cell? ⟨b,2,none⟩=some z2)∧w.frozen? ⟨b,0,none⟩=false∧w.frozen? ⟨b,1,none⟩=false∧w.frozen? ⟨b,2,none⟩=false:=
 ⟨⟨h.c 0 rfl,h.c 1 rfl,h.c 2 rfl⟩,h.f 0,h.f 1,h.f 2⟩
theorem qB (v:Value)(t:ak)(w:World)(hv:Dv w v t):yC 74 #[v] w (yR w (yi (dJ t))):=by
 obtain⟨s0,rfl,hr⟩:=hv;obtain⟨ao,ca,rfl⟩:=hr.shape;obtain⟨ts,n,e⟩:=t;have hnl:=Dg.dg_nil_iff 4294967296 n (by omega);simp only at hr⊢;unfold dJ;simp only;obtain⟨m,hm⟩: ∃m,(Dg.dg 4294967296 n).length=m:=⟨_,rfl⟩;have hz:m=0↔n=0:=by rw[←hm,List.length_eq_zero_iff];exact hnl
 rw[hm];have bA:=af w (.cells (ydA ts (.slice ao m ca) e) 54);clear hm hr hnl
 by_cases h:n=0
 ·rw[if_pos h]
  have hm0:=hz.2 h;subst hm0;clear hz h
  go_enter func74,ntmps74
  go_wp2
  go_ret
  exact⟨rfl,bA⟩
 ·rw[if_neg h]
  have hm0:((m:Int)==0)=false:=by
   have: ¬m=0:=fun e=>h (hz.1 e)
   simp;exact this
  clear hz h
  cases ts
  ·go_enter func74,ntmps74
   go_wp2
   go_ret
   exact⟨rfl,bA⟩
  ·go_enter func74,ntmps74
   go_wp2
   go_ret
   exact⟨rfl,bA⟩
theorem ja (s0:Value)(t:ak)(w:World)(hr:Rd w .i64 s0 (Dg.dg 65536 t.n)):yC 9 #[ydV t.s s0 t.e] w (yR w (.agg #[.bool (dB t).s,s0,yi (dB t).e])):=by
 obtain⟨ao,ca,rfl⟩:=hr.shape;obtain⟨ts,n,e⟩:=t;have hnl:=Dg.dg_nil_iff 65536 n (by omega);simp only at hr⊢;unfold dB;simp only;have hz:(0< (Dg.dg 65536 n).length)↔0<n:=by
  rw[List.length_pos_iff,Ne,hnl];omega
 obtain⟨m,hm⟩: ∃m,(Dg.dg 65536 n).length=m:=⟨_,rfl⟩;rw[hm] at hz hr⊢;clear hr
 by_cases h:0<n
 ·have h6:=hz.2 h
  rw[decide_eq_true h,Bool.and_true];clear hz h hm hnl
  cases ts
  ·go_enter func9,ntmps9
   go_wp2
   go_returns
   exact⟨rfl,aa (af w _) (af _ _)⟩
  ·go_enter func9,ntmps9
   go_wp2
   go_returns
   exact⟨rfl,aa (af w _) (af _ _)⟩
 ·have h6: ¬0<m:=fun e=>h (hz.1 e)
  rw[decide_eq_false h,Bool.and_false];clear hz h hm hnl
  cases ts
  ·go_enter func9,ntmps9
   go_wp2
   go_returns
   exact⟨rfl,aa (af w _) (af _ _)⟩
  ·go_enter func9,ntmps9
   go_wp2
   go_returns
   exact⟨rfl,aa (af w _) (af _ _)⟩
theorem uI (v:Value)(t:ak)(w:World)(hv:Rv w v t):yC 9 #[v] w (dr w (dB t)):=by
 obtain⟨s0,rfl,hr⟩:=hv;refine(ja s0 t w hr).mono ?_;rintro z w' ⟨rfl,b⟩;exact⟨_,rfl,hr.l b,b⟩
theorem aJ (w:World)(v0 v1 v2 v3 v4 v5:Value)(ty:TypeId):mL (w.alloc (.cells #[v0,v1,v2,v3,v4,v5] ty)) w.heap.size v0 v1 v2 v3 v4 v5:=by
 refine⟨by simp[World.size_alloc],⟨?_, ?_, ?_, ?_, ?_, ?_⟩, ?_, ?_, ?_, ?_, ?_, ?_⟩
 all_goals first| (rw[World.cell?_alloc_at _ _ _ _ rfl];rfl)|simp
theorem bP {w:World}{b:Nat}{v0 v1 v2 v3 v4 v5:Value}(h:mL w b v0 v1 v2 v3 v4 v5)(x0 x1 x2 x3 x4 x5:Value):
  mL ((((((w.setCell ⟨b,0,none⟩ x0).setCell ⟨b,1,none⟩ x1).setCell ⟨b,2,none⟩ x2).setCell ⟨b,3,none⟩ x3).setCell ⟨b,4,none⟩ x4).setCell ⟨b,5,none⟩ x5) b x0 x1 x2 x3 x4 x5:=by
 obtain⟨hl,⟨c0,c1,c2,c3,c4,c5⟩,f0,f1,f2,f3,f4,f5⟩:=h;refine⟨by simpa using hl,⟨?_, ?_, ?_, ?_, ?_, ?_⟩,by simpa using f0,by simpa using f1,by simpa using f2,by simpa using f3,by simpa using f4,by simpa using f5⟩
 ·have k:w.cell? ⟨b,0,none⟩=some v0:=by exact c0
  rw[World.cell?_setCell_other (h:=by simp),World.cell?_setCell_other (h:=by simp),World.cell?_setCell_other (h:=by simp),World.cell?_setCell_other (h:=by simp),World.cell?_setCell_other (h:=by simp)];exact World.cell?_setCell_same _ _ _ k
 ·have k:(w.setCell ⟨b,0,none⟩ x0).cell? ⟨b,1,none⟩=some v1:=by rw[World.cell?_setCell_other (h:=by simp)];exact c1
  rw[World.cell?_setCell_other (h:=by simp),World.cell?_setCell_other (h:=by simp),World.cell?_setCell_other (h:=by simp),World.cell?_setCell_other (h:=by simp)];exact World.cell?_setCell_same _ _ _ k
 ·have k:((w.setCell ⟨b,0,none⟩ x0).setCell ⟨b,1,none⟩ x1).cell? ⟨b,2,none⟩=some v2:=by rw[World.cell?_setCell_other (h:=by simp),World.cell?_setCell_other (h:=by simp)];exact c2
  rw[World.cell?_setCell_other (h:=by simp),World.cell?_setCell_other (h:=by simp),World.cell?_setCell_other (h:=by simp)];exact World.cell?_setCell_same _ _ _ k
 ·have k:(((w.setCell ⟨b,0,none⟩ x0).setCell ⟨b,1,none⟩ x1).setCell ⟨b,2,none⟩ x2).cell? ⟨b,3,none⟩=some v3:=by rw[World.cell?_setCell_other (h:=by simp),World.cell?_setCell_other (h:=by simp),World.cell?_setCell_other (h:=by simp)];exact c3
  rw[World.cell?_setCell_other (h:=by simp),World.cell?_setCell_other (h:=by simp)];exact World.cell?_setCell_same _ _ _ k
 ·have k:((((w.setCell ⟨b,0,none⟩ x0).setCell ⟨b,1,none⟩ x1).setCell ⟨b,2,none⟩ x2).setCell ⟨b,3,none⟩ x3).cell? ⟨b,4,none⟩=some v4:=by rw[World.cell?_setCell_other (h:=by simp),World.cell?_setCell_other (h:=by simp),World.cell?_setCell_other (h:=by simp),World.cell?_setCell_other (h:=by simp)];exact c4
  rw[World.cell?_setCell_other (h:=by simp)];exact World.cell?_setCell_same _ _ _ k
 ·have k:(((((w.setCell ⟨b,0,none⟩ x0).setCell ⟨b,1,none⟩ x1).setCell ⟨b,2,none⟩ x2).setCell ⟨b,3,none⟩ x3).setCell ⟨b,4,none⟩ x4).cell? ⟨b,5,none⟩=some v5:=by rw[World.cell?_setCell_other (h:=by simp),World.cell?_setCell_other (h:=by simp),World.cell?_setCell_other (h:=by simp),World.cell?_setCell_other (h:=by simp),World.cell?_setCell_other (h:=by simp)];exact c5
  exact World.cell?_setCell_same _ _ _ k
theorem pM (w:World)(ty:TypeId):ZB6 (w.alloc (.cells #[.bool false,yN,yi 0,.bool false,yN,yi 0] ty)) w.heap.size:=
 ⟨by simp[World.size_alloc],ty,heap_alloc_new _ _⟩
theorem ZB6.rd32 {w:World}{b:Nat}{v:Value}{zs:List Nat}(h:ZB6 w b)(hr:Rd w .u32 v zs)(x0 x1 x2 x3 x4 x5:Value):
  Rd ((((((w.setCell ⟨b,0,none⟩ x0).setCell ⟨b,1,none⟩ x1).setCell ⟨b,2,none⟩ x2).setCell ⟨b,3,none⟩ x3).setCell ⟨b,4,none⟩ x4).setCell ⟨b,5,none⟩ x5) .u32 v zs:=by
 obtain⟨hl,ty,hh⟩:=h;obtain⟨ao,cap,rfl,h1,h2,h3⟩:=hr;refine⟨ao,cap,rfl,h1,h2,fun hp=> ?_⟩
 obtain⟨c,off,rfl,hc⟩:=h3 hp;refine⟨c,off,rfl,fun i hi=> ?_⟩
 have hne:c≠b:=by
  intro e;subst e;have k1:=hc (zs.length-1) (by omega);unfold World.cell? at k1;simp only[hh] at k1;obtain⟨o,ho⟩: ∃o,off+(zs.length-1)=o:=⟨_,rfl⟩;rw[ho] at k1
  match o,k1 with
  |0,k1=>simp at k1
  |1,k1=>simp at k1
  |2,k1=>simp at k1
  |3,k1=>simp at k1
  |4,k1=>simp at k1
  |5,k1=>simp at k1
  |o+6,k1=>simp at k1
 rw[World.cell?_setCell_other (h:=by simp),World.cell?_setCell_other (h:=by simp),World.cell?_setCell_other (h:=by simp),World.cell?_setCell_other (h:=by simp),World.cell?_setCell_other (h:=by simp),World.cell?_setCell_other (h:=by simp)];exact hc i hi
theorem Nt (s:Bool)(ao:Option Addr)(ca la:Nat)(e:Int)(t:Bool)(bo:Option Addr)(cb lb:Nat)(f:Int)(n:Int)(x y:ak)(w:World)
  (HL: ∀w1,yB w w1→yC 44 #[ydV s (.slice ao la ca) e,yi n,.bool false] w1 (Lx w1 x))
  (HH: ∀w1,yB w w1→yC 44 #[ydV t (.slice bo lb cb) f,yi n,.bool true] w1 (Lx w1 y)):
  yC 58 #[.agg #[.bool s,.slice ao la ca,yi e,.bool t,.slice bo lb cb,yi f],yi n] w (aeT w x y):=by
 have H1:Hid _:=HL;have H2:Hid _:=HH;clear HL HH;obtain⟨xs,xn,xe⟩:=x;obtain⟨ys,yn,ye⟩:=y;have l1:=(aJ w (.bool s) (.slice ao la ca) (yi e) (.bool t) (.slice bo lb cb) (yi f) 57).l (af _ (.cells #[.bool false,yN,yi 0,.bool false,yN,yi 0] 57));have k1:=aJ (w.alloc (.cells #[.bool s,.slice ao la ca,yi e,.bool t,.slice bo lb cb,yi f] 57)) (.bool false) yN (yi 0) (.bool false) yN (yi 0) 57;have z1:=pM (w.alloc (.cells #[.bool s,.slice ao la ca,yi e,.bool t,.slice bo lb cb,yi f] 57)) 57;have b1:=aa (af w (.cells #[.bool s,.slice ao la ca,yi e,.bool t,.slice bo lb cb,yi f] 57)) (af _ (.cells #[.bool false,yN,yi 0,.bool false,yN,yi 0] 57));simp only[World.size_alloc] at k1 z1;obtain⟨W,hW⟩: ∃W,((w.alloc (.cells #[.bool s,.slice ao la ca,yi e,.bool t,.slice bo lb cb,yi f] 57)).alloc (.cells #[.bool false,yN,yi 0,.bool false,yN,yi 0] 57))=W:=⟨_,rfl⟩;rw[hW] at l1 k1 z1 b1;have bd:yB W W.drew:=(Below.refl _ _).drew;have l2:=l1.l bd;have k2:=k1.l bd;have z2:=z1.l bd;have b02:=aa b1 bd;rw[←hW] at l2 k2 z2 b02;clear l1 k1 z1 b1 bd hW;obtain⟨-,⟨c0,c1,c2,c3,c4,c5⟩,-⟩:=id l2;have ne1:w.heap.size+1≠w.heap.size:=by omega
 have ne2:w.heap.size≠w.heap.size+1:=by omega
 go_enter func58,ntmps58
 go_wp2_with fail
 go_region_held3 (fun wq=>wq.cell? ⟨w.heap.size,0,none⟩=some (.bool s)∧wq.cell? ⟨w.heap.size,1,none⟩=some (.slice ao la ca)∧wq.cell? ⟨w.heap.size,2,none⟩=some (yi e)∧wq.cell? ⟨w.heap.size,3,none⟩=some (.bool t)∧wq.cell? ⟨w.heap.size,4,none⟩=some (.slice bo lb cb)∧wq.cell? ⟨w.heap.size,5,none⟩=some (yi f)) (go_keep) (first
  | (go_at_call 44;have hgd:=b02;clear hgd;refine(H1.out _ b02).mono ?_;rintro z w3 ⟨v3,rfl,r3,b3⟩;have l3:=l2.l b3;have k3:=k2.l b3;have z3:=z2.l b3;have b03:=aa b02 b3;obtain⟨po,pc,hp⟩:=r3.shape;subst hp;obtain⟨-,⟨d0,d1,d2,d3,d4,d5⟩,-⟩:=id l3;clear b02)
  | (go_at_call 44;have hgd:=b03;clear hgd;refine(H2.out _ b03).mono ?_;rintro z w4 ⟨v4,rfl,r4,b4⟩;have r34:=r3.l b4;have l4:=l3.l b4;have k4:=k3.l b4;have z4:=z3.l b4;have b04:=aa b03 b4;obtain⟨qo,qc,hq⟩:=r4.shape;subst hq;obtain⟨-,⟨e0,e1,e2,e3,e4,e5⟩,-⟩:=id l4;obtain⟨hl,⟨v0,v1,v2,v3,v4,v5⟩,f0,f1,f2,f3,f4,f5⟩:=id k4;clear b03))
 all_goals go_wp2
 obtain⟨-,⟨u0,u1,u2,u3,u4,u5⟩,-⟩:=bP k4 (.bool xs) (yT po xn pc) (yi xe) (.bool ys) (yT qo yn qc) (yi ye);have bb:=aW b04 (show w.heap.size≤w.heap.size+1 by omega) (.bool xs) (yT po xn pc) (yi xe) (.bool ys) (yT qo yn qc) (yi ye)
 have r5:=z4.rd32 r34 (.bool xs) (yT po xn pc) (yi xe) (.bool ys) (yT qo yn qc) (yi ye);have r6:=z4.rd32 r4 (.bool xs) (yT po xn pc) (yi xe) (.bool ys) (yT qo yn qc) (yi ye);refine bodyPost_ret (v:= .agg #[.bool xs,yT po xn pc,yi xe,.bool ys,yT qo yn qc,yi ye]) (by simp[results,results58,go_sem,u0,u1,u2,u3,u4,u5]) rfl ?_;exact⟨_,_,rfl,r5,r6,bb⟩
theorem mL.apart3 {w:World}{b c:Nat}{v0 v1 v2 v3 v4 v5:Value}(h:mL w b v0 v1 v2 v3 v4 v5)(hne:c≠b)(x0 x1 x2:Value):
  mL (((w.setCell ⟨c,0,none⟩ x0).setCell ⟨c,1,none⟩ x1).setCell ⟨c,2,none⟩ x2) b v0 v1 v2 v3 v4 v5:=by
 obtain⟨hl,⟨c0,c1,c2,c3,c4,c5⟩,f0,f1,f2,f3,f4,f5⟩:=h;refine⟨by simpa using hl,⟨?_, ?_, ?_, ?_, ?_, ?_⟩,by simpa using f0,by simpa using f1,by simpa using f2,by simpa using f3,by simpa using f4,by simpa using f5⟩
 all_goals (rw[World.cell?_setCell_other (h:=by simp),World.cell?_setCell_other (h:=by simp),World.cell?_setCell_other (h:=by simp)];assumption)
theorem mL.apart3h {w:World}{b c:Nat}{v0 v1 v2 v3 v4 v5:Value}(h:mL w b v0 v1 v2 v3 v4 v5)(hne:c≠b)(x0 x1 x2:Value):
  mL (((w.setCell ⟨c,3,none⟩ x0).setCell ⟨c,4,none⟩ x1).setCell ⟨c,5,none⟩ x2) b v0 v1 v2 v3 v4 v5:=by
 obtain⟨hl,⟨c0,c1,c2,c3,c4,c5⟩,f0,f1,f2,f3,f4,f5⟩:=h;refine⟨by simpa using hl,⟨?_, ?_, ?_, ?_, ?_, ?_⟩,by simpa using f0,by simpa using f1,by simpa using f2,by simpa using f3,by simpa using f4,by simpa using f5⟩
 all_goals (rw[World.cell?_setCell_other (h:=by simp),World.cell?_setCell_other (h:=by simp),World.cell?_setCell_other (h:=by simp)];assumption)
theorem Loc.apart3h {w:World}{b c:Nat}{v0 v1 v2:Value}(h:Loc w b v0 v1 v2)(_hne:c≠b)(x0 x1 x2:Value):
  Loc (((w.setCell ⟨c,3,none⟩ x0).setCell ⟨c,4,none⟩ x1).setCell ⟨c,5,none⟩ x2) b v0 v1 v2:=by
 obtain⟨hl,⟨c0,c1,c2⟩,f0,f1,f2⟩:=h;refine⟨by simpa using hl,⟨?_, ?_, ?_⟩,by simpa using f0,by simpa using f1,by simpa using f2⟩
 all_goals (rw[World.cell?_setCell_other (h:=by simp),World.cell?_setCell_other (h:=by simp),World.cell?_setCell_other (h:=by simp)];assumption)
theorem abg {w:World}{b:Nat}{v0 v1 v2 v3 v4 v5:Value}(h:mL w b v0 v1 v2 v3 v4 v5)(x0 x1 x2:Value):
  mL (((w.setCell ⟨b,0,none⟩ x0).setCell ⟨b,1,none⟩ x1).setCell ⟨b,2,none⟩ x2) b x0 x1 x2 v3 v4 v5:=by
 obtain⟨hl,⟨c0,c1,c2,c3,c4,c5⟩,f0,f1,f2,f3,f4,f5⟩:=h;refine⟨by simpa using hl,⟨?_, ?_, ?_, ?_, ?_, ?_⟩,by simpa using f0,by simpa using f1,by simpa using f2,by simpa using f3,by simpa using f4,by simpa using f5⟩
 ·rw[World.cell?_setCell_other (h:=by simp),World.cell?_setCell_other (h:=by simp)]
  exact World.cell?_setCell_same _ _ _ c0
 ·have k:(w.setCell ⟨b,0,none⟩ x0).cell? ⟨b,1,none⟩=some v1:=by rw[World.cell?_setCell_other (h:=by simp)];exact c1
  rw[World.cell?_setCell_other (h:=by simp)];exact World.cell?_setCell_same _ _ _ k
 ·have k:((w.setCell ⟨b,0,none⟩ x0).setCell ⟨b,1,none⟩ x1).cell? ⟨b,2,none⟩=some v2:=by rw[World.cell?_setCell_other (h:=by simp),World.cell?_setCell_other (h:=by simp)];exact c2
  exact World.cell?_setCell_same _ _ _ k
 all_goals (rw[World.cell?_setCell_other (h:=by simp),World.cell?_setCell_other (h:=by simp),World.cell?_setCell_other (h:=by simp)];assumption)
theorem Sy {w:World}{b:Nat}{v0 v1 v2 v3 v4 v5:Value}(h:mL w b v0 v1 v2 v3 v4 v5)(x0 x1 x2:Value):
  mL (((w.setCell ⟨b,3,none⟩ x0).setCell ⟨b,4,none⟩ x1).setCell ⟨b,5,none⟩ x2) b v0 v1 v2 x0 x1 x2:=by
 obtain⟨hl,⟨c0,c1,c2,c3,c4,c5⟩,f0,f1,f2,f3,f4,f5⟩:=h;refine⟨by simpa using hl,⟨?_, ?_, ?_, ?_, ?_, ?_⟩,by simpa using f0,by simpa using f1,by simpa using f2,by simpa using f3,by simpa using f4,by simpa using f5⟩
 ·rw[World.cell?_setCell_other (h:=by simp),World.cell?_setCell_other (h:=by simp),World.cell?_setCell_other (h:=by simp)];exact c0
 ·rw[World.cell?_setCell_other (h:=by simp),World.cell?_setCell_other (h:=by simp),World.cell?_setCell_other (h:=by simp)];exact c1
 ·rw[World.cell?_setCell_other (h:=by simp),World.cell?_setCell_other (h:=by simp),World.cell?_setCell_other (h:=by simp)];exact c2
 ·rw[World.cell?_setCell_other (h:=by simp),World.cell?_setCell_other (h:=by simp)]
  exact World.cell?_setCell_same _ _ _ c3
 ·have k:(w.setCell ⟨b,3,none⟩ x0).cell? ⟨b,4,none⟩=some v4:=by rw[World.cell?_setCell_other (h:=by simp)];exact c4
  rw[World.cell?_setCell_other (h:=by simp)];exact World.cell?_setCell_same _ _ _ k
 ·have k:((w.setCell ⟨b,3,none⟩ x0).setCell ⟨b,4,none⟩ x1).cell? ⟨b,5,none⟩=some v5:=by rw[World.cell?_setCell_other (h:=by simp),World.cell?_setCell_other (h:=by simp)];exact c5
  exact World.cell?_setCell_same _ _ _ k
def Yu (wr:World)(p:Nat)(x:Nat→ak)(ao:Nat→Option Addr)(ca:Nat→Nat)(l h:Nat):Prop:=
 mL wr p (.bool (x l).s) (.slice (ao l) (Dg.dg 4294967296 (x l).n).length (ca l)) (yi (x l).e) (.bool (x h).s) (.slice (ao h) (Dg.dg 4294967296 (x h).n).length (ca h)) (yi (x h).e)
def Sz (w:World)(m:Nat)(x:Nat→ak)(ao:Nat→Option Addr)(ca:Nat→Nat)(p:Nat)(iv:Value)(wr:World):Prop:=
 ∃i:Nat,i+1≤m∧iv=yi i∧yB w wr∧Yu wr p x ao ca (loI x i) (hiI x i)∧
  mL wr w.heap.size (.bool false) yN (yi 0) (.bool false) yN (yi 0)
theorem KH (x:Nat)(hx:x<18446744073709551616)(w:World):
  yC 106 #[.int .u64 x] w fun z w'=> ∃v,z= .returned v∧Own w' w.heap.size 49 .u32 v (Dg.dg 4294967296 x)∧yB w w':=by
 have hlo:(x:Int) % 4294967296=((x % 4294967296:Nat):Int):=by omega
 have hhi:(x:Int)/4294967296=((x/4294967296:Nat):Int):=by omega
 have hx2:x/4294967296<4294967296:=by omega
 have hx1:x % 4294967296<4294967296:=Nat.mod_lt _ (by omega);have hd:=Nq x;obtain⟨lo,elo⟩: ∃n,x % 4294967296=n:=⟨_,rfl⟩;obtain⟨hi,ehi⟩: ∃n,x/4294967296=n:=⟨_,rfl⟩;rw[elo] at hlo hd hx1;rw[ehi] at hhi hd hx2;have own:Own (w.alloc (.cells #[.int .u32 (lo:Int),.int .u32 (hi:Int)] 49)) w.heap.size 49 .u32 (.slice (some ⟨w.heap.size,0,none⟩) 2 2) [lo,hi]:=
  pr (zs:=[lo,hi]) (heap_alloc_new _ _) (Nat.le_refl _) (by unfold maxLen;simp)
 have htr:=jD (some ⟨w.heap.size,0,none⟩) 2 2 [lo,hi] _ own.rd;have hsm:Dg.Small 4294967296 [lo,hi]:=by
  intro i
  match i with
  |0=>exact hx1
  |1=>exact hx2
  |i+2=>simp
 have b0:=af w (.cells #[.int .u32 (lo:Int),.int .u32 (hi:Int)] 49);have HH:Hid (_∧_):=⟨hd,hsm⟩;have hxI:(x:Int)<18446744073709551616:=by omega
 clear elo ehi hd hsm
 go_enter func106,ntmps106
 go_wp2_with fail
 refine htr.mono ?_;rintro z w1 ⟨n,rfl,ht,rfl⟩
 go_wp2
 go_ret
 obtain⟨hd,hsm⟩:=HH.out;refine⟨_,rfl, ?_,b0⟩;have:=Dg.trim_eq 4294967296 (by omega) [lo,hi] n hsm ht.1 ht.2.1 ht.2.2;rw[hd] at this;rw[←this];exact own.take n ht.1
theorem jN.vres {w:World}{t:ak}{e:Ending}{w':World}(h:jN w t e w'):Lx w t e w':=by
 obtain⟨s,h1,h2,h3⟩:=h;exact⟨s,h1,h2.rd,h3⟩
theorem signs_pos (a b:ak)(ao bo:Option Addr)(ac bc:Nat)(w:World)
  (H1:yH w 74 #[yDV a ao ac] (yi 1))
  (H2:yH w 74 #[yDV b bo bc] (yi 1)):
  yC 43 #[.agg #[.bool a.s,yT ao a.n ac,yi a.e,.bool b.s,yT bo b.n bc,yi b.e]] w (yR w (.bool true)):=by
 replace H1:Hid _:=H1;replace H2:Hid _:=H2;obtain⟨W3,hW4,q1,b2⟩:=cA w [.bool a.s,yT ao a.n ac,yi a.e,.bool b.s,yT bo b.n bc,yi b.e] 57;replace hW4:Hid _:=hW4
 go_enter func43,ntmps43
 go_upto_region 1 with fail
 rw[hW4.out];clear hW4
 go_upto_region 1 with fail
 have bW5:yB W3 W3.drew:=(Below.refl _ _).drew;have q6:=q1.l bW5;have b7:=aa b2 bW5;clear q1 b2 bW5;refine wp_region_held_drew (S:=fun wq=>au wq w.heap.size 57 [.bool a.s,yT ao a.n ac,yi a.e,.bool b.s,yT bo b.n bc,yi b.e]) (by kernel_rfl) q6 (fun hS0=> ?_)
 generalize W3.drew=WD8 at q6 b7 hS0⊢;refine tq 0 (.pointer (some ⟨w.heap.size,0,none⟩)) rfl (fun _ _=>by kernel_rfl) hS0 ?_
 refine tq 1 (yDV a ao ac) rfl (fun _ hw0=>fy 54 (.tmp 3) rfl w.heap.size 0 (by kernel_rfl) _ _ (kY hw0 0 3 rfl) underlying54 rfl (by kernel_rfl)) hS0 ?_
 refine tq 3 (.pointer (some ⟨w.heap.size,3,none⟩)) rfl (fun _ _=>by kernel_rfl) hS0 ?_
 refine tq 4 (yDV b bo bc) rfl (fun _ hw0=>fy 54 (.tmp 6) rfl w.heap.size 3 (by kernel_rfl) _ _ (kY hw0 3 3 rfl) underlying54 rfl (by kernel_rfl)) hS0 ?_
 refine wpAnyH_ready (rs:=[2]) (by kernel_rfl) (by simp) ?_;refine AllReadyH.cons rfl (fun K hK=> ?_) AllReadyH.nil
 go_simp
 refine(H1.out _ b7).mono ?_;rintro zz w9 ⟨rfl,bb10⟩;have q11:=q6.l bb10;have b12:=aa b7 bb10;clear q6 b7 bb10 H1;refine hK.out _ _ q11 (fun hS13=> ?_)
 clear hK K;refine wpAnyH_ready (rs:=[5]) (by kernel_rfl) (by simp) ?_;refine AllReadyH.cons rfl (fun K hK=> ?_) AllReadyH.nil
 go_simp
 refine(H2.out _ b12).mono ?_;rintro zz w14 ⟨rfl,bb15⟩;have q16:=q11.l bb15;have b17:=aa b12 bb15;clear q11 b12 bb15 H2;refine hK.out _ _ q16 (fun hS18=> ?_)
 clear hK K;refine tq 6 (yi 1) rfl (fun _ _=>by go_simp<;>rfl) hS18 ?_
 refine tq 7 (.bool true) rfl (fun _ _=>by go_simp<;>rfl) hS18 ?_
 refine tq 8 (.bool true) rfl (fun _ _=>by kernel_rfl) hS18 ?_
 refine wpAnyH_done (by kernel_rfl) ?_ _;clear hS0 hS13 hS18;simp only[Act.put,List.getElem_toArray,List.getElem_cons_succ,List.getElem_cons_zero,List.setIfInBounds_toArray,List.set_cons_zero,List.set_cons_succ]
 go_wp2
 go_ret
 exact⟨by simp,b17⟩
theorem SpanV.l {w w':World}{v:Value}{a b:ak}(h:SpanV w v a b)(hb:yB w w'):SpanV w' v a b:=by
 obtain⟨p,q,h1,h2,h3⟩:=h;exact⟨p,q,h1,h2.l hb,h3.l hb⟩
theorem rd_cell1 {w:World}{q d:Nat}(h:au w q 49 [.int .u32 d]):Rd w .u32 (.slice (some ⟨q,0,none⟩) 1 1) [d]:=⟨_,_,rfl,by simp,by unfold maxLen;simp,fun _=>⟨_,0,rfl,fun i hi=>by
 obtain rfl:i=0:=by simpa using hi
 exact h.c 0 rfl⟩⟩
def Ag (W:World)(base:Nat)(v:Value):Prop:= ∃p,v= .pointer (some ⟨p,0,none⟩)∧base≤p∧Loc W p (.bool false) yN (yi 0)
theorem Ag.l {W W':World}{base:Nat}{v:Value}(h:Ag W base v)(hb:yB W W'):Ag W' base v:=by
 obtain⟨p,h1,h2,h3⟩:=h;exact⟨p,h1,h2,h3.l hb⟩
def BT (W:World)(base:Nat)(v:Value):Prop:= ∃p,v= .pointer (some ⟨p,0,none⟩)∧base≤p∧mL W p (.bool false) yN (yi 0) (.bool false) yN (yi 0)∧ZB6 W p
def V4 (W:World)(base:Nat)(v:Value):Prop:= ∃p,v= .pointer (some ⟨p,0,none⟩)∧base≤p∧Loc W p (.bool false) yN (yi 0)∧ZB W p
theorem BT.l {W W':World}{base:Nat}{v:Value}(h:BT W base v)(hb:yB W W'):BT W' base v:=by
 obtain⟨p,h1,h2,h3,h4⟩:=h;exact⟨p,h1,h2,h3.l hb,h4.l hb⟩
theorem V4.l {W W':World}{base:Nat}{v:Value}(h:V4 W base v)(hb:yB W W'):V4 W' base v:=by
 obtain⟨p,h1,h2,h3,h4⟩:=h;exact⟨p,h1,h2,h3.l hb,h4.l hb⟩
theorem RB6.l {W W':World}{v:Value}{x y:ak}(h:RB6 W v x y)(hb:yB W W'):RB6 W' v x y:=by
 obtain⟨p,q,h1,h2,h3⟩:=h;exact⟨p,q,h1,h2.l hb,h3.l hb⟩
end Go.Proofs.YtiakgfmlpdfhdaaGreatDoor
