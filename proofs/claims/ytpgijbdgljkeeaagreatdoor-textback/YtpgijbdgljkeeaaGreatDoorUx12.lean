/-
  Texts laid together: DivBy, Plus, Bits, Dy1, Dy2, Over, Roo1, Gr2, Gr4, Tx7, Gh1, Cr5, Eg1, Rk1.
-/
import Derived.Test.YtpgijbdgljkeeaaGreatDoorUx06
import Derived.Test.YtpgijbdgljkeeaaGreatDoorUx07
import Derived.Test.YtpgijbdgljkeeaaGreatDoorUx08
set_option maxRecDepth 100000
set_option maxHeartbeats 3200000
namespace Go.Proofs.YtpgijbdgljkeeaaGreatDoor
open _root_.Go.Proofs.Tryz
open Go.RowKit
theorem Ew {w w':World}(g:Option Nat)(h:yB w w'):w.grownBy w' g:=⟨h.os,h.tape,h.output,h.size,fun k hk _=>h.block k hk⟩
theorem abc (va vb:Value)(xs ys:List Nat)(w:World)(ha:Rd w .u32 va xs)(hb:Rd w .u32 vb ys)(sa:Dg.Small 4294967296 xs)(sb:Dg.Small 4294967296 ys)(hla:xs.length≤1000000)(hlb:ys.length≤xs.length):
  yC 99 #[va,vb] w (Num w (Dg.vl 4294967296 xs+Dg.vl 4294967296 ys)):=by
 obtain⟨i0,hi,hz0,hz1,hz2⟩:=info_parts Tryz.infoU32;obtain⟨ao,ca,rfl,-,-,hca⟩:=ha;obtain⟨bo,cb,rfl,-,-,hcb⟩:=hb
 go_enter func99,ntmps99
 go_wp2_with (at_make;refine wpList_make_full _ rfl _ _ 100 rfl w.heap.size 138 i0 (.int .u32 0) 1 underlying100 hi hz0 hz1 _ _ _ _ (xs.length+1) rfl rfl (by omega) (by omega) ?b2 ?b3 (Nat.le_refl _) ?_)
 case b2=>rw[hz2];omega
 case b3=>unfold maxLen;omega
 intro w0 hown0 hgrow0;have own0:=gL hown0;have bel0:yB w w0:=(Below.refl _ _).grown hgrow0 (Nat.le_refl _) (fun k h=>by cases h)
 clear hown0 hgrow0
 go_wp2
 go_loopw [6,23] (fun cv kv wr=> ∃(k c:Nat) (ps:List Nat),k≤ys.length∧kv=yi k∧cv= .int .u32 c∧Own wr w.heap.size 138 .u32 (.slice (some ⟨w.heap.size,0,none⟩) (xs.length+1) (xs.length+1)) ps∧Qv xs ys ps k c∧yB w wr)
  (fun _ kv _=>ys.length-(intOf kv).toNat)
 case atStart=>exact⟨0,0,_,Nat.zero_le _,rfl,rfl,own0,⟨by simp,Dg.small_replicate _ _ (by omega),by omega,by simp[Dg.vl]⟩,bel0⟩
 case round=>
  clear own0 bel0;obtain⟨k,c,ps,hkl,rfl,rfl,own,hI,bel⟩:=hrel;have hpl:=hI.1;have hcl:=hI.2.2.1
  by_cases hlt:k<ys.length
  ·obtain⟨b,off,rfl,hcell⟩:=hca (by omega)
   obtain⟨b2,off2,rfl,hcell2⟩:=hcb (by omega);have hx:=cell_later bel (hcell k (by omega));have hy:=cell_later bel (hcell2 k (by omega));have hp:=own.c k (by omega);have hf:=own.f k;have hxl:=sa k;have hyl:=sb k;obtain⟨x,ex⟩: ∃x,xs.getD k 0=x:=⟨_,rfl⟩;obtain⟨y,ey⟩: ∃y,ys.getD k 0=y:=⟨_,rfl⟩;have hst:=zq hI (by omega) ex ey (by omega) (by omega);rw[ex] at hx hxl;rw[ey] at hy hyl;clear ex ey hcell hcell2 hca hcb
   go_wp2_with fail
   refine(ur x y c _ hxl hyl hcl).mono ?_;rintro e w' ⟨rfl,rfl⟩
   go_wp2
   go_roundw
   case rel=>exact⟨k+1,_,_,by omega,by go_num,rfl,own.store k _,hst,bel.setCell (by exact Nat.le_refl _) _⟩
   case measure=>simp[intOf];omega
  ·have hk:k=ys.length:=by omega
   subst hk
   go_wp2
   go_loopw [6,9] (fun cv kv wr=> ∃(k c:Nat) (ps:List Nat),ys.length≤k∧k≤xs.length∧kv=yi k∧cv= .int .u32 c∧Own wr w.heap.size 138 .u32 (.slice (some ⟨w.heap.size,0,none⟩) (xs.length+1) (xs.length+1)) ps∧Qv xs ys ps k c∧yB w wr)
    (fun _ kv _=>xs.length-(intOf kv).toNat)
   case atStart=>exact⟨ys.length,c,ps,Nat.le_refl _,by omega,rfl,rfl,own,hI,bel⟩
   case round=>
    clear own hI bel hpl hcl;obtain⟨k,c,ps,hky,hkl,rfl,rfl,own,hI,bel⟩:=hrel;have hpl:=hI.1;have hcl:=hI.2.2.1
    by_cases hlt:k<xs.length
    ·obtain⟨b,off,rfl,hcell⟩:=hca (by omega)
     have hx:=cell_later bel (hcell k (by omega));have hp:=own.c k (by omega);have hf:=own.f k;have hxl:=sa k;obtain⟨x,ex⟩: ∃x,xs.getD k 0=x:=⟨_,rfl⟩;have hst:=zq hI (by omega) ex (Dg.getD_of_le ys k hky) (by omega) (by omega);rw[ex] at hx hxl;clear ex hcell hca hcb
     go_wp2_with fail
     refine(ur x 0 c _ hxl (by omega) hcl).mono ?_;rintro e w' ⟨rfl,rfl⟩
     go_wp2
     go_roundw
     case rel=>exact⟨k+1,_,_,by omega,by omega,by go_num,rfl,own.store k _,hst,bel.setCell (by exact Nat.le_refl _) _⟩
     case measure=>simp[intOf];omega
    ·have hk:k=xs.length:=by omega
     subst hk;have hp:=own.c xs.length (by omega);have hf:=own.f xs.length;have hen:=Nc hI (by omega);have own2:=own.store xs.length c;have bel2:=bel.setCell (p:=⟨w.heap.size,xs.length,none⟩) (by exact Nat.le_refl _) (.int .u32 c);have rd:=own2.rd
     go_wp2_with fail
     refine(jD _ _ _ _ _ rd).mono ?_;rintro e w' ⟨m,rfl,hm,rfl⟩;have ht:=jW 4294967296 (by omega) own2 hen.2.1 hm;rw[hen.2.2] at ht;clear rd own2 hen hp hf own
     go_wp2
     go_ret
     exact⟨_,rfl,ht,bel2⟩
theorem abd (va vb:Value)(xs ys:List Nat)(w:World)(ha:Rd w .u32 va xs)(hb:Rd w .u32 vb ys)(sa:Dg.Small 4294967296 xs)(sb:Dg.Small 4294967296 ys)(hla:xs.length≤1000000)(hlb:ys.length<xs.length):
  yC 99 #[vb,va] w (Num w (Dg.vl 4294967296 xs+Dg.vl 4294967296 ys)):=by
 obtain⟨i0,hi,hz0,hz1,hz2⟩:=info_parts Tryz.infoU32;obtain⟨ao,ca,rfl,-,-,hca⟩:=ha;obtain⟨bo,cb,rfl,-,-,hcb⟩:=hb
 go_enter func99,ntmps99
 go_wp2_with (at_make;refine wpList_make_full _ rfl _ _ 100 rfl w.heap.size 138 i0 (.int .u32 0) 1 underlying100 hi hz0 hz1 _ _ _ _ (xs.length+1) rfl rfl (by omega) (by omega) ?b2 ?b3 (Nat.le_refl _) ?_)
 case b2=>rw[hz2];omega
 case b3=>unfold maxLen;omega
 intro w0 hown0 hgrow0;have own0:=gL hown0;have bel0:yB w w0:=(Below.refl _ _).grown hgrow0 (Nat.le_refl _) (fun k h=>by cases h)
 clear hown0 hgrow0
 go_wp2
 go_loopw [6,23] (fun cv kv wr=> ∃(k c:Nat) (ps:List Nat),k≤ys.length∧kv=yi k∧cv= .int .u32 c∧Own wr w.heap.size 138 .u32 (.slice (some ⟨w.heap.size,0,none⟩) (xs.length+1) (xs.length+1)) ps∧Qv xs ys ps k c∧yB w wr)
  (fun _ kv _=>ys.length-(intOf kv).toNat)
 case atStart=>exact⟨0,0,_,Nat.zero_le _,rfl,rfl,own0,⟨by simp,Dg.small_replicate _ _ (by omega),by omega,by simp[Dg.vl]⟩,bel0⟩
 case round=>
  clear own0 bel0;obtain⟨k,c,ps,hkl,rfl,rfl,own,hI,bel⟩:=hrel;have hpl:=hI.1;have hcl:=hI.2.2.1
  by_cases hlt:k<ys.length
  ·obtain⟨b,off,rfl,hcell⟩:=hca (by omega)
   obtain⟨b2,off2,rfl,hcell2⟩:=hcb (by omega);have hx:=cell_later bel (hcell k (by omega));have hy:=cell_later bel (hcell2 k (by omega));have hp:=own.c k (by omega);have hf:=own.f k;have hxl:=sa k;have hyl:=sb k;obtain⟨x,ex⟩: ∃x,xs.getD k 0=x:=⟨_,rfl⟩;obtain⟨y,ey⟩: ∃y,ys.getD k 0=y:=⟨_,rfl⟩;have hst:=zq hI (by omega) ex ey (by omega) (by omega);rw[ex] at hx hxl;rw[ey] at hy hyl;clear ex ey hcell hcell2 hca hcb
   go_wp2_with fail
   refine(ur x y c _ hxl hyl hcl).mono ?_;rintro e w' ⟨rfl,rfl⟩
   go_wp2
   go_roundw
   case rel=>exact⟨k+1,_,_,by omega,by go_num,rfl,own.store k _,hst,bel.setCell (by exact Nat.le_refl _) _⟩
   case measure=>simp[intOf];omega
  ·have hk:k=ys.length:=by omega
   subst hk
   go_wp2
   go_loopw [6,9] (fun cv kv wr=> ∃(k c:Nat) (ps:List Nat),ys.length≤k∧k≤xs.length∧kv=yi k∧cv= .int .u32 c∧Own wr w.heap.size 138 .u32 (.slice (some ⟨w.heap.size,0,none⟩) (xs.length+1) (xs.length+1)) ps∧Qv xs ys ps k c∧yB w wr)
    (fun _ kv _=>xs.length-(intOf kv).toNat)
   case atStart=>exact⟨ys.length,c,ps,Nat.le_refl _,by omega,rfl,rfl,own,hI,bel⟩
   case round=>
    clear own hI bel hpl hcl;obtain⟨k,c,ps,hky,hkl,rfl,rfl,own,hI,bel⟩:=hrel;have hpl:=hI.1;have hcl:=hI.2.2.1
    by_cases hlt:k<xs.length
    ·obtain⟨b,off,rfl,hcell⟩:=hca (by omega)
     have hx:=cell_later bel (hcell k (by omega));have hp:=own.c k (by omega);have hf:=own.f k;have hxl:=sa k;obtain⟨x,ex⟩: ∃x,xs.getD k 0=x:=⟨_,rfl⟩;have hst:=zq hI (by omega) ex (Dg.getD_of_le ys k hky) (by omega) (by omega);rw[ex] at hx hxl;clear ex hcell hca hcb
     go_wp2_with fail
     refine(ur x 0 c _ hxl (by omega) hcl).mono ?_;rintro e w' ⟨rfl,rfl⟩
     go_wp2
     go_roundw
     case rel=>exact⟨k+1,_,_,by omega,by omega,by go_num,rfl,own.store k _,hst,bel.setCell (by exact Nat.le_refl _) _⟩
     case measure=>simp[intOf];omega
    ·have hk:k=xs.length:=by omega
     subst hk;have hp:=own.c xs.length (by omega);have hf:=own.f xs.length;have hen:=Nc hI (by omega);have own2:=own.store xs.length c;have bel2:=bel.setCell (p:=⟨w.heap.size,xs.length,none⟩) (by exact Nat.le_refl _) (.int .u32 c);have rd:=own2.rd
     go_wp2_with fail
     refine(jD _ _ _ _ _ rd).mono ?_;rintro e w' ⟨m,rfl,hm,rfl⟩;have ht:=jW 4294967296 (by omega) own2 hen.2.1 hm;rw[hen.2.2] at ht;clear rd own2 hen hp hf own
     go_wp2
     go_ret
     exact⟨_,rfl,ht,bel2⟩
theorem kE (va:Value)(xs:List Nat)(w:World)(ha:Rd w .u32 va xs)(sa:Dg.Small 4294967296 xs)(na:Dg.Norm xs)(hla:xs.length≤1000000):
  yC 96 #[va] w fun e w'=>e= .returned (yi (bitLen (Dg.vl 4294967296 xs):Nat))∧w'=w:=by
 obtain⟨ao,ca,rfl,-,-,hca⟩:=ha
 by_cases h0:xs.length=0
 ·obtain rfl:xs=[]:=List.eq_nil_of_length_eq_zero h0
  go_enter func96,ntmps96
  go_wp2
  go_ret
  exact⟨rfl,rfl⟩
 ·have hne:xs≠[]:=by intro e;subst e;simp at h0
  obtain⟨b,off,rfl,hcell⟩:=hca (by omega);have hc:=hcell (xs.length-1) (by omega);have hs:=sa (xs.length-1);rw[IL 4294967296 32 (by decide) (by omega) xs sa na hne];obtain⟨x,ex⟩: ∃x,xs.getD (xs.length-1) 0=x:=⟨_,rfl⟩;rw[ex] at hc hs⊢;have hbl:=bF x 32 (by omega);have h3:=IK x w hs;obtain⟨l,hl⟩: ∃l,bitLen x=l:=⟨_,rfl⟩;rw[hl] at h3 hbl⊢;have h00:((xs.length:Int)==0)=false:=by simp;intro e;subst e;simp at h0
  clear ex hcell hca hne hl
  go_enter func96,ntmps96
  go_wp2_with fail
  refine h3.mono ?_;rintro e w' ⟨rfl,rfl⟩
  go_wp2
  go_ret
  exact⟨by go_num,rfl⟩
theorem Zw (x:Nat)(w:World)(hx:x<4294967296)(hx0:x≠0)(hT:Tab w):
  yC 126 #[.int .u32 x] w fun e w'=> ∃k m:Nat,e= .returned (yi k)∧x=2^k*(2*m+1)∧k<32∧w'=w:=by
 obtain⟨hlow,hk⟩:=Lib.lowest_bit 32 x hx0 hx;obtain⟨hi,htab⟩:=Lib.deBruijn32_at _ hk;obtain⟨m,hm,_⟩:=Lib.ctzFrom_spec 32 x (by omega) hx;have e0:Lib.ctz 32 x=Lib.ctzFrom 32 x:=by simp[Lib.ctz,hx0]
 have hcell:=hT _ hi;rw[htab] at hcell;refine(Vp x _ _ w (by simp;omega) (tz32_key x _ hx hx0 hlow) hi hk hcell).mono ?_;rintro e w' ⟨rfl,rfl⟩;exact⟨_,m,rfl,by rw[e0];exact hm,hk,rfl⟩
theorem Gl (v:Value)(n:Nat)(w:World)(hv:Rd w .u32 v (Dg.dg 4294967296 n))(hL:(Dg.dg 4294967296 n).length≤1000000)(hT:Tab w):
  yC 74 #[v] w fun e w'=>e= .returned (yi ((if n=0 then 0 else tz n:Nat):Int))∧w'=w:=by
 have hs:=Dg.small_dg 4294967296 n (by omega);have hvl:=Dg.vl_dg 4294967296 n (by omega);have hz:(∀j,(Dg.dg 4294967296 n).getD j 0=0)→n=0:=fun h=>by rw[←hvl];exact Dg.vl_zeros _ _ h
 obtain⟨xs,hx⟩: ∃xs,Dg.dg 4294967296 n=xs:=⟨_,rfl⟩;rw[hx] at hv hs hvl hz hL;obtain⟨ao,ca,rfl⟩:=hv.shape;obtain⟨hlc,hm,hcb⟩:=iQ hv;have HZ:Hid (∀k,xs.length≤k→(∀j,j<k→xs.getD j 0=0)→n=0):=fun k hk h=>hz (fun j=>by
  by_cases hj:j<k
  ·exact h j hj
  ·simp[List.getD_eq_getElem?_getD,show xs.length≤j from by omega])
 have HN:Hid _:=hvl;clear hx hz hvl hv
 go_enter func74,ntmps74
 go_wp2
 go_loop [7] (fun iv=> ∃k:Nat,k≤xs.length∧iv=yi k∧Hid (∀j,j<k→xs.getD j 0=0)) (fun iv=>xs.length-(intOf iv).toNat)
 case atStart=>exact⟨0,Nat.zero_le _,rfl,fun j hj=>absurd hj (Nat.not_lt_zero j)⟩
 case round=>
  obtain⟨k,hk,rfl,hzk⟩:=hrel
  by_cases hlt:k<xs.length
  ·obtain⟨b,off,rfl,hcell⟩:=hcb (by omega)
   have hc:=hcell k hlt;have hl:=hs k;obtain⟨x,hx⟩: ∃x,xs.getD k 0=x:=⟨_,rfl⟩;rw[hx] at hc hl;have HX:Hid _:=hx;clear hx hcell hcb
   by_cases hx0:x=0
   ·subst hx0
    go_wp2
    go_round
    case rel=>exact⟨k+1,by omega,by go_num,fun j hj=>by
     by_cases e:j=k
     ·rw[e];exact HX.out
     ·exact hzk.out j (by omega)⟩
    case measure=>simp[intOf];omega
   ·have ht:=Zw x w hl hx0 hT
    have h0:((x:Int)==0)=false:=by simp;exact hx0
    go_wp2_with fail
    refine ht.mono ?_;rintro e w' ⟨t,m,rfl,hxm,htl,rfl⟩;have e1:=Zx xs k t m hlt hzk.out (by rw[HX.out];exact hxm) htl;rw[HN.out] at e1;have hn0:n≠0:=by
     intro e;have h2:=adl 4294967296 xs k (by omega) hs (by rw[HN.out];exact e);rw[HX.out] at h2;exact hx0 h2
    clear ht hxm
    go_wp2
    go_ret
    refine⟨?_,rfl⟩
    first|rfl| (rw[e1];rfl)| (simp only[e1];rfl)| (show Ending.returned (Value.int IntKind.i64 (32*(k:Int)+(t:Int)))=_;rw[e1];rfl)
  ·have hn0:=HZ.out k (by omega) hzk.out
   go_wp2
   go_ret
   subst hn0;exact⟨rfl,rfl⟩
def jN (w:World)(t:ak)(e:Ending)(w':World):Prop:= ∃s,e= .returned (ydV t.s s t.e)∧Own w' w.heap.size 138 .u32 s (Dg.dg 4294967296 t.n)∧yB w w'
theorem aA (w:World)(v0 v1 v2:Value)(ty:TypeId):Loc (w.alloc (.cells #[v0,v1,v2] ty)) w.heap.size v0 v1 v2:=by
 refine⟨by simp[World.size_alloc],⟨?_, ?_, ?_⟩, ?_, ?_, ?_⟩
 ·rw[World.cell?_alloc_at _ _ _ _ rfl];rfl
 ·rw[World.cell?_alloc_at _ _ _ _ rfl];rfl
 ·rw[World.cell?_alloc_at _ _ _ _ rfl];rfl
 ·exact World.frozen?_alloc_at _ _ _ _ rfl
 ·exact World.frozen?_alloc_at _ _ _ _ rfl
 ·exact World.frozen?_alloc_at _ _ _ _ rfl
theorem aD {w:World}{b:Nat}{v0 v1 v2:Value}(h:Loc w b v0 v1 v2)(x0 x1 x2:Value):
  Loc (((w.setCell ⟨b,0,none⟩ x0).setCell ⟨b,1,none⟩ x1).setCell ⟨b,2,none⟩ x2) b x0 x1 x2:=by
 obtain⟨hl,⟨c0,c1,c2⟩,f0,f1,f2⟩:=h;refine⟨by simpa using hl,⟨?_, ?_, ?_⟩, ?_, ?_, ?_⟩
 ·rw[World.cell?_setCell_other (h:=by simp),World.cell?_setCell_other (h:=by simp)]
  exact World.cell?_setCell_same _ _ _ c0
 ·have k1:(w.setCell ⟨b,0,none⟩ x0).cell? ⟨b,1,none⟩=some v1:=by rw[World.cell?_setCell_other (h:=by simp)];exact c1
  rw[World.cell?_setCell_other (h:=by simp)];exact World.cell?_setCell_same _ _ _ k1
 ·have k2:((w.setCell ⟨b,0,none⟩ x0).setCell ⟨b,1,none⟩ x1).cell? ⟨b,2,none⟩=some v2:=by rw[World.cell?_setCell_other (h:=by simp),World.cell?_setCell_other (h:=by simp)];exact c2
  exact World.cell?_setCell_same _ _ _ k2
 ·simpa using f0
 ·simpa using f1
 ·simpa using f2
theorem Own.apart {w w':World}{base e b:Nat}{k:IntKind}{v:Value}{zs:List Nat}(h:Own w base e k v zs)(hg:w.grownBy w' (some b))(hb:b<base):Own w' base e k v zs:=by
 obtain⟨hl,h2⟩:=h;refine⟨hl, ?_⟩
 rcases h2 with h2| ⟨g',cap',cur,hv,hbg,hh,r⟩
 ·exact .inl h2
 ·refine .inr ⟨g',cap',cur,hv,hbg, ?_,r⟩
  have hlt:g'<w.heap.size:=by
   rw[Array.getElem?_eq_some_iff] at hh;exact hh.1
  rw[hg.block g' hlt (by intro e;cases e;omega)]
  exact hh
theorem Own.apart3 {w:World}{base e b:Nat}{k:IntKind}{v:Value}{zs:List Nat}(h:Own w base e k v zs)(hb:b<base)(x0 x1 x2:Value):
  Own (((w.setCell ⟨b,0,none⟩ x0).setCell ⟨b,1,none⟩ x1).setCell ⟨b,2,none⟩ x2) base e k v zs:=
 ((h.apart (bI w b 0 x0) hb).apart (bI _ b 1 x1) hb).apart (bI _ b 2 x2) hb
theorem cN (b:Bool)(ao:Option Addr)(n ca:Nat)(e:Int)(w:World):yC 224 #[ydV b (.slice ao n ca) e] w (yR w (.slice ao n ca)):=by
 have b1:yB w (w.alloc (.cells (ydA b (.slice ao n ca) e) 242)):=(Below.refl _ _).alloc (Nat.le_refl _) _
 go_enter func224,ntmps224
 go_wp2
 go_ret
 exact⟨rfl,b1⟩
theorem l9 (b:Bool)(ao:Option Addr)(n ca:Nat)(e:Int)(w:World):yC 207 (ydA b (.slice ao n ca) e) w (yR w (ydV b (.slice ao n ca) e)):=by
 go_enter func207,ntmps207
 go_wp2
 go_returns
 exact⟨rfl,(Below.refl _ _).alloc (Nat.le_refl _) _⟩
theorem II (v:Value)(t:ak)(w:World)(hv:Dv w v t)(hL:(Dg.dg 4294967296 t.n).length≤500000)(he: -1000000≤t.e∧t.e≤1000000)(hT:Tab w)(htz:tz t.n≤1000000):
  Calls Tryz.prog 208 #[v] w (jN w (bare t)):=by
 obtain⟨s,rfl,hr⟩:=hv;obtain⟨ts,n,e⟩:=t;simp only at hr hL he htz⊢;obtain⟨ao,ca,rfl⟩:=hr.shape;obtain⟨e1,e2⟩:=he
 by_cases hn:n=0
 ·subst hn
  rw[show Dg.dg 4294967296 0=[] from rfl] at hr⊢
  go_enter func208,ntmps208
  rw[show bare ⟨ts,0,e⟩=⟨false,0,0⟩ from by unfold bare;rfl]
  go_wp2
  go_returns
  exact⟨_,rfl,aQ _ _ _ _,((Below.refl _ _).alloc (Nat.le_refl _) _).alloc (by simp[World.size_alloc]) _⟩
 ·have h0:(((Dg.dg 4294967296 n).length:Int)==0)=false:=by simp[Dg.dg_nil_iff 4294967296 n (by omega)];exact hn
  have HB:Hid (bare ⟨ts,n,e⟩=⟨ts,n/2^tz n,e+tz n⟩):=by show bare ⟨ts,n,e⟩=_;unfold bare;rw[if_neg hn]
  have hsm:=Dg.small_dg 4294967296 n (by omega);have hvl:=Dg.vl_dg 4294967296 n (by omega);have HTW:Hid (∀w1,Below w.heap.size w w1→Calls Tryz.prog 74 #[.slice ao (Dg.dg 4294967296 n).length ca] w1 fun e w'=>e= .returned (.int .i64 ((tz n:Nat):Int))∧w'=w1):=fun w1 b1=>by
   have:=Gl _ n w1 (hr.l b1) (by omega) (hT.l b1)
   rwa [if_neg hn] at this
  have HSH:Hid (∀w1,Below w.heap.size w w1→Calls Tryz.prog 75 #[.slice ao (Dg.dg 4294967296 n).length ca,.int .i64 (-((tz n:Nat):Int))] w1 (Num w1 (n/2^tz n))):=fun w1 b1=>by
   have:=eO _ _ (-((tz n:Nat):Int)) w1 (hr.l b1) hsm (by omega) (by omega) (by omega);rw[hvl] at this;have e:shN n (-((tz n:Nat):Int))=n/2^tz n:=by
    unfold shN
    by_cases hz: -((tz n:Nat):Int)<0
    ·rw[if_pos hz];congr 2;omega
    ·rw[if_neg hz]
     have h0:tz n=0:=by omega
     rw[h0];simp
   rwa [e] at this
  obtain⟨m,hm⟩: ∃m,(Dg.dg 4294967296 n).length=m:=⟨_,rfl⟩;obtain⟨k,hk⟩: ∃k,tz n=k:=⟨_,rfl⟩;obtain⟨q,hq⟩: ∃q,n/2^tz n=q:=⟨_,rfl⟩;rw[hq,hk] at HB;rw[hq,hk,hm] at HSH;rw[hk,hm] at HTW;rw[hm] at h0 hL⊢;rw[hk] at htz;rw[HB.out];clear hm hk hq hr hsm hvl HB hn hT;have l1:=(aA w (.bool ts) (.slice ao m ca) (.int .i64 e) 242).l (af _ (.cells #[.bool false,.slice none 0 0,.int .i64 0] 242));have l2:=aA (w.alloc (.cells #[.bool ts,.slice ao m ca,.int .i64 e] 242)) (.bool false) (.slice none 0 0) (.int .i64 0) 242;have bA:=aa (af w (.cells #[.bool ts,.slice ao m ca,.int .i64 e] 242)) (af _ (.cells #[.bool false,.slice none 0 0,.int .i64 0] 242));rw[World.size_alloc] at l2
  go_enter func208,ntmps208
  go_wp2_with fail
  refine(cN ts ao m ca e _).mono ?_;rintro x w1 ⟨rfl,b1⟩;have l1:=l1.l b1;have l2:=l2.l b1;have b01:=aa bA b1;clear bA b1
  go_wp2_with fail
  refine(HTW.out w1 b01).mono ?_;rintro x w2 ⟨rfl,rfl⟩;have bd:Below w2.heap.size w2 w2.drew:=(Below.refl _ _).drew;have l1:=l1.l bd;have l2:=l2.l bd;have b02:=aa b01 bd;obtain⟨-,⟨c0,c1,c2⟩,-⟩:=id l1;clear b01 bd;have e3:IntKind.i64.wrap (-(k:Int))= -(k:Int):=IntWalk.i64_in _ ⟨by omega,by omega⟩;have e4:IntKind.i64.wrap (e+(k:Int))=e+(k:Int):=IntWalk.i64_in _ ⟨by omega,by omega⟩
  go_wp2_with fail
  go_region_held3 (fun wq=>wq.cell? ⟨w.heap.size,0,none⟩=some (.bool ts)∧wq.cell? ⟨w.heap.size,1,none⟩=some (.slice ao m ca)∧wq.cell? ⟨w.heap.size,2,none⟩=some (.int .i64 e)) (go_keep) (first
   | (go_at_call 224;refine(cN ts ao m ca e _).mono ?_;rintro x w3 ⟨rfl,b3⟩;have l13:=l1.l b3;have l23:=l2.l b3;have b03:=aa b02 b3;obtain⟨-,⟨p0,p1,p2⟩,-⟩:=id l13)
   | (go_at_call 75;refine(HSH.out _ b03).mono ?_;rintro x w4 ⟨vs,rfl,own4,b4⟩;have l14:=l13.l b4;have l24:=l23.l b4;have b04:=aa b03 b4;obtain⟨so,sc,hvs⟩:=own4.rd.shape;subst hvs;obtain⟨-,⟨q0,q1,q2⟩,-⟩:=id l14)
   | (go_at_call 207;refine(l9 ts so _ sc _ _).mono ?_;rintro x w5 ⟨rfl,b5⟩;have l25:=l24.l b5;have l15:=l14.l b5;obtain⟨-,⟨r0,r1,r2⟩,-⟩:=id l15;have b05:=aa b04 b5;have rd5:=own4.rd.l b5;obtain⟨hl5,⟨d0,d1,d2⟩,f0,f1,f2⟩:=id l25))
  all_goals go_wp2
  have l5:=aD l25 (.bool ts) (.slice so (Dg.dg 4294967296 q).length sc) (.int .i64 (e+(k:Int)));have hbw:w.heap.size≤w.heap.size+1:=by omega
  have b5':=((b05.setCell (p:=⟨w.heap.size+1,0,none⟩) hbw (.bool ts)).setCell (p:=⟨w.heap.size+1,1,none⟩) hbw (.slice so (Dg.dg 4294967296 q).length sc)).setCell (p:=⟨w.heap.size+1,2,none⟩) hbw (.int .i64 (e+(k:Int)));have own5:=(own4.l b5).apart3 (b:=w.heap.size+1) l23.1 (.bool ts) (.slice so (Dg.dg 4294967296 q).length sc) (.int .i64 (e+(k:Int)));obtain⟨-,⟨g0,g1,g2⟩,-⟩:=l5;refine bodyPost_ret (v:= .agg #[.bool ts,.slice so (Dg.dg 4294967296 q).length sc,.int .i64 (e+(k:Int))]) (by simp[results,results208,go_sem,g0,g1,g2]) rfl ?_;exact⟨_,rfl,own5.lower b03.size,b5'⟩
theorem zf (w:World)(base e d:Nat)(hb:base≤w.heap.size):Own (w.alloc (.cells #[.int .u32 d] e)) base e .u32 (.slice (some ⟨w.heap.size,0,none⟩) 1 1) [d]:=
 World.ownsRow_lit (e:=e) (size:=1) (base:=base) w #[.int .u32 d] 1 hb (by unfold maxLen;omega) rfl
theorem LZ (k:Nat)(w:World)(h:k≤4294967295):
  yC 139 #[.int .u64 k] w fun e w'=>e= .returned (yi (bitLen k:Nat))∧w'=w:=by
 have h64:=TH k w (by omega) (by omega);rw[Int.toNat_natCast] at h64;have H:Hid _:=h64;clear h64
 go_enter func139,ntmps139
 go_wp2_with fail
 refine Calls.mono H.out ?_;rintro e w' ⟨rfl,rfl⟩
 go_wp2
 go_ret
 exact⟨rfl,rfl⟩
def WH (w:World)(q r d:Nat)(e:Ending)(w':World):Prop:=
 ∃v1 v2 v3,e= .returned (.tuple #[v1,v2,v3])∧Own w' w.heap.size 138 .u32 v1 (Dg.dg 4294967296 q)∧Own w' w.heap.size 138 .u32 v2 (Dg.dg 4294967296 r)∧Rd w' .u32 v3 (Dg.dg 4294967296 d)∧yB w w'
def Fk (w:World)(t:fz)(e:Ending)(w':World):Prop:=
 ∃v,e= .returned (ypV t.s v t.p t.ex t.ov t.un)∧Own w' w.heap.size 138 .u32 v (Dg.dg 4294967296 t.d)∧yB w w'
def NbR (w:World)(n:Nat)(l:Bool)(z:Ending)(w':World):Prop:= ∃v,z= .returned (.tuple #[v,.bool l])∧Rd w' .u32 v (Dg.dg 4294967296 n)∧yB w w'
def D7 (w:World)(h:Bool)(d:Nat)(k:Int)(e:Ending)(w':World):Prop:=
 ∃u,e= .returned (.tuple #[.agg #[u,yi k],.bool h])∧Own w' w.heap.size 138 .u32 u (Dg.dg 4294967296 d)∧yB w w'
structure zQ (w:World) (bn bf:Nat) (ng:Bool) (fv:List Value) (w':World):Prop where
 q:au w' w.heap.size 49 (yoL 0 false false yN 0)
 f:au w' bf 42 fv
 n:au w' bn 4 [.bool ng]
 b:yB w w'
structure EnF (w:World) (bf:Nat) (vv fl:List Value) (W:World):Prop where
 v:au W w.heap.size 66 vv
 z:au W (w.heap.size+1) 49 (yoL 0 false false yN 0)
 f:au W bf 42 fl
 b:yB w W
theorem EnF.lt {w W:World}{bf:Nat}{vv fl:List Value}(h:EnF w bf vv fl W):w.heap.size+1<W.heap.size∧bf<W.heap.size:=⟨h.z.lt,h.f.lt⟩
theorem ut.mono {J K:Int}{N1 M1 N2 M2:Nat}{E1 E2:Int}(h:ut J N1 M1 E1 N2 M2 E2)(hk:J≤K):ut K N1 M1 E1 N2 M2 E2:=fun j hj=>h j (by omega)
end Go.Proofs.YtpgijbdgljkeeaaGreatDoor
