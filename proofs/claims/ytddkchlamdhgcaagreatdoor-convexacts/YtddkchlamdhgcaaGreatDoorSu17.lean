/-
  Texts laid together: Dz, Div1, Plus, Roo1, Dl8, Ef2, Cv1, Oq5, Bm1, Bs1, BlM.
-/
import Derived.Test.YtddkchlamdhgcaaGreatDoorSu06
import Derived.Test.YtddkchlamdhgcaaGreatDoorSu07
import Derived.Test.YtddkchlamdhgcaaGreatDoorSu08
import Derived.Test.YtddkchlamdhgcaaGreatDoorSu09
import Derived.Test.YtddkchlamdhgcaaGreatDoorSu10
import Derived.Test.YtddkchlamdhgcaaGreatDoorSu11
set_option maxRecDepth 100000
set_option maxHeartbeats 3200000
namespace Go.Proofs.YtddkchlamdhgcaaGreatDoor
open _root_.Go.Proofs.Tryz
open Go.RowKit
theorem zy {K:Nat}{a b:ak}(ha: -(K:Int)≤a.e)(hb: -(K:Int)≤b.e): -(K:Int)≤(cO a b).e:=by
 obtain⟨e,he⟩: ∃e,(if b.n=0 then a.e else if a.n=0 then b.e else min a.e b.e)=e:=⟨_,rfl⟩
 have h0: -(K:Int)≤e:=by rw[←he];split<;>(try split)<;>omega
 have h:(cO a b).e=e:=by
  unfold cO;simp only[he]
  by_cases h1:a.s=b.s
  ·rw[if_pos h1]
  ·rw[if_neg h1]
   by_cases h2:b.n*2^ (max 0 (b.e-e)).toNat≤a.n*2^ (max 0 (a.e-e)).toNat
   ·rw[if_pos h2]
   ·rw[if_neg h2]
 rw[h];exact h0
theorem Di (K:Nat)(a:ak):sgn (V K a)=if a.n=0 then 0 else if a.s then-1 else 1:=by
 rw[eV];have p1:0<2^ (a.e+K).toNat:=Nat.pow_pos (by omega)
 by_cases h:a.n=0
 ·rw[if_pos h,h,Nat.zero_mul];simp[sz,sgn]
 ·rw[if_neg h]
  have hne:0<a.n*2^ (a.e+K).toNat:=Nat.mul_pos (by omega) p1;generalize a.n*2^ (a.e+K).toNat=q at hne;unfold sz sgn
  cases a.s
  ·simp;omega
  ·simp;omega
theorem Bz (v:Value)(zs:List Nat)(w:World)(h:Rd w .u32 v zs)(hl:zs.length≤1000000):
  yC 144 #[v] w fun e w'=>e= .returned (.slice (some ⟨w.heap.size,0,none⟩) zs.length zs.length)∧Own w' w.heap.size 135 .u32 (.slice (some ⟨w.heap.size,0,none⟩) zs.length zs.length) zs∧yB w w':=by
 obtain⟨i0,hi,hz0,hz1,hz2⟩:=info_parts Tryz.infoU32;have hsz:(Tryz.prog.info? 135).map (·.size)=some 1:=by rw[hi];simp[hz1]
 obtain⟨ao,ca,rfl⟩:=h.shape
 go_enter func144,ntmps144
 go_wp2_with (at_make;refine wpList_make_full _ rfl _ _ 136 rfl w.heap.size 135 i0 (.int .u32 0) 1 underlying136 hi hz0 hz1 _ _ _ _ zs.length rfl rfl (by omega) (by omega) ?b2 ?b3 (Nat.le_refl _) ?_)
 case b2=>rw[hz2];omega
 case b3=>unfold maxLen;omega
 intro w0 hown0 hgrow0;have own0:=gL hown0;have bel0:yB w w0:=(Below.refl _ _).grown hgrow0 (Nat.le_refl _) (fun k h=>by cases h)
 obtain⟨w1,hrun,own1,gr1⟩:=Nw 136 136 3 underlying136 hsz own0 (h.l bel0) (by simp);have bel1:=bel0.grown gr1 bel0.size (fun k hk=>by cases hk;exact Nat.le_refl _)
 clear hown0 hgrow0 hsz
 go_wp2
 go_ret
 refine⟨rfl, ?_,bel1⟩;have e:zs++(List.replicate zs.length 0).drop zs.length=zs:=by simp
 rw[e] at own1;exact own1
theorem abc (va vb:Value)(xs ys:List Nat)(w:World)(ha:Rd w .u32 va xs)(hb:Rd w .u32 vb ys)(sa:Dg.Small 4294967296 xs)(sb:Dg.Small 4294967296 ys)(hla:xs.length≤1000000)(hlb:ys.length≤xs.length):
  yC 71 #[va,vb] w (Num w (Dg.vl 4294967296 xs+Dg.vl 4294967296 ys)):=by
 obtain⟨i0,hi,hz0,hz1,hz2⟩:=info_parts Tryz.infoU32;obtain⟨ao,ca,rfl,-,-,hca⟩:=ha;obtain⟨bo,cb,rfl,-,-,hcb⟩:=hb
 go_enter func71,ntmps71
 go_wp2_with (at_make;refine wpList_make_full _ rfl _ _ 136 rfl w.heap.size 135 i0 (.int .u32 0) 1 underlying136 hi hz0 hz1 _ _ _ _ (xs.length+1) rfl rfl (by omega) (by omega) ?b2 ?b3 (Nat.le_refl _) ?_)
 case b2=>rw[hz2];omega
 case b3=>unfold maxLen;omega
 intro w0 hown0 hgrow0;have own0:=gL hown0;have bel0:yB w w0:=(Below.refl _ _).grown hgrow0 (Nat.le_refl _) (fun k h=>by cases h)
 clear hown0 hgrow0
 go_wp2
 go_loopw [6,23] (fun cv kv wr=> ∃(k c:Nat) (ps:List Nat),k≤ys.length∧kv=yi k∧cv= .int .u32 c∧Own wr w.heap.size 135 .u32 (.slice (some ⟨w.heap.size,0,none⟩) (xs.length+1) (xs.length+1)) ps∧Qv xs ys ps k c∧yB w wr)
  (fun _ kv _=>ys.length-(intOf kv).toNat)
 case atStart=>exact⟨0,0,_,Nat.zero_le _,rfl,rfl,own0,⟨by simp,Dg.small_replicate _ _ (by omega),by omega,by simp[Dg.vl]⟩,bel0⟩
 case round=>
  clear own0 bel0;obtain⟨k,c,ps,hkl,rfl,rfl,own,hI,bel⟩:=hrel;have hpl:=hI.1;have hcl:=hI.2.2.1
  by_cases hlt:k<ys.length
  ·obtain⟨b,off,rfl,hcell⟩:=hca (by omega)
   obtain⟨b2,off2,rfl,hcell2⟩:=hcb (by omega);have hx:=cell_later bel (hcell k (by omega));have hy:=cell_later bel (hcell2 k (by omega));have hp:=own.c k (by omega);have hf:=own.f k;have hxl:=sa k;have hyl:=sb k;obtain⟨x,ex⟩: ∃x,xs.getD k 0=x:=⟨_,rfl⟩;obtain⟨y,ey⟩: ∃y,ys.getD k 0=y:=⟨_,rfl⟩;have hst:=zq hI (by omega) ex ey (by omega) (by omega);rw[ex] at hx hxl;rw[ey] at hy hyl;clear ex ey hcell hcell2 hca hcb
   go_wp2_with fail
   refine(ur x y c _ hxl hyl hcl).mono ?_;rintro e w' ⟨rfl,rfl⟩
   go_wp2
   go_roundw
   case rel=>exact⟨k+1,_,_,by omega,by go_num,rfl,own.store k _,hst,bel.setCell (by exact Nat.le_refl _) _⟩
   case measure=>simp[intOf];omega
  ·have hk:k=ys.length:=by omega
   subst hk
   go_wp2
   go_loopw [6,9] (fun cv kv wr=> ∃(k c:Nat) (ps:List Nat),ys.length≤k∧k≤xs.length∧kv=yi k∧cv= .int .u32 c∧Own wr w.heap.size 135 .u32 (.slice (some ⟨w.heap.size,0,none⟩) (xs.length+1) (xs.length+1)) ps∧Qv xs ys ps k c∧yB w wr)
    (fun _ kv _=>xs.length-(intOf kv).toNat)
   case atStart=>exact⟨ys.length,c,ps,Nat.le_refl _,by omega,rfl,rfl,own,hI,bel⟩
   case round=>
    clear own hI bel hpl hcl;obtain⟨k,c,ps,hky,hkl,rfl,rfl,own,hI,bel⟩:=hrel;have hpl:=hI.1;have hcl:=hI.2.2.1
    by_cases hlt:k<xs.length
    ·obtain⟨b,off,rfl,hcell⟩:=hca (by omega)
     have hx:=cell_later bel (hcell k (by omega));have hp:=own.c k (by omega);have hf:=own.f k;have hxl:=sa k;obtain⟨x,ex⟩: ∃x,xs.getD k 0=x:=⟨_,rfl⟩;have hst:=zq hI (by omega) ex (Dg.getD_of_le ys k hky) (by omega) (by omega);rw[ex] at hx hxl;clear ex hcell hca hcb
     go_wp2_with fail
     refine(ur x 0 c _ hxl (by omega) hcl).mono ?_;rintro e w' ⟨rfl,rfl⟩
     go_wp2
     go_roundw
     case rel=>exact⟨k+1,_,_,by omega,by omega,by go_num,rfl,own.store k _,hst,bel.setCell (by exact Nat.le_refl _) _⟩
     case measure=>simp[intOf];omega
    ·have hk:k=xs.length:=by omega
     subst hk;have hp:=own.c xs.length (by omega);have hf:=own.f xs.length;have hen:=Nc hI (by omega);have own2:=own.store xs.length c;have bel2:=bel.setCell (p:=⟨w.heap.size,xs.length,none⟩) (by exact Nat.le_refl _) (.int .u32 c);have rd:=own2.rd
     go_wp2_with fail
     refine(jD _ _ _ _ _ rd).mono ?_;rintro e w' ⟨m,rfl,hm,rfl⟩;have ht:=jW 4294967296 (by omega) own2 hen.2.1 hm;rw[hen.2.2] at ht;clear rd own2 hen hp hf own
     go_wp2
     go_ret
     exact⟨_,rfl,ht,bel2⟩
theorem abd (va vb:Value)(xs ys:List Nat)(w:World)(ha:Rd w .u32 va xs)(hb:Rd w .u32 vb ys)(sa:Dg.Small 4294967296 xs)(sb:Dg.Small 4294967296 ys)(hla:xs.length≤1000000)(hlb:ys.length<xs.length):
  yC 71 #[vb,va] w (Num w (Dg.vl 4294967296 xs+Dg.vl 4294967296 ys)):=by
 obtain⟨i0,hi,hz0,hz1,hz2⟩:=info_parts Tryz.infoU32;obtain⟨ao,ca,rfl,-,-,hca⟩:=ha;obtain⟨bo,cb,rfl,-,-,hcb⟩:=hb
 go_enter func71,ntmps71
 go_wp2_with (at_make;refine wpList_make_full _ rfl _ _ 136 rfl w.heap.size 135 i0 (.int .u32 0) 1 underlying136 hi hz0 hz1 _ _ _ _ (xs.length+1) rfl rfl (by omega) (by omega) ?b2 ?b3 (Nat.le_refl _) ?_)
 case b2=>rw[hz2];omega
 case b3=>unfold maxLen;omega
 intro w0 hown0 hgrow0;have own0:=gL hown0;have bel0:yB w w0:=(Below.refl _ _).grown hgrow0 (Nat.le_refl _) (fun k h=>by cases h)
 clear hown0 hgrow0
 go_wp2
 go_loopw [6,23] (fun cv kv wr=> ∃(k c:Nat) (ps:List Nat),k≤ys.length∧kv=yi k∧cv= .int .u32 c∧Own wr w.heap.size 135 .u32 (.slice (some ⟨w.heap.size,0,none⟩) (xs.length+1) (xs.length+1)) ps∧Qv xs ys ps k c∧yB w wr)
  (fun _ kv _=>ys.length-(intOf kv).toNat)
 case atStart=>exact⟨0,0,_,Nat.zero_le _,rfl,rfl,own0,⟨by simp,Dg.small_replicate _ _ (by omega),by omega,by simp[Dg.vl]⟩,bel0⟩
 case round=>
  clear own0 bel0;obtain⟨k,c,ps,hkl,rfl,rfl,own,hI,bel⟩:=hrel;have hpl:=hI.1;have hcl:=hI.2.2.1
  by_cases hlt:k<ys.length
  ·obtain⟨b,off,rfl,hcell⟩:=hca (by omega)
   obtain⟨b2,off2,rfl,hcell2⟩:=hcb (by omega);have hx:=cell_later bel (hcell k (by omega));have hy:=cell_later bel (hcell2 k (by omega));have hp:=own.c k (by omega);have hf:=own.f k;have hxl:=sa k;have hyl:=sb k;obtain⟨x,ex⟩: ∃x,xs.getD k 0=x:=⟨_,rfl⟩;obtain⟨y,ey⟩: ∃y,ys.getD k 0=y:=⟨_,rfl⟩;have hst:=zq hI (by omega) ex ey (by omega) (by omega);rw[ex] at hx hxl;rw[ey] at hy hyl;clear ex ey hcell hcell2 hca hcb
   go_wp2_with fail
   refine(ur x y c _ hxl hyl hcl).mono ?_;rintro e w' ⟨rfl,rfl⟩
   go_wp2
   go_roundw
   case rel=>exact⟨k+1,_,_,by omega,by go_num,rfl,own.store k _,hst,bel.setCell (by exact Nat.le_refl _) _⟩
   case measure=>simp[intOf];omega
  ·have hk:k=ys.length:=by omega
   subst hk
   go_wp2
   go_loopw [6,9] (fun cv kv wr=> ∃(k c:Nat) (ps:List Nat),ys.length≤k∧k≤xs.length∧kv=yi k∧cv= .int .u32 c∧Own wr w.heap.size 135 .u32 (.slice (some ⟨w.heap.size,0,none⟩) (xs.length+1) (xs.length+1)) ps∧Qv xs ys ps k c∧yB w wr)
    (fun _ kv _=>xs.length-(intOf kv).toNat)
   case atStart=>exact⟨ys.length,c,ps,Nat.le_refl _,by omega,rfl,rfl,own,hI,bel⟩
   case round=>
    clear own hI bel hpl hcl;obtain⟨k,c,ps,hky,hkl,rfl,rfl,own,hI,bel⟩:=hrel;have hpl:=hI.1;have hcl:=hI.2.2.1
    by_cases hlt:k<xs.length
    ·obtain⟨b,off,rfl,hcell⟩:=hca (by omega)
     have hx:=cell_later bel (hcell k (by omega));have hp:=own.c k (by omega);have hf:=own.f k;have hxl:=sa k;obtain⟨x,ex⟩: ∃x,xs.getD k 0=x:=⟨_,rfl⟩;have hst:=zq hI (by omega) ex (Dg.getD_of_le ys k hky) (by omega) (by omega);rw[ex] at hx hxl;clear ex hcell hca hcb
     go_wp2_with fail
     refine(ur x 0 c _ hxl (by omega) hcl).mono ?_;rintro e w' ⟨rfl,rfl⟩
     go_wp2
     go_roundw
     case rel=>exact⟨k+1,_,_,by omega,by omega,by go_num,rfl,own.store k _,hst,bel.setCell (by exact Nat.le_refl _) _⟩
     case measure=>simp[intOf];omega
    ·have hk:k=xs.length:=by omega
     subst hk;have hp:=own.c xs.length (by omega);have hf:=own.f xs.length;have hen:=Nc hI (by omega);have own2:=own.store xs.length c;have bel2:=bel.setCell (p:=⟨w.heap.size,xs.length,none⟩) (by exact Nat.le_refl _) (.int .u32 c);have rd:=own2.rd
     go_wp2_with fail
     refine(jD _ _ _ _ _ rd).mono ?_;rintro e w' ⟨m,rfl,hm,rfl⟩;have ht:=jW 4294967296 (by omega) own2 hen.2.1 hm;rw[hen.2.2] at ht;clear rd own2 hen hp hf own
     go_wp2
     go_ret
     exact⟨_,rfl,ht,bel2⟩
theorem rj (va vb:Value)(xs ys:List Nat)(w:World)(ha:Rd w .u32 va xs)(hb:Rd w .u32 vb ys)(sa:Dg.Small 4294967296 xs)(sb:Dg.Small 4294967296 ys)(hla:xs.length≤1000000)(hlb:ys.length≤1000000):
  yC 71 #[va,vb] w (Num w (Dg.vl 4294967296 xs+Dg.vl 4294967296 ys)):=by
 by_cases h:ys.length≤xs.length
 ·exact abc va vb xs ys w ha hb sa sb hla h
 ·rw[Nat.add_comm]
  exact abd vb va ys xs w hb ha sb sa hlb (by omega)
theorem Iq (va:Value)(n k L:Nat)(w:World)(ha:Rd w .u32 va (Dg.dg 4294967296 n))(hL:n<4294967296^L)(hLk:L*k≤400000)(hLl:L≤400000)(hk:k≤1000000):
  yC 69 #[va,yi k] w (Num w (n^k)):=by
 have HA:Hid (Rd w .u32 va (Dg.dg 4294967296 n)):=ha;have hnl:(Dg.dg 4294967296 n).length≤L:=Dg.dg_len_le 4294967296 n L (by omega) hL;have HL: ∀j,j≤k→(Dg.dg 4294967296 (n^j)).length≤400001:=fun j hj=>by
  have hp:=aaT (j:=j) hL;have hlj:L*j≤L*k:=Nat.mul_le_mul (Nat.le_refl _) hj;omega
 have HT:Hid (∀j v wr,j≤k→yB w wr→Rd wr .u32 v (Dg.dg 4294967296 (n^j))→yC 70 #[v,va] wr (Num wr (n^ (j+1)))):=fun j v wr hj b r=>by
  have:=qC v va _ _ wr r (ha.l b) (Dg.small_dg _ _ (by omega)) (Dg.small_dg _ _ (by omega)) (by have:=HL j hj;omega) (by omega);rw[Dg.vl_dg _ _ (by omega),Dg.vl_dg _ _ (by omega),←Nat.pow_succ] at this;exact this
 have HS:Hid (∀j v wr,j≤k→Rd wr .u32 v (Dg.dg 4294967296 (n^j))→yC 70 #[v,v] wr (Num wr (n^ (j+j)))):=fun j v wr hj r=>by
  have:=qC v v _ _ wr r r (Dg.small_dg _ _ (by omega)) (Dg.small_dg _ _ (by omega)) (by have:=HL j hj;omega) (by have:=HL j hj;omega);rw[Dg.vl_dg _ _ (by omega),←Nat.pow_add] at this;exact this
 have HB:Hid (∀wr,yC 105 #[.int .u64 k] wr fun e w'=>e= .returned (yi (bitLen k:Nat))∧w'=wr):=fun wr=>LZ k wr (by omega)
 have hbl:bitLen k≤20:=bF k 20 (by omega);have hz:k/2^bitLen k=0:=Nat.div_eq_of_lt (bitLen_spec k).1;have o1:=zf w w.heap.size 135 1 (Nat.le_refl _);have b1:yB w (w.alloc (.cells #[.int .u32 ((1:Nat):Int)] 135)):=(Below.refl _ _).alloc (Nat.le_refl _) _;obtain⟨ao,ca,rfl⟩:=ha.shape;obtain⟨ma,hma⟩: ∃m,(Dg.dg 4294967296 n).length=m:=⟨_,rfl⟩;rw[hma] at HT HA⊢;clear ha hma hnl HL;obtain⟨bl,hbe⟩: ∃b,bitLen k=b:=⟨_,rfl⟩;rw[hbe] at HB hbl hz;clear hbe
 go_enter func69,ntmps69
 go_wp2_with fail
 refine(HB.out _).mono ?_;rintro e w' ⟨rfl,rfl⟩
 go_wp2
 have L0:aex w n k bl (.slice (some ⟨w.heap.size,0,none⟩) 1 1) (yi ((bl:Int)-1)) (w.alloc (.cells #[.int .u32 ((1:Nat):Int)] 135)):=⟨bl,Nat.le_refl _,rfl,by rw[hz];exact o1,b1⟩
 go_loopw [5,6] (aex w n k bl) (fun _ iv _=>(intOf iv+1).toNat)
 case atStart=>exact L0
 case round=>
  clear L0 o1 b1;obtain⟨j,hj,rfl,own,bel⟩:=hrel
  rcases Nat.eq_zero_or_pos j with h0|h0
  ·subst h0
   go_wp2
   go_ret
   refine⟨_,rfl, ?_,bel⟩;rw[show k/2^0=k by simp] at own
   exact own
  ·obtain⟨i,rfl⟩: ∃i,j=i+1:=⟨j-1,by omega⟩
   have hle:k/2^ (i+1)≤k:=Nat.div_le_self _ _;have hh:=aaU k i;have e1:((i+1:Nat):Int)-1=(i:Int):=by omega
   rw[e1]
   go_wp2_with fail
   refine(HS.out _ _ _ hle own.rd).mono ?_;rintro z w2 ⟨v2,rfl,o2,b2⟩;have b02:=aa bel b2;have o2:=o2.lower bel.size;clear own b2;have hq:((k:Int)/2^i).tmod 2=((k/2^i % 2:Nat):Int):=by
    have h1:(k:Int)/2^i=((k/2^i:Nat):Int):=by rw[Int.natCast_ediv,Int.natCast_pow];rfl
    rw[h1,Int.ofNat_tmod];rfl
   by_cases hodd:k/2^i % 2=1
   ·have hc:(((k:Int)/2^i).tmod 2==1)=true:=by rw[hq,hodd];rfl
    have hx:k/2^ (i+1)+k/2^ (i+1)≤k:=by have:=Nat.div_le_self k (2^i);omega
    have hy:k/2^ (i+1)+k/2^ (i+1)+1=k/2^i:=by omega
    have H2:Hid _:=HT.out _ v2 w2 hx b02 o2.rd;rw[hy] at H2;clear hq hh hodd
    go_wp2_with fail
    refine Calls.mono H2.out ?_;rintro z w3 ⟨v3,rfl,o3,b3⟩;have o3:=o3.lower b02.size;have b03:=aa b02 b3
    go_wp2
    go_roundw
    case rel=>exact⟨i,by omega,rfl,o3,b03⟩
    case measure=>simp[intOf]
   ·have hc:(((k:Int)/2^i).tmod 2==1)=false:=by
     rw[hq];have:k/2^i % 2=0:=by omega
     rw[this];rfl
    have hy:k/2^ (i+1)+k/2^ (i+1)=k/2^i:=by omega
    rw[hy] at o2;clear hq hh hodd
    go_wp2
    go_roundw
    case rel=>exact⟨i,by omega,rfl,o2,b02⟩
    case measure=>simp[intOf]
theorem EI (K:Nat)(t:ak):V K (dB t)= -V K t:=by
 rw[←pC,eV,eV];unfold dB dV;simp only
 by_cases h:0<t.n
 ·simp[h]
 ·have h0:t.n=0:=by omega
  rw[h0,Nat.zero_mul];simp[sz]
theorem vJ (m:Nat)(hm:m≤200)(w:World):yC 13 #[yi m] w (cG w (2^m)):=
 pf m (m/16) (m % 16) w (by omega) (Nat.mod_lt _ (by omega)) (by omega)
theorem convert_none (n k wy:Int)(s:ByteArray)(w:World)(HF:yJ 51 #[yi k] (yi 0)):
  yC 26 #[yi n,.string s,yi k,yi wy] w (yR w (.tuple #[.string ⟨#[]⟩,yi 0,yi 6])):=by
 replace HF:Hid _:=HF
 go_enter func26,ntmps26
 have b0:=Below.refl w.heap.size w
 go_wp2_with fail
 refine(HF.out _).mono ?_;rintro zz w1 ⟨rfl,bb2⟩;have b3:=aa b0 bb2;clear b0 bb2 HF
 go_wp2
 go_ret3
 exact⟨by simp,b3⟩
theorem eU {n:Int}: ∀{ps:List ByteArray},fT n ps=0→ ∀p∈ps,dF n p=0
 | [],_,p,hp=>by simp at hp
 |q::ps,h,p,hp=>by
  unfold fT at h
  by_cases c:dF n q=0
  ·rw[if_pos c] at h
   rcases List.mem_cons.1 hp with rfl|h2
   ·exact c
   ·exact eU h p h2
  ·rw[if_neg c] at h
   exact absurd h c
theorem zl {n:Int}{p:ByteArray}(h:dF n p=0):1≤bM n p∧bM n p≤5:=by
 unfold bM;rw[if_pos h];have:=DV n.toNat (aZ n.toNat p) (aR n.toNat p) (aU n.toNat p);omega
def bJ (a b:ak):Int:=dJ (aG a (dV b))
def hiI (x:Nat→ak):Nat→Nat
 |0=>0
 |i+1=>if 0<bJ (x (i+1)) (x (hiI x i)) then i+1 else hiI x i
theorem mL.apart3 {w:World}{b c:Nat}{v0 v1 v2 v3 v4 v5:Value}(h:mL w b v0 v1 v2 v3 v4 v5)(hne:c≠b)(x0 x1 x2:Value):
  mL (((w.setCell ⟨c,0,none⟩ x0).setCell ⟨c,1,none⟩ x1).setCell ⟨c,2,none⟩ x2) b v0 v1 v2 v3 v4 v5:=by
 obtain⟨hl,⟨c0,c1,c2,c3,c4,c5⟩,f0,f1,f2,f3,f4,f5⟩:=h;refine⟨by simpa using hl,⟨?_, ?_, ?_, ?_, ?_, ?_⟩,by simpa using f0,by simpa using f1,by simpa using f2,by simpa using f3,by simpa using f4,by simpa using f5⟩
 all_goals (rw[World.cell?_setCell_other (h:=by simp),World.cell?_setCell_other (h:=by simp),World.cell?_setCell_other (h:=by simp)];assumption)
theorem ZB6.off {w w':World}{q b:Nat}(h:ZB6 w q)(hg:w.grownBy w' (some b))(hne:q≠b):ZB6 w' q:=by
 obtain⟨hl,ty,hh⟩:=h;exact⟨Nat.lt_of_lt_of_le hl hg.size,ty,(hg.block q hl (by intro e;cases e;exact hne rfl)).trans hh⟩
theorem Jl (K:Nat)(t:ak):dJ t=sgn (V K t):=(Di K t).symm
end Go.Proofs.YtddkchlamdhgcaaGreatDoor
