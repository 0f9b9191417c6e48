/-
  Texts laid together: Cmp, Ref1, Ref2, Row, Laws2, Bits, Shift, Dy1.
-/
import Derived.Deep.RegionLaw
import Derived.WalkSmall
import Derived.OpenShut
import Derived.Laws.MathBits
import Derived.Lib.BitFns
import Derived.Lib.Walk
import Derived.Lib.Small
import Derived.Shelf.Spec.TrailingZeros
import Derived.Test.YtnhackdjplppjaaGreatDoorSp02
set_option maxRecDepth 100000
namespace Go.Proofs.YtnhackdjplppjaaGreatDoor
open Go.RowKit
theorem cmpI_lt {a b:Int} (h:a<b):cmpI a b= -1:=by unfold cmpI;rw[if_pos h]
theorem cmpI_gt {a b:Int} (h:b<a):cmpI a b=1:=by unfold cmpI;rw[if_neg (by omega),if_pos h]
theorem cmpI_eq (a:Int):cmpI a a=0:=by unfold cmpI;rw[if_neg (by omega),if_neg (by omega)]
set_option maxHeartbeats 1600000 in
theorem compare_any (va vb:Value) (xs ys:List Nat) (w:World) (ha:Rd w .u32 va xs) (hb:Rd w .u32 vb ys) (sa:Dg.Small 4294967296 xs) (sb:Dg.Small 4294967296 ys) (na:Dg.Norm xs) (nb:Dg.Norm ys):
  Calls Tryz.prog 169 #[va,vb] w fun e w'=>e= .returned (yi (cmpI (Dg.vl 4294967296 xs) (Dg.vl 4294967296 ys)))∧Below w.heap.size w w':=by
 obtain⟨ao,ca,rfl,hla,hma,hca⟩:=ha;obtain⟨bo,cb,rfl,hlb,hmb,hcb⟩:=hb;unfold maxLen at hma hmb;obtain⟨r,hr⟩: ∃r,cmpI (Dg.vl 4294967296 xs) (Dg.vl 4294967296 ys)=r:=⟨_,rfl⟩;have hc0:=cmpInt_any (xs.length:Int) (ys.length:Int) w
 by_cases h1:xs.length<ys.length
 ·have hv:=Dg.vl_lt_of_len 4294967296 (by omega) xs ys sa nb h1
  rw[cmpI_lt (by omega)] at hr;subst hr;rw[cmpI_lt (by omega)] at hc0;rw[cmpI_lt (by omega)]
  go_enter Tryz.func169,Tryz.ntmps169
  go_wp2_with fail
  refine hc0.mono ?_;rintro e w' ⟨rfl,rfl⟩
  go_wp2
  go_ret
  exact⟨rfl,Below.refl _ _⟩
 ·by_cases h2:ys.length<xs.length
  ·have hv:=Dg.vl_lt_of_len 4294967296 (by omega) ys xs sb na h2
   rw[cmpI_gt (by omega)] at hc0;rw[cmpI_gt (by omega)];clear hr
   go_enter Tryz.func169,Tryz.ntmps169
   go_wp2_with fail
   refine hc0.mono ?_;rintro e w' ⟨rfl,rfl⟩
   go_wp2
   go_ret
   exact⟨rfl,Below.refl _ _⟩
  ·have hle:xs.length=ys.length:=by omega
   rw[hle,cmpI_eq] at hc0;rw[hr];have HR:Hid _:=hr;have HL:Hid _:=hle;rw[hle] at hla hca⊢;clear hr hle h1 h2
   go_enter Tryz.func169,Tryz.ntmps169
   go_wp2_with fail
   refine hc0.mono ?_;rintro e w' ⟨rfl,rfl⟩;clear hc0
   go_wp2
   go_loopw [6] (fun iv wr=> ∃k:Nat,k≤ys.length∧iv=yi ((k:Int)-1)∧Hid (∀j,k≤j→xs.getD j 0=ys.getD j 0)∧Below w'.heap.size w' wr) (fun iv _=>(intOf iv+1).toNat)
   case atStart=>exact⟨ys.length,Nat.le_refl _,rfl,fun j hj=>by rw[Dg.getD_of_le xs j (by rw[HL.out];exact hj),Dg.getD_of_le ys j hj],Below.refl _ _⟩
   case round=>
    obtain⟨k,hk,rfl,hall,bel⟩:=hrel
    by_cases hk0:k=0
    ·subst hk0
     have he:=Dg.eq_of_all xs ys HL.out (fun j=>hall j (by omega))
     have hr0:r=0:=by rw[←HR.out,he,cmpI_eq]
     subst hr0;clear he
     go_wp2
     go_ret
     exact⟨rfl,bel⟩
    ·obtain⟨m,rfl⟩: ∃m,k=m+1:=⟨k-1,by omega⟩
     obtain⟨b,off,rfl,hcell⟩:=hca (by omega);obtain⟨b2,off2,rfl,hcell2⟩:=hcb (by omega);have hx:=cell_later bel (hcell m (by omega));have hy:=cell_later bel (hcell2 m (by omega));have hst:xs.getD m 0<ys.getD m 0→cmpI (Dg.vl 4294967296 xs) (Dg.vl 4294967296 ys)= -1:=fun h=>
      cmpI_lt (by have:=Dg.vl_lt_of_digit 4294967296 xs ys m HL.out (by rw[HL.out];omega) hall h sa;omega)
     have hst2:ys.getD m 0<xs.getD m 0→cmpI (Dg.vl 4294967296 xs) (Dg.vl 4294967296 ys)=1:=fun h=>
      cmpI_gt (by have:=Dg.vl_lt_of_digit 4294967296 ys xs m HL.out.symm (by omega) (fun j hj=>(hall j hj).symm) h sb;omega)
     rw[HR.out] at hst hst2;obtain⟨x,ex⟩: ∃x,xs.getD m 0=x:=⟨_,rfl⟩;obtain⟨y,ey⟩: ∃y,ys.getD m 0=y:=⟨_,rfl⟩;have HX:Hid _:=ex;have HY:Hid _:=ey;rw[ex] at hx hst hst2;rw[ey] at hy hst hst2;clear ex ey hcell hcell2 hca hcb;have hcm:=fun wx=>cmpU32_any (x:Int) (y:Int) wx
     have hmI:((m+1:Nat):Int)-1=(m:Int):=by omega
     by_cases hxy:x<y
     ·have hr1:=hst hxy
      subst hr1;rw[cmpI_lt (by omega)] at hcm;clear hst hst2
      go_wp2
      go_quiet ((go_at_call 213;exact Calls.quiet_of_same (hcm _)))
      go_wp2
      go_ret
      exact⟨rfl,below_drewN bel _⟩
     ·by_cases hyx:y<x
      ·have hr1:=hst2 hyx
       subst hr1;rw[cmpI_gt (by omega)] at hcm;clear hst hst2
       go_wp2
       go_quiet ((go_at_call 213;exact Calls.quiet_of_same (hcm _)))
       go_wp2
       go_ret
       exact⟨rfl,below_drewN bel _⟩
      ·have hxe:x=y:=by omega
       subst hxe;rw[cmpI_eq] at hcm;clear hst hst2
       go_wp2
       go_quiet ((go_at_call 213;exact Calls.quiet_of_same (hcm _)))
       go_wp2
       go_roundw
       case rel=>exact⟨m,by omega,by go_num,fun j hj=>by
        by_cases e:j=m
        ·rw[e];exact HX.out.trans HY.out.symm
        ·exact hall j (by omega),below_drewN bel _⟩
       case measure=>simp[intOf]
end Go.Proofs.YtnhackdjplppjaaGreatDoor
namespace Go.Proofs.YtnhackdjplppjaaGreatDoor
open Go.RowKit
theorem Tryz.infoI64:(Tryz.prog.info? 3).map (fun i=>(i.zero,i.size,i.bytes))=some (some (.int .i64 0),1,8):=by kernel_rfl
def Far (B:Nat) (v:Value):Prop:= ∀a n c,v= .slice (some a) n c→B≤a.block
theorem own_far {w:World} {base e:Nat} {k:IntKind} {v:Value} {zs:List Nat} (h:Own w base e k v zs):Far base v:=fun a n c hv=>by
 rcases h.2 with⟨e1,_⟩| ⟨g,cap,cur,e1,hg,_⟩
 ·rw[e1] at hv;cases hv
 ·rw[e1] at hv
  cases hv
  exact hg
theorem Far.mono {B B':Nat} {v:Value} (h:Far B v) (hb:B'≤B):Far B' v:=fun a n c hv=>Nat.le_trans hb (h a n c hv)
end Go.Proofs.YtnhackdjplppjaaGreatDoor
namespace Go.Proofs.YtnhackdjplppjaaGreatDoor
open Go.RowKit
theorem vl_take_any (B:Nat) (l:List Nat) (k:Nat):Dg.vl B (l.take (k+1))=Dg.vl B (l.take k)+B^k*l.getD k 0:=by
 by_cases h:k<l.length
 ·exact Dg.vl_take_succ _ _ _ h
 ·rw[List.take_of_length_le (by omega),List.take_of_length_le (by omega),Dg.getD_of_le _ _ (by omega)];omega
theorem pow_two (k:Nat):(65536:Nat)^ (2*k)=4294967296^k:=by rw[Nat.pow_mul]
set_option maxHeartbeats 1600000 in
theorem same_any (va vb:Value) (xs ys:List Nat) (w:World) (ha:Rd w .u32 va xs) (hb:Rd w .u32 vb ys):
  Calls Tryz.prog 101 #[va,vb] w fun e w'=>e= .returned (.bool (decide (xs=ys)))∧Below w.heap.size w w':=by
 obtain⟨ao,ca,rfl,hla,hma,hca⟩:=ha;obtain⟨bo,cb,rfl,hlb,hmb,hcb⟩:=hb;unfold maxLen at hma hmb;obtain⟨r,hr⟩: ∃r,decide (xs=ys)=r:=⟨_,rfl⟩;rw[hr]
 by_cases hle:xs.length=ys.length
 ·have HR:Hid _:=hr
  have HL:Hid _:=hle;rw[hle] at hla hca⊢;clear hr hle
  go_enter Tryz.func101,Tryz.ntmps101
  go_wp2
  go_loopw [5] (fun iv wr=> ∃k:Nat,k≤ys.length∧iv=yi k∧Hid (∀j,j<k→xs.getD j 0=ys.getD j 0)∧Below w.heap.size w wr) (fun iv _=>ys.length-(intOf iv).toNat)
  case atStart=>exact⟨0,Nat.zero_le _,rfl,fun j hj=>by omega,Below.refl _ _⟩
  case round=>
   obtain⟨k,hk,rfl,hall,bel⟩:=hrel
   by_cases hlt:k<ys.length
   ·obtain⟨b,off,rfl,hcell⟩:=hca (by omega)
    obtain⟨b2,off2,rfl,hcell2⟩:=hcb (by omega);have hx:=cell_later bel (hcell k hlt);have hy:=cell_later bel (hcell2 k hlt);have hst:xs.getD k 0≠ys.getD k 0→decide (xs=ys)=false:=fun h=>by
     rw[decide_eq_false];intro e;rw[e] at h;exact h rfl
    rw[HR.out] at hst;obtain⟨x,ex⟩: ∃x,xs.getD k 0=x:=⟨_,rfl⟩;obtain⟨y,ey⟩: ∃y,ys.getD k 0=y:=⟨_,rfl⟩;have HX:Hid _:=ex;have HY:Hid _:=ey;rw[ex] at hx hst;rw[ey] at hy hst;clear ex ey hcell hcell2 hca hcb
    by_cases hxy:x=y
    ·subst hxy
     clear hst
     go_wp2
     go_quiet (fail)
     go_wp2
     go_roundw
     case rel=>exact⟨k+1,by omega,by go_num,fun j hj=>by
      by_cases e:j=k
      ·rw[e];exact HX.out.trans HY.out.symm
      ·exact hall j (by omega),below_drewN bel _⟩
     case measure=>simp[intOf];omega
    ·have hrf:=hst hxy
     subst hrf;have hne:((x:Int) != (y:Int))=true:=by rw[bne_iff_ne];omega
     go_wp2
     go_quiet (fail)
     go_wp2
     go_ret
     exact⟨rfl,below_drewN bel _⟩
   ·have he:xs=ys:=Dg.eq_of_all xs ys HL.out (fun j=>by
     by_cases hj:j<k
     ·exact hall j hj
     ·rw[Dg.getD_of_le xs j (by rw[HL.out];omega),Dg.getD_of_le ys j (by omega)])
    have hrt:r=true:=by rw[←HR.out];exact decide_eq_true he
    subst hrt;clear he
    go_wp2
    go_ret
    exact⟨rfl,bel⟩
 ·have hrf:r=false:=by rw[←hr];apply decide_eq_false;intro e;rw[e] at hle;exact hle rfl
  subst hrf;clear hr;have hne:((xs.length:Int) != (ys.length:Int))=true:=by rw[bne_iff_ne];omega
  go_enter Tryz.func101,Tryz.ntmps101
  go_wp2
  go_ret
  exact⟨rfl,Below.refl _ _⟩
end Go.Proofs.YtnhackdjplppjaaGreatDoor
namespace Go.Proofs.YtnhackdjplppjaaGreatDoor
open Go.RowKit
theorem rd_of_row {w:World} {a:Option Addr} {len cap:Nat} {zs:List Int}
  (h:(a=none∧len=0∧cap=0∧zs=[])∨ ∃x,a=some x∧len≤cap∧cap≤maxLen∧zs.length=cap∧(∀i,i<zs.length→w.cell? (x.add i)=some (.int .u32 (zs.getD i 0)))∧ ∀n∈zs,(Lit.int .u32 n).wf=true):
  ∃xs,Rd w .u32 (.slice a len cap) xs∧Dg.Small 4294967296 xs:=by
 rcases h with⟨rfl,rfl,rfl,rfl⟩| ⟨x,rfl,hl,hm,hz,hcell,hwz⟩
 ·exact⟨[],⟨none,0,rfl,by simp,by unfold maxLen;omega,fun h=>by simp at h⟩,Dg.small_nil _ (by omega)⟩
 ·obtain⟨b,off,spot⟩:=x
  have hb: ∀i,i<zs.length→0≤zs.getD i 0∧zs.getD i 0<4294967296:=fun i hi=>by
   have:=bounds_u32 (hwz (zs.getD i 0) (by simp[List.getD_eq_getElem?_getD,hi]));omega
  have hlen:((zs.take len).map Int.toNat).length=len:=by simp;omega
  have hget: ∀i,i<len→(((zs.take len).map Int.toNat).getD i 0:Nat)=(zs.getD i 0).toNat:=fun i hi=>by
   have h1:i<zs.length:=by omega
   simp[List.getD_eq_getElem?_getD,hi,h1]
  refine⟨(zs.take len).map Int.toNat,⟨_,cap,by rw[hlen],by rw[hlen];exact hl,hm,fun hp=> ?_⟩,fun i=> ?_⟩
  ·rw[hlen] at hp
   have h0:=hcell 0 (by omega);have hspot:spot=none:=by simpa[Addr.add] using World.cell?_spot h0
   subst hspot;refine⟨b,off,rfl,fun i hi=> ?_⟩
   rw[hlen] at hi;have:=hcell i (by omega);rw[addr_add] at this;rw[this,hget i hi];have:=(hb i (by omega)).1
   congr 2
   omega
  ·by_cases hi:i<len
   ·rw[hget i hi];have:=hb i (by omega);omega
   ·rw[Dg.getD_of_le _ _ (by rw[hlen];omega)];omega
end Go.Proofs.YtnhackdjplppjaaGreatDoor
namespace Go.Proofs.YtnhackdjplppjaaGreatDoor
open Go.RowKit
theorem dg_len_mono (B n m:Nat) (hB:2≤B) (h:n≤m):(Dg.dg B n).length≤(Dg.dg B m).length:=by
 refine Dg.dg_len_le B n _ hB ?_;have:=Dg.vl_lt B (Dg.dg B m) (Dg.small_dg B m hB);rw[Dg.vl_dg B m hB] at this;omega
end Go.Proofs.YtnhackdjplppjaaGreatDoor
namespace Go.Proofs.YtnhackdjplppjaaGreatDoor
open Go.RowKit
theorem bitLen_zero:bitLen 0=0:=rfl
theorem bitLen_two (x:Nat) (h:x≠0):bitLen x=1+bitLen (x/2):=by
 by_cases h1:x/2=0
 ·have:x=1:=by omega
  subst this;rfl
 ·exact bitLen_shift x 1 h1
theorem libBit (x:Nat) (h:x<18446744073709551616):Lib.bitLen x=bitLen x:=by
 induction x using Nat.strongRecOn with
 |_ x ih=>
  by_cases h0:x=0
  ·subst h0;rfl
  ·rw[Lib.bitLen_half x h0 h,bitLen_two x h0,ih (x/2) (by omega) (by omega)]
theorem tab_at (i:Nat) (h:i<Lib.len8tab.size):(Lib.len8tab[i]'h).toNat=bitLen i:=by
 have hs:=Lib.len8tab_size;have:=Lib.len8_eq ⟨i,by omega⟩;simp only[Lib.len8,Int.toNat_natCast] at this;rw[getElem?_pos Lib.len8tab i h] at this;simp only[Option.getD_some] at this;rw[libBit i (by omega)] at this;omega
theorem close_len (k q x:Nat) (h:bitLen x=k+bitLen q) (hq:q<256∧k≤24):RowKit.wrap64 ((k:Int)+RowKit.wrap64 ((bitLen q:Nat):Int))=((bitLen x:Nat):Int):=by
 have hb:=bitLen_le8 q hq.1;have e1:=IntWalk.wrap64_in ((bitLen q:Nat):Int) ⟨by omega,by omega⟩;rw[e1,IntWalk.wrap64_in _ ⟨by omega,by omega⟩,h];omega
set_option maxHeartbeats 4000000 in
theorem len32_int (x:Int) (w:World) (h0:0≤x) (h1:x≤4294967295):
  Calls Tryz.prog 216 #[.int .u32 x] w fun e w'=>e= .returned (yi (bitLen x.toNat:Nat))∧w'=w:=by
 go_enter Tryz.func216,Tryz.ntmps216
 go_wp2
 all_goals try (exfalso;have hz:=Lib.len8tab_size;omega)
 all_goals (go_ret;refine⟨congrArg Ending.returned (congrArg (Value.int IntKind.i64) ?_),rfl⟩)
 all_goals simp only[tab_at]
 ·exact close_len 24 _ x.toNat (by have:=bitLen_shift x.toNat 24 (by omega);rw[this];congr 2;omega) (by omega)
 ·exact close_len 16 _ x.toNat (by have:=bitLen_shift x.toNat 16 (by omega);rw[this];congr 2;omega) (by omega)
 ·exact close_len 8 _ x.toNat (by have:=bitLen_shift x.toNat 8 (by omega);rw[this];congr 2;omega) (by omega)
 ·have hb:=bitLen_le8 x.toNat (by omega)
  have e1:=IntWalk.wrap64_in ((bitLen x.toNat:Nat):Int) ⟨by omega,by omega⟩;rw[e1,e1]
theorem len32_any (x:Nat) (w:World) (h:x<4294967296):
  Calls Tryz.prog 216 #[.int .u32 x] w fun e w'=>e= .returned (yi (bitLen x:Nat))∧w'=w:=by
 have:=len32_int (x:Int) w (by omega) (by omega);rw[Int.toNat_natCast] at this;exact this
theorem bitLen_vl (B:Nat) (b:Nat) (hb:B=2^b) (h1:1<B) (zs:List Nat) (hs:Dg.Small B zs) (hn:Dg.Norm zs) (hne:zs≠[]):bitLen (Dg.vl B zs)=b*(zs.length-1)+bitLen (zs.getD (zs.length-1) 0):=by
 have hl:0<zs.length:=List.length_pos_iff.2 hne;have hsp:=Dg.vl_split B zs (zs.length-1) (by omega);rw[show zs.length-1+1=zs.length from by omega,List.drop_of_length_le (Nat.le_refl _)] at hsp
 simp only[Dg.vl,Nat.mul_zero,Nat.add_zero] at hsp;have hlt:=Dg.vl_lt B (zs.take (zs.length-1)) (Dg.small_take hs _ (by omega));rw[List.length_take,Nat.min_eq_left (by omega)] at hlt;have hpw:B^ (zs.length-1)=2^ (b*(zs.length-1)):=by rw[hb,Nat.pow_mul]
 have hdiv:Dg.vl B zs/2^ (b*(zs.length-1))=zs.getD (zs.length-1) 0:=by
  rw[←hpw,hsp,Nat.add_comm,Nat.mul_add_div (Nat.pow_pos (by omega)),Nat.div_eq_of_lt hlt,Nat.add_zero]
 have hnz:=hn hne;rw[bitLen_shift _ (b*(zs.length-1)) (by rw[hdiv];exact hnz),hdiv]
theorem bitLen_le_of (x k:Nat) (h:x<2^k):bitLen x≤k:=by
 by_cases h0:x=0
 ·subst h0;rw[bitLen_zero];omega
 ·have:=(bitLen_spec x).2 h0
  have:=(Nat.pow_lt_pow_iff_right (by omega:1<2)).1 (Nat.lt_of_le_of_lt this h);omega
theorem bits_any (va:Value) (xs:List Nat) (w:World) (ha:Rd w .u32 va xs) (sa:Dg.Small 4294967296 xs) (na:Dg.Norm xs) (hla:xs.length≤1000000):
  Calls Tryz.prog 176 #[va] w fun e w'=>e= .returned (yi (bitLen (Dg.vl 4294967296 xs):Nat))∧w'=w:=by
 obtain⟨ao,ca,rfl,-,-,hca⟩:=ha
 by_cases h0:xs.length=0
 ·obtain rfl:xs=[]:=List.eq_nil_of_length_eq_zero h0
  go_enter Tryz.func176,Tryz.ntmps176
  go_wp2
  go_ret
  exact⟨rfl,rfl⟩
 ·have hne:xs≠[]:=by intro e;subst e;simp at h0
  obtain⟨b,off,rfl,hcell⟩:=hca (by omega);have hc:=hcell (xs.length-1) (by omega);have hs:=sa (xs.length-1);rw[bitLen_vl 4294967296 32 (by decide) (by omega) xs sa na hne];obtain⟨x,ex⟩: ∃x,xs.getD (xs.length-1) 0=x:=⟨_,rfl⟩;rw[ex] at hc hs⊢;have hbl:=bitLen_le_of x 32 (by omega);have h3:=len32_any x w hs;obtain⟨l,hl⟩: ∃l,bitLen x=l:=⟨_,rfl⟩;rw[hl] at h3 hbl⊢;have h00:((xs.length:Int)==0)=false:=by simp;intro e;subst e;simp at h0
  clear ex hcell hca hne hl
  go_enter Tryz.func176,Tryz.ntmps176
  go_wp2_with fail
  refine h3.mono ?_;rintro e w' ⟨rfl,rfl⟩
  go_wp2
  go_ret
  exact⟨by go_num,rfl⟩
end Go.Proofs.YtnhackdjplppjaaGreatDoor
namespace Go.Proofs.YtnhackdjplppjaaGreatDoor
open Go.RowKit
def RaiseI (xs ups:List Nat) (wh P k:Nat):Prop:=
 ups.length=xs.length+wh+1∧Dg.Small 4294967296 ups∧(∀j,wh+k<j→ups.getD j 0=0)∧ups.getD (wh+k) 0<P∧Dg.vl 4294967296 ups=4294967296^wh*(Dg.vl 4294967296 (xs.take k)*P)
theorem raise_start (xs:List Nat) (wh P:Nat) (hP:0<P):RaiseI xs (List.replicate (xs.length+wh+1) 0) wh P 0:=by
 have hz: ∀j,(List.replicate (xs.length+wh+1) 0).getD j 0=0:=fun j=>by
  by_cases h:j<xs.length+wh+1<;>simp[List.getD_eq_getElem?_getD,h]
 exact⟨by simp,Dg.small_replicate _ _ (by omega),fun j _=>hz j,by rw[hz];exact hP,by simp[Dg.vl_replicate_zero,Dg.vl]⟩
theorem raise_step {xs ups:List Nat} {wh P k x:Nat} (h:RaiseI xs ups wh P k) (hk:k<xs.length) (hx:xs.getD k 0=x) (hxl:x<4294967296) (hPQ: ∃Q,P*Q=4294967296) (hP:0<P):
  RaiseI xs ((ups.set (wh+k) (ups.getD (wh+k) 0+x*P % 4294967296)).set (wh+k+1) (x*P/4294967296)) wh P (k+1):=by
 obtain⟨h1,h2,h3,h4,h5⟩:=h;obtain⟨Q,hQ⟩:=hPQ;have hdv:x*P/4294967296<P:=by
  rw[Nat.div_lt_iff_lt_mul (by omega),Nat.mul_comm P];exact Nat.mul_lt_mul_of_pos_right hxl hP
 have hP32:P≤4294967296:=by
  rw[←hQ];exact Nat.le_mul_of_pos_right _ (by
   rcases Nat.eq_zero_or_pos Q with e|e
   ·subst e;simp at hQ
   ·exact e)
 have hmod:x*P % 4294967296+P≤4294967296:=by
  have e:x*P % 4294967296=P*(x % Q):=by rw[←hQ,Nat.mul_comm x P,Nat.mul_mod_mul_left]
  have hQ0:0<Q:=by
   rcases Nat.eq_zero_or_pos Q with e|e
   ·subst e;simp at hQ
   ·exact e
  have e2:P*(x % Q+1)≤P*Q:=Nat.mul_le_mul_left _ (Nat.mod_lt _ hQ0);rw[Nat.mul_add,Nat.mul_one] at e2;rw[e];omega
 have hl:wh+k<ups.length:=by omega
 have hl2:wh+k+1< (ups.set (wh+k) (ups.getD (wh+k) 0+x*P % 4294967296)).length:=by simp;omega
 refine⟨by simpa using h1,Dg.small_set (Dg.small_set h2 _ _ (by omega)) _ _ (by omega),fun j hj=> ?_, ?_, ?_⟩
 ·rw[Dg.getD_set _ _ _ _ hl2,if_neg (by omega),Dg.getD_set _ _ _ _ hl,if_neg (by omega)];exact h3 j (by omega)
 ·rw[show wh+(k+1)=wh+k+1 from by omega,Dg.getD_set _ _ _ _ hl2,if_pos rfl];exact hdv
 ·have s1:=Dg.vl_set 4294967296 ups (wh+k) (ups.getD (wh+k) 0+x*P % 4294967296) hl
  have s2:=Dg.vl_set 4294967296 (ups.set (wh+k) (ups.getD (wh+k) 0+x*P % 4294967296)) (wh+k+1) (x*P/4294967296) hl2;have z1:=h3 (wh+k+1) (by omega);have z2:(ups.set (wh+k) (ups.getD (wh+k) 0+x*P % 4294967296)).getD (wh+k+1) 0=0:=by rw[Dg.getD_set _ _ _ _ hl,if_neg (by omega)];exact z1
  rw[z2] at s2;rw[Dg.vl_take_succ _ _ _ hk,hx,Nat.add_mul,Nat.mul_add,←h5];have e1:4294967296^ (wh+k+1)*(x*P/4294967296)=4294967296^ (wh+k)*(4294967296*(x*P/4294967296)):=by rw[Nat.pow_succ,Nat.mul_assoc]
  have e2:4294967296^wh*(4294967296^k*x*P)=4294967296^ (wh+k)*(x*P):=by rw[Nat.pow_add,Nat.mul_assoc,Nat.mul_assoc]
  have e3:4294967296^ (wh+k)*(x*P)=4294967296^ (wh+k)*(x*P % 4294967296)+4294967296^ (wh+k)*(4294967296*(x*P/4294967296)):=by
   rw[←Nat.mul_add,Nat.mod_add_div]
  rw[Nat.mul_add] at s1;rw[e2,e3];rw[e1] at s2;omega
theorem or_raise (u x pt:Nat) (hpt:pt<32) (hu:u<2^pt):bits .or .u32 (u:Int) ((x:Int)*2^pt % 4294967296)=((u+x*2^pt % 4294967296:Nat):Int):=by
 have hp:2^pt≤2^31:=Nat.pow_le_pow_right (by omega) (by omega);have e:(x:Int)*2^pt % 4294967296=((x*2^pt % 4294967296:Nat):Int):=by
  rw[Int.natCast_emod,Int.natCast_mul,Int.natCast_pow];rfl
 rw[e,u32_or_nat _ _ (by omega) (Nat.mod_lt _ (by omega)),Nat.or_comm];have hz:x*2^pt % 4294967296 % 2^pt=0:=by
  have hd:2^pt∣4294967296:=⟨2^ (32-pt),by rw[←Nat.pow_add,show pt+(32-pt)=32 from by omega]⟩
  rw[Nat.mod_mod_of_dvd _ hd];exact Nat.mul_mod_left _ _
 rw[nat_join pt _ _ hz hu];omega
theorem div_raise (x pt:Nat) (hpt:pt<32):(x:Int)/2^ (32-pt)=((x*2^pt/4294967296:Nat):Int):=by
 have e:x*2^pt/4294967296=x/2^ (32-pt):=by
  have:(4294967296:Nat)=2^ (32-pt)*2^pt:=by rw[←Nat.pow_add,show 32-pt+pt=32 from by omega]
  rw[this,Nat.mul_div_mul_right _ _ (Nat.pow_pos (by omega))]
 rw[e,Int.natCast_ediv,Int.natCast_pow];rfl
set_option maxHeartbeats 1600000 in
theorem raised_any (va:Value) (xs:List Nat) (n wh pt P:Nat) (w:World) (ha:Rd w .u32 va xs) (sa:Dg.Small 4294967296 xs) (hla:xs.length≤1000000) (hn:n=32*wh+pt) (hpt:pt<32) (hP:P=2^pt) (hnl:n≤1000000) (hne:xs≠[]):
  Calls Tryz.prog 218 #[va,yi n] w (Num w (Dg.vl 4294967296 xs*2^n)):=by
 obtain⟨ao,ca,rfl,-,-,hca⟩:=ha;obtain⟨i0,hi,hz0,hz1,hz2⟩:=info_parts Tryz.infoU32;have hl0:0<xs.length:=List.length_pos_iff.2 hne;have h00:((xs.length:Int)==0)=false:=by simp;exact hne
 have hq:(n:Int)/32=(wh:Int):=by omega
 have hr:(n:Int) % 32=(pt:Int):=by omega
 have HN:Hid _:=hn;have HP:Hid _:=hP;clear hn hP
 go_enter Tryz.func218,Tryz.ntmps218
 go_wp2_with (at_make;refine wpList_make_full _ rfl _ _ 161 rfl w.heap.size 141 i0 (.int .u32 0) 1 Tryz.underlying161 hi hz0 hz1 _ _ _ _ (xs.length+wh+1) rfl rfl (by omega) (by omega) ?b2 ?b3 (Nat.le_refl _) ?_)
 case b2=>rw[hz2];have:=HN.out;omega
 case b3=>unfold maxLen;have:=HN.out;omega
 intro w0 hown0 hgrow0;have own0:=own_made hown0;have bel0:Below w.heap.size w w0:=(Below.refl _ _).grown hgrow0 (Nat.le_refl _) (fun k h=>by cases h)
 have hwl:wh≤1000000:=by have:=HN.out;omega
 clear hown0 hgrow0
 go_wp2
 go_loopw [25] (fun kv wr=> ∃(k:Nat) (ups:List Nat),k≤xs.length∧kv=yi k∧Own wr w.heap.size 141 .u32 (.slice (some ⟨w.heap.size,0,none⟩) (xs.length+wh+1) (xs.length+wh+1)) ups∧RaiseI xs ups wh P k∧Below w.heap.size w wr) (fun kv _=>xs.length-(intOf kv).toNat)
 case atStart=>exact⟨0,_,Nat.zero_le _,rfl,own0,raise_start xs wh P (by rw[HP.out];exact Nat.pow_pos (by omega)),bel0⟩
 case round=>
  clear own0 bel0;obtain⟨k,ups,hk,rfl,own,hI,bel⟩:=hrel;have hul:=hI.1
  by_cases hlt:k<xs.length
  ·obtain⟨b,off,rfl,hcell⟩:=hca (by omega)
   have hx:=cell_later bel (hcell k hlt);have hxl:=sa k;have hu:=own.cell (wh+k) (by omega);have hf:=own.free (wh+k);have hf2:=own.free (wh+k+1);have hu2:=own.cell (wh+k+1) (by omega);have huP:=hI.2.2.2.1;obtain⟨x,ex⟩: ∃x,xs.getD k 0=x:=⟨_,rfl⟩;rw[ex] at hx hxl;obtain⟨u,eu⟩: ∃u,ups.getD (wh+k) 0=u:=⟨_,rfl⟩;rw[eu] at hu huP;have Hul:Hid _:=hul;have HX:Hid _:=ex;have HU:Hid _:=eu;clear ex eu hcell hca hul
   go_wp2
   go_region
   all_goals go_wp2
   all_goals go_roundw
   case rel=>
    have e1:=or_raise u x pt hpt (by rw[←HP.out];exact huP);have e2:=div_raise x pt hpt;rw[e1,e2,←HP.out];have hst:=raise_step hI hlt HX.out hxl ⟨2^ (32-pt),by rw[HP.out,←Nat.pow_add,show pt+(32-pt)=32 from by omega]⟩ (by omega)
    rw[HU.out] at hst;exact⟨k+1,_,by omega,by go_num,Own.later ((own.store (wh+k) _).store (wh+k+1) _) (Below.drew (Below.refl _ _)),hst,((bel.setCell (by exact Nat.le_refl _) _).setCell (by exact Nat.le_refl _) _).drew⟩
   case measure=>simp[intOf];omega
  ·have hke:k=xs.length:=by omega
   subst hke;have hps:=hI.2.1;have hv:=hI.2.2.2.2;rw[List.take_of_length_le (Nat.le_refl _)] at hv;have hv2:Dg.vl 4294967296 ups=Dg.vl 4294967296 xs*2^n:=by
    rw[hv,HP.out,HN.out,Nat.pow_add,Nat.pow_mul,Nat.mul_left_comm]
   have HV:Hid _:=hv2;clear hul hv hv2
   go_wp2_with fail
   refine(trim_any _ _ _ ups _ own.rd).mono ?_;rintro e w' ⟨m,rfl,hm,rfl⟩;have ht:=own_trim 4294967296 (by omega) own hps hm;rw[HV.out] at ht;clear hm
   go_wp2
   go_ret
   exact⟨_,rfl,ht,bel⟩
def low (P Q:Nat):List Nat→List Nat
 | []=>[]
 |y::l=>(y/P+l.headD 0 % P*Q)::low P Q l
theorem low_length (P Q:Nat) (l:List Nat):(low P Q l).length=l.length:=by
 induction l with
 |nil=>rfl
 |cons y l ih=>simp[low,ih]
theorem low_getD (P Q:Nat) (l:List Nat): ∀j,j<l.length→(low P Q l).getD j 0=l.getD j 0/P+l.getD (j+1) 0 % P*Q:=by
 induction l with
 |nil=>intro j h;simp at h
 |cons y l ih=>
  intro j h
  cases j with
  |zero=>cases l<;>simp[low]
  |succ j=>simpa[low] using ih j (by simpa using h)
theorem headD_mod (P Q:Nat) (l:List Nat):l.headD 0 % P=Dg.vl (P*Q) l % P:=by
 cases l with
 |nil=>simp[Dg.vl]
 |cons y l=>simp only[List.headD_cons,Dg.vl];rw[Nat.mul_assoc,Nat.add_mul_mod_self_left]
theorem low_vl (P Q:Nat) (hP:0<P) (l:List Nat):Dg.vl (P*Q) (low P Q l)=Dg.vl (P*Q) l/P:=by
 induction l with
 |nil=>simp[low,Dg.vl]
 |cons y l ih=>
  simp only[low,Dg.vl,ih];rw[headD_mod P Q l];have e1:(y+P*Q*Dg.vl (P*Q) l)/P=y/P+Q*Dg.vl (P*Q) l:=by
   rw[Nat.mul_assoc,Nat.add_mul_div_left _ _ hP]
  rw[e1];generalize Dg.vl (P*Q) l=V;have e2:V % P*Q+P*Q*(V/P)=Q*V:=by
   have:=Nat.mod_add_div V P
   calc V % P*Q+P*Q*(V/P)=Q*(V % P+P*(V/P)):=by rw[Nat.mul_add,Nat.mul_comm (V % P),Nat.mul_comm P Q,Nat.mul_assoc]
    _=Q*V:=by rw[this]
  omega
theorem low_digit {P Q x y:Nat} (hPQ:P*Q=4294967296) (hx:x<4294967296):x/P<Q∧x/P+y % P*Q<4294967296:=by
 have hP:0<P:=by
  rcases Nat.eq_zero_or_pos P with e|e
  ·subst e;simp at hPQ
  ·exact e
 have h1:x/P<Q:=by rw[Nat.div_lt_iff_lt_mul hP,Nat.mul_comm,hPQ];exact hx
 have h2:(y % P+1)*Q≤P*Q:=Nat.mul_le_mul_right _ (Nat.mod_lt _ hP);rw[Nat.add_mul,hPQ] at h2;exact⟨h1,by omega⟩
theorem or_low (x y pt:Nat) (hpt:pt<32) (hx:x<4294967296):bits .or .u32 ((x:Int)/2^pt) ((y:Int)*2^ (32-pt) % 4294967296)=((x/2^pt+y % 2^pt*2^ (32-pt):Nat):Int):=by
 have hPQ:2^pt*2^ (32-pt)=4294967296:=by rw[←Nat.pow_add,show pt+(32-pt)=32 from by omega]
 have hd:=low_digit (y:=y) hPQ hx;have e1:(x:Int)/2^pt=((x/2^pt:Nat):Int):=by rw[Int.natCast_ediv,Int.natCast_pow];rfl
 have e2:(y:Int)*2^ (32-pt) % 4294967296=((y*2^ (32-pt) % 4294967296:Nat):Int):=by rw[Int.natCast_emod,Int.natCast_mul,Int.natCast_pow];rfl
 have e3:y*2^ (32-pt) % 4294967296=y % 2^pt*2^ (32-pt):=by rw[←hPQ,Nat.mul_mod_mul_right]
 rw[e1,e2,e3,u32_or_nat _ _ (by omega) (by omega),Nat.or_comm,nat_join (32-pt) _ _ (Nat.mul_mod_left _ _) hd.1];omega
theorem drop_getD (l:List Nat) (a j:Nat):(l.drop a).getD j 0=l.getD (a+j) 0:=by
 simp[List.getD_eq_getElem?_getD,List.getElem?_drop]
def LowI (xs ds:List Nat) (wh P Q k:Nat):Prop:=
 ds.length=xs.length-wh∧ ∀j,ds.getD j 0=if j<k then xs.getD (wh+j) 0/P+xs.getD (wh+j+1) 0 % P*Q else 0
theorem low_end {xs ds:List Nat} {wh P Q:Nat} (h:LowI xs ds wh P Q (xs.length-wh)) (hw:wh≤xs.length) (hPQ:P*Q=4294967296) (sa:Dg.Small 4294967296 xs):
  Dg.Small 4294967296 ds∧Dg.vl 4294967296 ds=Dg.vl 4294967296 xs/(4294967296^wh*P):=by
 have hP:0<P:=by
  rcases Nat.eq_zero_or_pos P with e|e
  ·subst e;simp at hPQ
  ·exact e
 have he:ds=low P Q (xs.drop wh):=by
  apply Dg.eq_of_all
  ·rw[low_length,h.1];simp
  ·intro j
   rw[h.2 j]
   by_cases hj:j<xs.length-wh
   ·rw[if_pos hj,low_getD P Q _ j (by simpa using hj),drop_getD,drop_getD,Nat.add_assoc]
   ·rw[if_neg hj,Dg.getD_of_le _ _ (by rw[low_length];simp;omega)]
 refine⟨fun j=> ?_, ?_⟩
 ·rw[h.2 j]
  split
  ·exact(low_digit hPQ (sa _)).2
  ·omega
 ·rw[he,←hPQ,low_vl P Q hP,hPQ,←Nat.div_div_eq_div_mul]
  congr 1
  have hsp:=Dg.vl_take_drop 4294967296 xs wh hw;have hlt:=Dg.vl_lt 4294967296 (xs.take wh) (Dg.small_take sa _ (by omega));rw[List.length_take,Nat.min_eq_left hw] at hlt;rw[hsp,Nat.add_comm,Nat.mul_add_div (Nat.pow_pos (by omega)),Nat.div_eq_of_lt hlt,Nat.add_zero]
theorem low_step {xs ds:List Nat} {wh P Q k v:Nat} (h:LowI xs ds wh P Q k) (hk:k<xs.length-wh) (hv:v=xs.getD (wh+k) 0/P+xs.getD (wh+k+1) 0 % P*Q):LowI xs (ds.set k v) wh P Q (k+1):=by
 obtain⟨h1,h2⟩:=h;refine⟨by simpa using h1,fun j=> ?_⟩
 rw[Dg.getD_set _ _ _ _ (by omega)]
 by_cases e:k=j
 ·subst e;rw[if_pos rfl,if_pos (by omega)];exact hv
 ·rw[if_neg e,h2 j]
  by_cases e2:j<k
  ·rw[if_pos e2,if_pos (by omega)]
  ·rw[if_neg e2,if_neg (by omega)]
set_option maxHeartbeats 1600000 in
theorem lowered_any (va:Value) (xs:List Nat) (n wh pt:Nat) (w:World) (ha:Rd w .u32 va xs) (sa:Dg.Small 4294967296 xs) (hla:xs.length≤1000000) (hn:n=32*wh+pt) (hpt:pt<32) (hnl:n≤100000000):
  Calls Tryz.prog 217 #[va,yi n] w (Num w (Dg.vl 4294967296 xs/2^n)):=by
 have hPQ:2^pt*2^ (32-pt)=4294967296:=by rw[←Nat.pow_add,show pt+(32-pt)=32 from by omega]
 have hpw:4294967296^wh*2^pt=2^n:=by rw[hn,Nat.pow_add,Nat.pow_mul]
 obtain⟨ao,ca,rfl,-,-,hca⟩:=ha;obtain⟨i0,hi,hz0,hz1,hz2⟩:=info_parts Tryz.infoU32;have hq:(n:Int)/32=(wh:Int):=by omega
 have hr:(n:Int) % 32=(pt:Int):=by omega
 have hwl:wh≤100000000:=by omega
 have HPQ:Hid _:=hPQ;have HPW:Hid _:=hpw
 by_cases hge:xs.length≤wh
 ·have hz:Dg.vl 4294967296 xs/2^n=0:=by
   apply Nat.div_eq_of_lt;have h1:=Dg.vl_lt 4294967296 xs sa;have h2:4294967296^xs.length≤4294967296^wh:=Nat.pow_le_pow_right (by omega) hge;have h3:4294967296^wh≤4294967296^wh*2^pt:=Nat.le_mul_of_pos_right _ (Nat.pow_pos (by omega));omega
  rw[hz];clear hz hn hPQ hpw
  go_enter Tryz.func217,Tryz.ntmps217
  go_wp2
  go_ret
  exact⟨_,rfl,own_nil _ _ _ _,Below.refl _ _⟩
 ·clear hn hPQ hpw
  obtain⟨L,hL⟩: ∃L,xs.length-wh=L:=⟨_,rfl⟩
  go_enter Tryz.func217,Tryz.ntmps217
  go_wp2_with (at_make;refine wpList_make_full _ rfl _ _ 161 rfl w.heap.size 141 i0 (.int .u32 0) 1 Tryz.underlying161 hi hz0 hz1 _ _ _ _ (xs.length-wh) rfl rfl (by omega) (by omega) ?b2 ?b3 (Nat.le_refl _) ?_)
  case b2=>rw[hz2];omega
  case b3=>unfold maxLen;omega
  intro w0 hown0 hgrow0;have own0:=own_made hown0;have bel0:Below w.heap.size w w0:=(Below.refl _ _).grown hgrow0 (Nat.le_refl _) (fun k h=>by cases h)
  have HL:Hid _:=hL;have hLx:wh+L=xs.length:=by omega
  have HLX:Hid _:=hLx;have hLl:L≤1000000:=by omega
  clear hown0 hgrow0 hL hLx
  go_wp2
  go_loopw [24] (fun kv wr=> ∃(k:Nat) (ds:List Nat),k≤L∧kv=yi k∧Own wr w.heap.size 141 .u32 (.slice (some ⟨w.heap.size,0,none⟩) L L) ds∧LowI xs ds wh (2^pt) (2^ (32-pt)) k∧Below w.heap.size w wr) (fun kv _=>L-(intOf kv).toNat)
  case atStart=>
   refine⟨0,_,Nat.zero_le _,rfl,own0,⟨by have:=HL.out;simp;omega,fun j=> ?_⟩,bel0⟩
   rw[if_neg (by omega)]
   by_cases h:j<L<;>simp[List.getD_eq_getElem?_getD,h]
  case round=>
   clear own0 bel0;obtain⟨k,ds,hk,rfl,own,hI,bel⟩:=hrel;have hul:ds.length=L:=hI.1.trans HL.out
   by_cases hlt:k<L
   ·have hwk:wh+k<xs.length:=by have:=HLX.out;omega
    obtain⟨b,off,rfl,hcell⟩:=hca (by omega);have hx:=cell_later bel (hcell (wh+k) hwk);have hy:=fun h:wh+k+1<xs.length=>cell_later bel (hcell (wh+k+1) h)
    have hxl:=sa (wh+k);have hu:=own.cell k (by omega);have hf:=own.free k;have hy0: ¬wh+k+1<xs.length→xs.getD (wh+k+1) 0=0:=fun h=>Dg.getD_of_le _ _ (by omega)
    have hst:=low_step hI (by have:=HL.out;omega) rfl;obtain⟨x,ex⟩: ∃x,xs.getD (wh+k) 0=x:=⟨_,rfl⟩;obtain⟨y,ey⟩: ∃y,xs.getD (wh+k+1) 0=y:=⟨_,rfl⟩;rw[ex] at hx hxl hst;rw[ey] at hy hy0 hst;clear ex ey hcell hca hul
    by_cases h2:wh+k+1<xs.length
    ·have hy1:=hy h2
     have hor:=or_low x y pt hpt hxl;have HO:Hid _:=hor;clear hy hy0 hor
     go_wp2
     go_region
     all_goals go_wp2
     all_goals go_roundw
     case rel=>
      have e1:(x:Int)/2^pt=((x/2^pt:Nat):Int):=by rw[Int.natCast_ediv,Int.natCast_pow];rfl
      rw[HO.out,e1];have o2:=(own.store k (x/2^pt)).store k (x/2^pt+y % 2^pt*2^ (32-pt));rw[List.set_set] at o2;exact⟨k+1,_,by omega,by go_num,Own.later o2 (Below.drew (Below.refl _ _)),hst,((bel.setCell (by exact Nat.le_refl _) _).setCell (by exact Nat.le_refl _) _).drew⟩
     case measure=>simp[intOf];omega
    ·have hy1:=hy0 h2
     subst hy1;simp only[Nat.zero_mod,Nat.zero_mul,Nat.add_zero] at hst;clear hy hy0
     go_wp2
     go_roundw
     case rel=>
      have e1:(x:Int)/2^pt=((x/2^pt:Nat):Int):=by rw[Int.natCast_ediv,Int.natCast_pow];rfl
      rw[e1];exact⟨k+1,_,by omega,by go_num,own.store k _,hst,bel.setCell (by exact Nat.le_refl _) _⟩
     case measure=>simp[intOf];omega
   ·have hke:k=L:=by omega
    subst hke;have hen:=low_end (by rw[HL.out];exact hI) (by have:=HLX.out;omega) HPQ.out sa;have hv:=hen.2;rw[HPW.out] at hv;have HV:Hid _:=hv;have hps:=hen.1;clear hul hv hen
    go_wp2_with fail
    refine(trim_any _ _ _ ds _ own.rd).mono ?_;rintro e w' ⟨m,rfl,hm,rfl⟩;have ht:=own_trim 4294967296 (by omega) own hps hm;rw[HV.out] at ht;clear hm
    go_wp2
    go_ret
    exact⟨_,rfl,ht,bel⟩
def shN (N:Nat) (n:Int):Nat:=if n<0 then N/2^ (-n).toNat else N*2^n.toNat
theorem shifted_any (va:Value) (xs:List Nat) (n:Int) (w:World) (ha:Rd w .u32 va xs) (sa:Dg.Small 4294967296 xs) (hla:xs.length≤1000000) (h1: -1000000≤n) (h2:n≤1000000):
  Calls Tryz.prog 177 #[va,yi n] w (Num w (shN (Dg.vl 4294967296 xs) n)):=by
 unfold shN
 by_cases hn:n<0
 ·rw[if_pos hn]
  obtain⟨m,hm⟩: ∃m:Nat,-n=(m:Int):=⟨(-n).toNat,by omega⟩;have hl:=lowered_any va xs m (m/32) (m % 32) w ha sa hla (by omega) (by omega) (by omega);rw[hm,Int.toNat_natCast]
  go_enter Tryz.func177,Tryz.ntmps177
  go_wp2_with fail
  refine hl.mono ?_;rintro e w1 ⟨v,rfl,own,bel⟩
  go_wp2
  go_ret
  exact⟨_,rfl,own,bel⟩
 ·rw[if_neg hn]
  obtain⟨m,rfl⟩: ∃m:Nat,n=(m:Int):=⟨n.toNat,by omega⟩;rw[Int.toNat_natCast]
  by_cases hne:xs=[]
  ·subst hne
   obtain⟨ao,ca,rfl⟩:=ha.shape;have hz:Dg.vl 4294967296 []*2^m=0:=by simp[Dg.vl]
   rw[hz]
   go_enter Tryz.func177,Tryz.ntmps177
   go_wp2
   go_ret
   exact⟨_,rfl,own_nil _ _ _ _,Below.refl _ _⟩
  ·have hl:=raised_any va xs m (m/32) (m % 32) (2^ (m % 32)) w ha sa hla (by omega) (by omega) rfl (by omega) hne
   go_enter Tryz.func177,Tryz.ntmps177
   go_wp2_with fail
   refine hl.mono ?_;rintro e w1 ⟨v,rfl,own,bel⟩
   go_wp2
   go_ret
   exact⟨_,rfl,own,bel⟩
end Go.Proofs.YtnhackdjplppjaaGreatDoor
namespace Go.Proofs.YtnhackdjplppjaaGreatDoor
open Go.RowKit
def Tab (w:World):Prop:= ∀j,j<32→w.cell? ⟨0,j,none⟩=some (.int .u8 ((Lib.deBruijn32tab.getD j 0:Nat):Int))
theorem Tab.later {w w':World} (h:Tab w) (hb:Below w.heap.size w w'):Tab w':=fun j hj=>cell_later hb (h j hj)
theorem cmpI_nl {a b:Int} (h:b≤a):decide (cmpI a b<0)=false:=by
 unfold cmpI;rw[if_neg (by omega)]
 by_cases h2:b<a
 ·rw[if_pos h2];rfl
 ·rw[if_neg h2];rfl
theorem tz32_core (x k idx:Nat) (w:World) (hx0:((x:Int)==0)=false)
  (key:bits BinOp.and IntKind.u32 (x:Int) (-(x:Int) % 4294967296)*125613361 % 4294967296/134217728=(idx:Int))
  (hi:idx<32) (hk:k<32) (hcell:w.cell? ⟨0,idx,none⟩=some (.int .u8 k)):
  Calls Tryz.prog 227 #[.int .u32 x] w fun e w'=>e= .returned (yi k)∧w'=w:=by
 go_enter Tryz.func227,Tryz.ntmps227
 go_wp2_with (simp only[key])
 go_ret
 exact⟨rfl,rfl⟩
theorem tz32_any (x:Nat) (w:World) (hx:x<4294967296) (hx0:x≠0) (hT:Tab w):
  Calls Tryz.prog 227 #[.int .u32 x] w fun e w'=> ∃k m:Nat,e= .returned (yi k)∧x=2^k*(2*m+1)∧k<32∧w'=w:=by
 obtain⟨hlow,hk⟩:=Lib.lowest_bit 32 x hx0 hx;obtain⟨hi,htab⟩:=Lib.deBruijn32_at _ hk;obtain⟨m,hm,_⟩:=Lib.ctzFrom_spec 32 x (by omega) hx;have e0:Lib.ctz 32 x=Lib.ctzFrom 32 x:=by simp[Lib.ctz,hx0]
 have hcell:=hT _ hi;rw[htab] at hcell;refine(tz32_core x _ _ w (by simp;omega) (tz32_key x _ hx hx0 hlow) hi hk hcell).mono ?_;rintro e w' ⟨rfl,rfl⟩;exact⟨_,m,rfl,by rw[e0];exact hm,hk,rfl⟩
theorem tz_digit (l:List Nat) (k t m:Nat) (hk:k<l.length) (h: ∀j,j<k→l.getD j 0=0) (hd:l.getD k 0=2^t*(2*m+1)) (ht:t<32):tz (Dg.vl 4294967296 l)=32*k+t:=by
 have h1:=Dg.vl_split 4294967296 l k hk;have h0:Dg.vl 4294967296 (l.take k)=0:=Dg.vl_zeros 4294967296 (l.take k) (fun i=>by
  by_cases hi:i<k
  ·have:=h i hi
   simpa[List.getD_eq_getElem?_getD,List.getElem?_take,hi] using this
  ·simp[List.getD_eq_getElem?_getD,List.getElem?_take,hi])
 rw[h0,hd,Nat.zero_add] at h1;obtain⟨u,hu⟩: ∃u,Dg.vl 4294967296 (l.drop (k+1))=u:=⟨_,rfl⟩;rw[hu] at h1;have e32:(4294967296:Nat)=2^t*(2*2^ (31-t)):=by
  have:(4294967296:Nat)=2^ (t+(1+(31-t))):=by rw[show t+(1+(31-t))=32 from by omega]
  rw[this,Nat.pow_add,Nat.pow_add,Nat.pow_one]
 have e1:(2:Nat)^ (32*k)=4294967296^k:=by rw[Nat.pow_mul]
 refine tz_eq (m:=m+2^ (31-t)*u) ?_;rw[h1,Nat.pow_add,e1,Nat.mul_assoc]
 congr 1
 generalize 2^ (31-t)=c at*;have e2:4294967296*u=2^t*(2*(c*u)):=by rw[e32];simp only[Nat.mul_assoc]
 rw[e2,←Nat.mul_add]
 congr 1
 omega
theorem twos_any (v:Value) (n:Nat) (w:World) (hv:Rd w .u32 v (Dg.dg 4294967296 n)) (hL:(Dg.dg 4294967296 n).length≤1000000) (hT:Tab w):
  Calls Tryz.prog 208 #[v] w fun e w'=>e= .returned (yi ((if n=0 then 0 else tz n:Nat):Int))∧w'=w:=by
 have hs:=Dg.small_dg 4294967296 n (by omega);have hvl:=Dg.vl_dg 4294967296 n (by omega);have hz:(∀j,(Dg.dg 4294967296 n).getD j 0=0)→n=0:=fun h=>by rw[←hvl];exact Dg.vl_zeros _ _ h
 obtain⟨xs,hx⟩: ∃xs,Dg.dg 4294967296 n=xs:=⟨_,rfl⟩;rw[hx] at hv hs hvl hz hL;obtain⟨ao,ca,rfl⟩:=hv.shape;obtain⟨hlc,hm,hcb⟩:=rd_open hv;have HZ:Hid (∀k,xs.length≤k→(∀j,j<k→xs.getD j 0=0)→n=0):=fun k hk h=>hz (fun j=>by
  by_cases hj:j<k
  ·exact h j hj
  ·simp[List.getD_eq_getElem?_getD,show xs.length≤j from by omega])
 have HN:Hid _:=hvl;clear hx hz hvl hv
 go_enter Tryz.func208,Tryz.ntmps208
 go_wp2
 go_loop [7] (fun iv=> ∃k:Nat,k≤xs.length∧iv=yi k∧Hid (∀j,j<k→xs.getD j 0=0)) (fun iv=>xs.length-(intOf iv).toNat)
 case atStart=>exact⟨0,Nat.zero_le _,rfl,fun j hj=>absurd hj (Nat.not_lt_zero j)⟩
 case round=>
  obtain⟨k,hk,rfl,hzk⟩:=hrel
  by_cases hlt:k<xs.length
  ·obtain⟨b,off,rfl,hcell⟩:=hcb (by omega)
   have hc:=hcell k hlt;have hl:=hs k;obtain⟨x,hx⟩: ∃x,xs.getD k 0=x:=⟨_,rfl⟩;rw[hx] at hc hl;have HX:Hid _:=hx;clear hx hcell hcb
   by_cases hx0:x=0
   ·subst hx0
    go_wp2
    go_round
    case rel=>exact⟨k+1,by omega,by go_num,fun j hj=>by
     by_cases e:j=k
     ·rw[e];exact HX.out
     ·exact hzk.out j (by omega)⟩
    case measure=>simp[intOf];omega
   ·have ht:=tz32_any x w hl hx0 hT
    have h0:((x:Int)==0)=false:=by simp;exact hx0
    go_wp2_with fail
    refine ht.mono ?_;rintro e w' ⟨t,m,rfl,hxm,htl,rfl⟩;have e1:=tz_digit xs k t m hlt hzk.out (by rw[HX.out];exact hxm) htl;rw[HN.out] at e1;have hn0:n≠0:=by
     intro e;have h2:=dig_of 4294967296 xs k (by omega) hs (by rw[HN.out];exact e);rw[HX.out] at h2;exact hx0 h2
    clear ht hxm
    go_wp2
    go_ret
    refine⟨?_,rfl⟩
    first|rfl| (rw[e1];rfl)| (simp only[e1];rfl)| (show Ending.returned (Value.int IntKind.i64 (32*(k:Int)+(t:Int)))=_;rw[e1];rfl)
  ·have hn0:=HZ.out k (by omega) hzk.out
   go_wp2
   go_ret
   subst hn0;exact⟨rfl,rfl⟩
end Go.Proofs.YtnhackdjplppjaaGreatDoor
