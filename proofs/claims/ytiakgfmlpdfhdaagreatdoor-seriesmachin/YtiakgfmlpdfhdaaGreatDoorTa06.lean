/-
  Texts laid together: Mem, Leaf, Dec, Add, Plus, Minus, Cmp, Ref2, Ref4, Laws2, Dy2, Dy4, Dr1, Cr4, LessF.
-/
import Derived.Test.YtiakgfmlpdfhdaaGreatDoorTa01
import Derived.Test.YtiakgfmlpdfhdaaGreatDoorTa02
set_option maxRecDepth 100000
set_option maxHeartbeats 3200000
namespace Go.Proofs.YtiakgfmlpdfhdaaGreatDoor
open _root_.Go.Proofs.Tryz
open Go.RowKit
theorem Own.lower {w:World}{base base' e:Nat}{k:IntKind}{v:Value}{zs:List Nat}(h:Own w base e k v zs)(hb:base'≤base):Own w base' e k v zs:=by
 obtain⟨h1,h2⟩:=h;refine⟨h1, ?_⟩
 rcases h2 with h2| ⟨g,cap,cur,hv,hbg,r⟩
 ·exact .inl h2
 ·exact .inr ⟨g,cap,cur,hv,by omega,r⟩
theorem AM (a b:Int)(w:World):yC 92 #[yi a,yi b] w fun e w'=>e= .returned (yi (dm a b))∧w'=w:=by
 unfold dm
 by_cases h1:a<b
 ·rw[if_pos h1]
  go_enter func92,ntmps92
  go_wp2
  go_ret
  exact⟨rfl,rfl⟩
 ·by_cases h2:b<a
  ·rw[if_neg h1,if_pos h2]
   go_enter func92,ntmps92
   go_wp2
   go_ret
   exact⟨rfl,rfl⟩
  ·rw[if_neg h1,if_neg h2]
   go_enter func92,ntmps92
   go_wp2
   go_ret
   exact⟨rfl,rfl⟩
theorem RF (a b:Int)(w:World):yC 93 #[.int .u32 a,.int .u32 b] w fun e w'=>e= .returned (yi (dm a b))∧w'=w:=by
 unfold dm
 by_cases h1:a<b
 ·rw[if_pos h1]
  go_enter func93,ntmps93
  go_wp2
  go_ret
  exact⟨rfl,rfl⟩
 ·by_cases h2:b<a
  ·rw[if_neg h1,if_pos h2]
   go_enter func93,ntmps93
   go_wp2
   go_ret
   exact⟨rfl,rfl⟩
  ·rw[if_neg h1,if_neg h2]
   go_enter func93,ntmps93
   go_wp2
   go_ret
   exact⟨rfl,rfl⟩
theorem Tryz.infoU8:(Tryz.prog.info? 5).map (fun i=>(i.zero,i.size,i.bytes))=some (some (.int .u8 0),1,1):=by kernel_rfl
theorem qP {B:Nat}{l:List Nat}{x:Nat}(h:Dg.Small B l)(hx:x<B):Dg.Small B (l++[x]):=by
 intro i;rw[List.getD_eq_getElem?_getD,List.getElem?_append]
 by_cases hi:i<l.length
 ·rw[if_pos hi];simpa[List.getD_eq_getElem?_getD] using h i
 ·rw[if_neg hi]
  by_cases h2:i-l.length=0
  ·simp[h2];exact hx
  ·rw[List.getElem?_eq_none (by simp;omega)];simp;omega
theorem ur (x y c:Nat)(w:World)(hx:x<4294967296)(hy:y<4294967296)(hc:c≤1):
  yC 91 #[.int .u32 x,.int .u32 y,.int .u32 c] w fun e w'=>e= .returned (.tuple #[.int .u32 ((x+y+c) % 4294967296:Nat),.int .u32 ((x+y+c)/4294967296:Nat)])∧w'=w:=by
 go_enter func91,ntmps91
 go_wp2
 go_ret2
 exact⟨by go_num,rfl⟩
theorem zA (x y c:Nat)(w:World)(hx:x<4294967296)(hy:y<4294967296)(hc:c≤1):
  yC 94 #[.int .u32 x,.int .u32 y,.int .u32 c] w fun e w'=>e= .returned (.tuple #[.int .u32 ((x+4294967296-y-c) % 4294967296:Nat),.int .u32 ((brw x y c:Nat):Int)])∧w'=w:=by
 have hb:=NE x y c hx hy hc;have hsg: ¬IntKind.u32.signed=true:=by decide
 have hd:(((x:Int)-(y:Int)) % 4294967296-(c:Int)) % 4294967296=(((x+4294967296-y-c) % 4294967296:Nat):Int):=by omega
 obtain⟨d,ed⟩: ∃d,(x+4294967296-y-c) % 4294967296=d:=⟨_,rfl⟩;rw[ed] at hd⊢;have Hd:Hid _:=hd;clear hd ed
 go_enter func94,ntmps94
 go_wp2
 go_ret2
 exact⟨by rw[←Hd.out];rfl,rfl⟩
def Qv (xs ys ps:List Nat)(k c:Nat):Prop:=
 ps.length=xs.length+1∧Dg.Small 4294967296 ps∧c≤1∧Dg.vl 4294967296 (ps.take k)+4294967296^k*c=Dg.vl 4294967296 (xs.take k)+Dg.vl 4294967296 (ys.take k)
theorem sQ (l:List Nat)(k x:Nat)(h:k<l.length):Dg.vl 4294967296 ((l.set k x).take (k+1))=Dg.vl 4294967296 (l.take k)+4294967296^k*x:=by
 rw[Dg.vl_take_succ _ _ _ (by simpa using h),Dg.getD_set _ _ _ _ h,if_pos rfl,List.take_set_of_le (Nat.le_refl _)]
theorem pO (l:List Nat)(k:Nat):Dg.vl 4294967296 (l.take (k+1))=Dg.vl 4294967296 (l.take k)+4294967296^k*l.getD k 0:=by
 by_cases h:k<l.length
 ·exact Dg.vl_take_succ _ _ _ h
 ·rw[List.take_of_length_le (by omega),List.take_of_length_le (by omega),Dg.getD_of_le _ _ (by omega)];omega
theorem zq {xs ys ps:List Nat}{k c x y:Nat}(h:Qv xs ys ps k c)(hk:k<xs.length)(hx:xs.getD k 0=x)(hy:ys.getD k 0=y)(hxl:x<4294967296)(hyl:y<4294967296):
  Qv xs ys (ps.set k ((x+y+c) % 4294967296)) (k+1) ((x+y+c)/4294967296):=by
 obtain⟨h1,h2,h3,h4⟩:=h;refine⟨by simpa using h1,Dg.small_set h2 _ _ (Nat.mod_lt _ (by omega)),by omega, ?_⟩;rw[sQ _ _ _ (by omega),pO xs,pO ys,hx,hy];have e:4294967296^ (k+1)*((x+y+c)/4294967296)=4294967296^k*(4294967296*((x+y+c)/4294967296)):=by rw[Nat.pow_succ,Nat.mul_assoc]
 have e2:4294967296^k*(x+y+c)=4294967296^k*((x+y+c) % 4294967296)+4294967296^k*(4294967296*((x+y+c)/4294967296)):=by
  rw[←Nat.mul_add,Nat.mod_add_div]
 have e3:4294967296^k*(x+y+c)=4294967296^k*x+4294967296^k*y+4294967296^k*c:=by rw[Nat.mul_add,Nat.mul_add]
 rw[e];omega
theorem Nc {xs ys ps:List Nat}{c:Nat}(h:Qv xs ys ps xs.length c)(hl:ys.length≤xs.length):(ps.set xs.length c).length=xs.length+1∧Dg.Small 4294967296 (ps.set xs.length c)∧Dg.vl 4294967296 (ps.set xs.length c)=Dg.vl 4294967296 xs+Dg.vl 4294967296 ys:=by
 obtain⟨h1,h2,h3,h4⟩:=h;refine⟨by simpa using h1,Dg.small_set h2 _ _ (by omega), ?_⟩;have:=sQ ps xs.length c (by omega);rw[List.take_of_length_le (by simp;omega)] at this;rw[this];rw[List.take_of_length_le (Nat.le_refl xs.length),List.take_of_length_le hl] at h4;omega
def Z7 (xs ys ps:List Nat)(k c:Nat):Prop:=
 ps.length=xs.length∧Dg.Small 4294967296 ps∧c≤1∧Dg.vl 4294967296 (xs.take k)+4294967296^k*c=Dg.vl 4294967296 (ps.take k)+Dg.vl 4294967296 (ys.take k)
theorem Jq {xs ys ps:List Nat}{k c x y:Nat}(h:Z7 xs ys ps k c)(hk:k<xs.length)(hx:xs.getD k 0=x)(hy:ys.getD k 0=y)(hxl:x<4294967296)(hyl:y<4294967296):
  Z7 xs ys (ps.set k ((x+4294967296-y-c) % 4294967296)) (k+1) (brw x y c):=by
 obtain⟨h1,h2,h3,h4⟩:=h;refine⟨by simpa using h1,Dg.small_set h2 _ _ (Nat.mod_lt _ (by omega)),RN _ _ _, ?_⟩;rw[sQ _ _ _ (by omega),pO xs,pO ys,hx,hy];have e:x+4294967296*brw x y c=(x+4294967296-y-c) % 4294967296+y+c:=by unfold brw;split<;>omega
 have e2:4294967296^k*(x+4294967296*brw x y c)=4294967296^k*((x+4294967296-y-c) % 4294967296+y+c):=by rw[e]
 have e3:4294967296^ (k+1)*brw x y c=4294967296^k*(4294967296*brw x y c):=by rw[Nat.pow_succ,Nat.mul_assoc]
 rw[Nat.mul_add,Nat.mul_add,Nat.mul_add] at e2;rw[e3];omega
theorem Z8 {xs ys ps:List Nat}{c:Nat}(h:Z7 xs ys ps xs.length c)(hl:ys.length≤xs.length)(hv:Dg.vl 4294967296 ys≤Dg.vl 4294967296 xs):Dg.vl 4294967296 ps=Dg.vl 4294967296 xs-Dg.vl 4294967296 ys:=by
 obtain⟨h1,h2,h3,h4⟩:=h;rw[List.take_of_length_le (Nat.le_refl xs.length),List.take_of_length_le hl,List.take_of_length_le (by omega)] at h4;have hlt:=Dg.vl_lt 4294967296 ps h2;rw[h1] at hlt;have hc:c=0:=by
  rcases Nat.eq_zero_or_pos c with e|e
  ·exact e
  ·have:c=1:=by omega
   subst this;omega
 subst hc;omega
theorem jF (va vb:Value)(xs ys:List Nat)(w:World)(ha:Rd w .u32 va xs)(hb:Rd w .u32 vb ys)(sa:Dg.Small 4294967296 xs)(sb:Dg.Small 4294967296 ys)(na:Dg.Norm xs)(nb:Dg.Norm ys):
  yC 71 #[va,vb] w (yR w (yi (dm (Dg.vl 4294967296 xs) (Dg.vl 4294967296 ys)))):=by
 obtain⟨ao,ca,rfl,hla,hma,hca⟩:=ha;obtain⟨bo,cb,rfl,hlb,hmb,hcb⟩:=hb;unfold maxLen at hma hmb;obtain⟨r,hr⟩: ∃r,dm (Dg.vl 4294967296 xs) (Dg.vl 4294967296 ys)=r:=⟨_,rfl⟩;have hc0:=AM (xs.length:Int) (ys.length:Int) w
 by_cases h1:xs.length<ys.length
 ·have hv:=Dg.vl_lt_of_len 4294967296 (by omega) xs ys sa nb h1
  rw[gX (by omega)] at hr;subst hr;rw[gX (by omega)] at hc0;rw[gX (by omega)]
  go_enter func71,ntmps71
  go_wp2_with fail
  refine hc0.mono ?_;rintro e w' ⟨rfl,rfl⟩
  go_wp2
  go_ret
  exact⟨rfl,Below.refl _ _⟩
 ·by_cases h2:ys.length<xs.length
  ·have hv:=Dg.vl_lt_of_len 4294967296 (by omega) ys xs sb na h2
   rw[sO (by omega)] at hc0;rw[sO (by omega)];clear hr
   go_enter func71,ntmps71
   go_wp2_with fail
   refine hc0.mono ?_;rintro e w' ⟨rfl,rfl⟩
   go_wp2
   go_ret
   exact⟨rfl,Below.refl _ _⟩
  ·have hle:xs.length=ys.length:=by omega
   rw[hle,Bh] at hc0;rw[hr];have HR:Hid _:=hr;have HL:Hid _:=hle;rw[hle] at hla hca⊢;clear hr hle h1 h2
   go_enter func71,ntmps71
   go_wp2_with fail
   refine hc0.mono ?_;rintro e w' ⟨rfl,rfl⟩;clear hc0
   go_wp2
   go_loopw [6] (fun iv wr=> ∃k:Nat,k≤ys.length∧iv=yi ((k:Int)-1)∧Hid (∀j,k≤j→xs.getD j 0=ys.getD j 0)∧Below w'.heap.size w' wr) (fun iv _=>(intOf iv+1).toNat)
   case atStart=>exact⟨ys.length,Nat.le_refl _,rfl,fun j hj=>by rw[Dg.getD_of_le xs j (by rw[HL.out];exact hj),Dg.getD_of_le ys j hj],Below.refl _ _⟩
   case round=>
    obtain⟨k,hk,rfl,hall,bel⟩:=hrel
    by_cases hk0:k=0
    ·subst hk0
     have he:=Dg.eq_of_all xs ys HL.out (fun j=>hall j (by omega))
     have hr0:r=0:=by rw[←HR.out,he,Bh]
     subst hr0;clear he
     go_wp2
     go_ret
     exact⟨rfl,bel⟩
    ·obtain⟨m,rfl⟩: ∃m,k=m+1:=⟨k-1,by omega⟩
     obtain⟨b,off,rfl,hcell⟩:=hca (by omega);obtain⟨b2,off2,rfl,hcell2⟩:=hcb (by omega);have hx:=cell_later bel (hcell m (by omega));have hy:=cell_later bel (hcell2 m (by omega));have hst:xs.getD m 0<ys.getD m 0→dm (Dg.vl 4294967296 xs) (Dg.vl 4294967296 ys)= -1:=fun h=>
      gX (by have:=Dg.vl_lt_of_digit 4294967296 xs ys m HL.out (by rw[HL.out];omega) hall h sa;omega)
     have hst2:ys.getD m 0<xs.getD m 0→dm (Dg.vl 4294967296 xs) (Dg.vl 4294967296 ys)=1:=fun h=>
      sO (by have:=Dg.vl_lt_of_digit 4294967296 ys xs m HL.out.symm (by omega) (fun j hj=>(hall j hj).symm) h sb;omega)
     rw[HR.out] at hst hst2;obtain⟨x,ex⟩: ∃x,xs.getD m 0=x:=⟨_,rfl⟩;obtain⟨y,ey⟩: ∃y,ys.getD m 0=y:=⟨_,rfl⟩;have HX:Hid _:=ex;have HY:Hid _:=ey;rw[ex] at hx hst hst2;rw[ey] at hy hst hst2;clear ex ey hcell hcell2 hca hcb;have hcm:=fun wx=>RF (x:Int) (y:Int) wx
     have hmI:((m+1:Nat):Int)-1=(m:Int):=by omega
     by_cases hxy:x<y
     ·have hr1:=hst hxy
      subst hr1;rw[gX (by omega)] at hcm;clear hst hst2
      go_wp2
      go_quiet ((go_at_call 93;exact Calls.quiet_of_same (hcm _)))
      go_wp2
      go_ret
      exact⟨rfl,aL bel _⟩
     ·by_cases hyx:y<x
      ·have hr1:=hst2 hyx
       subst hr1;rw[sO (by omega)] at hcm;clear hst hst2
       go_wp2
       go_quiet ((go_at_call 93;exact Calls.quiet_of_same (hcm _)))
       go_wp2
       go_ret
       exact⟨rfl,aL bel _⟩
      ·have hxe:x=y:=by omega
       subst hxe;rw[Bh] at hcm;clear hst hst2
       go_wp2
       go_quiet ((go_at_call 93;exact Calls.quiet_of_same (hcm _)))
       go_wp2
       go_roundw
       case rel=>exact⟨m,by omega,by go_num,fun j hj=>by
        by_cases e:j=m
        ·rw[e];exact HX.out.trans HY.out.symm
        ·exact hall j (by omega),aL bel _⟩
       case measure=>simp[intOf]
theorem iV (B:Nat)(l:List Nat)(k:Nat):Dg.vl B (l.take (k+1))=Dg.vl B (l.take k)+B^k*l.getD k 0:=by
 by_cases h:k<l.length
 ·exact Dg.vl_take_succ _ _ _ h
 ·rw[List.take_of_length_le (by omega),List.take_of_length_le (by omega),Dg.getD_of_le _ _ (by omega)];omega
theorem iW {w wr w3:World}{e x:Nat}{k:IntKind}{es:List Nat}{lv v':Value}(bel:yB w wr)(ownL:Own wr w.heap.size e k lv es)
  (hown':w3.ownsRow w.heap.size e 1 v' (es.length+1) ((es.map (fun n:Nat=>Value.int k (n:Int)))++[.int k x]))
  (hgrow:(wr.alloc (.cells #[.int k x] e)).grownBy w3 lv.ownBlock):
  Own w3 w.heap.size e k v' (es++[x])∧yB w w3:=by
 have b1:yB wr (wr.alloc (.cells #[.int k x] e)):=(Below.refl _ _).alloc (Nat.le_refl _) _;refine⟨?_, ?_⟩
 ·unfold Own
  simpa using hown'
 ·refine(aa bel b1).grown hgrow (Nat.le_trans bel.size b1.size) (fun k hk=> ?_)
  exact(World.ownsRow.lt ownL k hk).1
def QA (xs ys ps:List Nat)(k c:Nat):Prop:=
 ps.length=k∧Dg.Small 65536 ps∧c≤1∧Dg.vl 65536 (xs.take k)+65536^k*c=Dg.vl 65536 ps+Dg.vl 65536 (ys.take k)
theorem I1 {xs ys ps:List Nat}{k c d c':Nat}(h:QA xs ys ps k c)(hd:d<65536)(hc:c'≤1)(e:xs.getD k 0+65536*c'=d+ys.getD k 0+c):QA xs ys (ps++[d]) (k+1) c':=by
 obtain⟨h1,h2,h3,h4⟩:=h;refine⟨by simp[h1],qP h2 hd,hc, ?_⟩;rw[Dg.vl_append,iV,iV,h1];simp only[Dg.vl,Nat.mul_zero,Nat.add_zero];have e2:65536^k*(xs.getD k 0+65536*c')=65536^k*(d+ys.getD k 0+c):=by rw[e]
 have e3:65536^ (k+1)*c'=65536^k*(65536*c'):=by rw[Nat.pow_succ,Nat.mul_assoc]
 rw[Nat.mul_add,Nat.mul_add,Nat.mul_add] at e2;rw[e3];omega
theorem Nl {xs ys ps:List Nat}{c:Nat}(h:QA xs ys ps xs.length c)(hl:ys.length≤xs.length)(hv:Dg.vl 65536 ys≤Dg.vl 65536 xs):Dg.vl 65536 ps=Dg.vl 65536 xs-Dg.vl 65536 ys:=by
 obtain⟨h1,h2,h3,h4⟩:=h;rw[List.take_of_length_le (Nat.le_refl xs.length),List.take_of_length_le hl] at h4;have hlt:=Dg.vl_lt 65536 ps h2;rw[h1] at hlt;have hc:c=0:=by
  rcases Nat.eq_zero_or_pos c with e|e
  ·exact e
  ·have:c=1:=by omega
   subst this;omega
 subst hc;omega
theorem aH (B n m:Nat)(hB:2≤B)(h:n≤m):(Dg.dg B n).length≤(Dg.dg B m).length:=by
 refine Dg.dg_len_le B n _ hB ?_;have:=Dg.vl_lt B (Dg.dg B m) (Dg.small_dg B m hB);rw[Dg.vl_dg B m hB] at this;omega
def jN (w:World)(t:ak)(e:Ending)(w':World):Prop:= ∃s,e= .returned (ydV t.s s t.e)∧Own w' w.heap.size 49 .u32 s (Dg.dg 4294967296 t.n)∧yB w w'
theorem Own.apart {w w':World}{base e b:Nat}{k:IntKind}{v:Value}{zs:List Nat}(h:Own w base e k v zs)(hg:w.grownBy w' (some b))(hb:b<base):Own w' base e k v zs:=by
 obtain⟨hl,h2⟩:=h;refine⟨hl, ?_⟩
 rcases h2 with h2| ⟨g',cap',cur,hv,hbg,hh,r⟩
 ·exact .inl h2
 ·refine .inr ⟨g',cap',cur,hv,hbg, ?_,r⟩
  have hlt:g'<w.heap.size:=by
   rw[Array.getElem?_eq_some_iff] at hh;exact hh.1
  rw[hg.block g' hlt (by intro e;cases e;omega)]
  exact hh
theorem Own.apart3 {w:World}{base e b:Nat}{k:IntKind}{v:Value}{zs:List Nat}(h:Own w base e k v zs)(hb:b<base)(x0 x1 x2:Value):
  Own (((w.setCell ⟨b,0,none⟩ x0).setCell ⟨b,1,none⟩ x1).setCell ⟨b,2,none⟩ x2) base e k v zs:=
 ((h.apart (bI w b 0 x0) hb).apart (bI _ b 1 x1) hb).apart (bI _ b 2 x2) hb
theorem cN (b:Bool)(ao:Option Addr)(n ca:Nat)(e:Int)(w:World):yC 67 #[ydV b (.slice ao n ca) e] w (yR w (.slice ao n ca)):=by
 have b1:yB w (w.alloc (.cells (ydA b (.slice ao n ca) e) 54)):=(Below.refl _ _).alloc (Nat.le_refl _) _
 go_enter func67,ntmps67
 go_wp2
 go_ret
 exact⟨rfl,b1⟩
theorem l9 (b:Bool)(ao:Option Addr)(n ca:Nat)(e:Int)(w:World):yC 66 (ydA b (.slice ao n ca) e) w (yR w (ydV b (.slice ao n ca) e)):=by
 go_enter func66,ntmps66
 go_wp2
 go_returns
 exact⟨rfl,(Below.refl _ _).alloc (Nat.le_refl _) _⟩
theorem CF (n k L j:Nat)(h:(Dg.dg 4294967296 n).length≤L)(hk:k≤32*j):(Dg.dg 4294967296 (n*2^k)).length≤L+j:=by
 apply Dg.dg_len_le 4294967296 _ _ (by omega);have h1:=Dg.vl_lt 4294967296 (Dg.dg 4294967296 n) (Dg.small_dg _ _ (by omega));rw[Dg.vl_dg _ _ (by omega)] at h1;have h2:4294967296^ (Dg.dg 4294967296 n).length≤4294967296^L:=Nat.pow_le_pow_right (by omega) h;have h3:2^k≤4294967296^j:=by
  rw[show(4294967296:Nat)=2^32 from rfl,←Nat.pow_mul]
  exact Nat.pow_le_pow_right (by omega) (by omega)
 rw[Nat.pow_add];have h4:0<4294967296^j:=Nat.pow_pos (by omega);generalize 4294967296^j=c at*;generalize 4294967296^L=d at*;have h5:n*2^k≤n*c:=Nat.mul_le_mul_left _ h3;have h6:n*c<d*c:=Nat.mul_lt_mul_of_pos_right (by omega) h4;omega
def di (w:World)(t:ak)(e:Ending)(w':World):Prop:= ∃s,e= .returned (ydV t.s s t.e)∧Rd w' .i64 s (Dg.dg 65536 t.n)∧Far w.heap.size s∧yB w w'
def Xi (B:Nat)(w:World)(t:ak)(z:Ending)(w':World):Prop:=
 ∃s,z= .returned (ydV t.s s t.e)∧Rd w' .i64 s (Dg.dg 65536 t.n)∧yB w w'∧Hid (Far B s)
theorem Lt (va vb:Value)(xs ys:List Nat)(w:World)(ha:Rd w .i64 va xs)(hb:Rd w .i64 vb ys)(sa:Dg.Small 65536 xs)(sb:Dg.Small 65536 ys)(hla:xs.length≤2000000)(hlb:ys.length≤xs.length)(hv:Dg.vl 65536 ys≤Dg.vl 65536 xs):
  yC 51 #[va,vb] w (Si w (Dg.vl 65536 xs-Dg.vl 65536 ys)):=by
 obtain⟨ao,ca,rfl,-,-,hca⟩:=ha;obtain⟨bo,cb,rfl,-,-,hcb⟩:=hb;obtain⟨i0,hi,hz0,hz1,hz2⟩:=info_parts Tryz.infoI64;have HV:Hid (Dg.vl 65536 ys≤Dg.vl 65536 xs):=hv;clear hv
 go_enter func51,ntmps51
 go_wp2
 go_loopw [5,6,7] (fun ov cv iv wr=> ∃(k c:Nat) (ps:List Nat),k≤xs.length∧iv=yi k∧cv=yi c∧Own wr w.heap.size 3 .i64 ov ps∧QA xs ys ps k c∧yB w wr) (fun _ _ iv _=>xs.length-(intOf iv).toNat)
 case atStart=>exact⟨0,0,[],by omega,rfl,rfl,aQ _ _ _ _,⟨rfl,Dg.small_nil _ (by omega),by omega,by simp[Dg.vl]⟩,Below.refl _ _⟩
 case round=>
  obtain⟨k,c,ps,hk,rfl,rfl,own,hI,bel⟩:=hrel;have hcl:=hI.2.2.1;have hpl:=hI.1;have hbs:=bel.size
  by_cases hlt:k<xs.length
  ·obtain⟨b,off,rfl,hcella⟩:=hca (by omega)
   have hcell:=cell_later bel (hcella k hlt);have hxl:=sa k;have hyl:=sb k;have hy0: ¬k<ys.length→ys.getD k 0=0:=fun h=>Dg.getD_of_le _ _ (by omega)
   have hst: ∀d c',d<65536→c'≤1→xs.getD k 0+65536*c'=d+ys.getD k 0+c→QA xs ys (ps++[d]) (k+1) c':=fun d c' h1 h2 h3=>I1 hI h1 h2 h3
   have hcy:k<ys.length→ ∃b off,bo=some ⟨b,off,none⟩∧wr.cell? ⟨b,off+k,none⟩=some (yi ((ys.getD k 0:Nat):Int)):=fun h=>by
    obtain⟨b,off,e,hcell⟩:=hcb (by omega);exact⟨b,off,e,cell_later bel (hcell k h)⟩
   obtain⟨x,ex⟩: ∃x,xs.getD k 0=x:=⟨_,rfl⟩;obtain⟨y,ey⟩: ∃y,ys.getD k 0=y:=⟨_,rfl⟩;rw[ex] at hxl hst hcell;rw[ey] at hyl hy0 hst hcy;have Hst:Hid _:=hst;have Hpl:Hid (ps.length=k):=hpl;have hpl2:ps.length≤2000000:=by omega
   clear ex ey hca hcb hI hst hpl hcella;have fin: ∀(T:Int) (d:Nat),T=((d:Nat):Int)→ ∀v' w3,w3.ownsRow w.heap.size 3 1 v' (ps.length+1) ((ps.map (fun n:Nat=>Value.int .i64 (n:Int)))++[yi T])→(wr.alloc (.cells #[yi T] 3)).grownBy w3 (Value.ownBlock u5)→
     Own w3 w.heap.size 3 .i64 v' (ps++[d])∧yB w w3:=by
    intro T d hT v' w3 h1 h2;rw[hT] at h1 h2;exact iW bel own h1 h2
   by_cases h2:k<ys.length
   ·obtain⟨b2,off2,rfl,hcell2⟩:=hcy h2
    clear hcy hy0
    by_cases hneg:x<y+c
    ·have hneg2:((x:Int)-(c:Int)-(y:Int))<0:=by omega
     go_wp2_with (at_builtin;refine wpList_append_own _ rfl _ _ 33 rfl w.heap.size 3 i0 (yi 0) 1 8 underlying33 hi hz0 hz1 hz2 rfl (by decide) _ _ _ rfl (World.ownsRow.alloc own _) ⟨wr.heap.size,0,none⟩ 1 1 [yi ((x:Int)-(c:Int)-(y:Int)+65536)] rfl rfl ?c1 ?c2 ?c3 ?c4 ?c5 ?_)
     try (case c1=>exact cell_one_new _ _ _)
     case c2=>first|rfl| (intro u hu;simp at hu;subst hu;rfl)| (simp;done)| (simp[Value.oneCell'];done)| (trace_state;fail)
     case c3=>unfold maxLen;omega
     case c4=>omega
     case c5=>first|omega| (simp;omega)
     intro v' w3 hown' hgrow _;have R:=fin _ (x+65536-y-c) (by omega) v' w3 hown' hgrow;clear hown' hgrow own fin
     go_wp2
     go_roundw
     case rel=>exact⟨k+1,1,_,by omega,by go_num,by go_num,R.1,Hst.out _ _ (by omega) (by omega) (by omega),R.2⟩
     case measure=>simp[intOf];omega
    ·have hneg2: ¬((x:Int)-(c:Int)-(y:Int))<0:=by omega
     go_wp2_with (at_builtin;refine wpList_append_own _ rfl _ _ 33 rfl w.heap.size 3 i0 (yi 0) 1 8 underlying33 hi hz0 hz1 hz2 rfl (by decide) _ _ _ rfl (World.ownsRow.alloc own _) ⟨wr.heap.size,0,none⟩ 1 1 [yi ((x:Int)-(c:Int)-(y:Int))] rfl rfl ?d1 ?d2 ?d3 ?d4 ?d5 ?_)
     try (case d1=>exact cell_one_new _ _ _)
     case d2=>first|rfl| (intro u hu;simp at hu;subst hu;rfl)| (simp;done)| (simp[Value.oneCell'];done)| (trace_state;fail)
     case d3=>unfold maxLen;omega
     case d4=>omega
     case d5=>first|omega| (simp;omega)
     intro v' w3 hown' hgrow _;have R:=fin _ (x-y-c) (by omega) v' w3 hown' hgrow;clear hown' hgrow own fin
     go_wp2
     go_roundw
     case rel=>exact⟨k+1,0,_,by omega,by go_num,by go_num,R.1,Hst.out _ _ (by omega) (by omega) (by omega),R.2⟩
     case measure=>simp[intOf];omega
   ·have hy:=hy0 h2
    subst hy;clear hcy hy0
    by_cases hneg:x<c
    ·have hneg2:((x:Int)-(c:Int))<0:=by omega
     go_wp2_with (at_builtin;refine wpList_append_own _ rfl _ _ 33 rfl w.heap.size 3 i0 (yi 0) 1 8 underlying33 hi hz0 hz1 hz2 rfl (by decide) _ _ _ rfl (World.ownsRow.alloc own _) ⟨wr.heap.size,0,none⟩ 1 1 [yi ((x:Int)-(c:Int)+65536)] rfl rfl ?e1 ?e2 ?e3 ?e4 ?e5 ?_)
     try (case e1=>exact cell_one_new _ _ _)
     case e2=>first|rfl| (intro u hu;simp at hu;subst hu;rfl)| (simp;done)| (simp[Value.oneCell'];done)| (trace_state;fail)
     case e3=>unfold maxLen;omega
     case e4=>omega
     case e5=>first|omega| (simp;omega)
     intro v' w3 hown' hgrow _;have R:=fin _ (x+65536-c) (by omega) v' w3 hown' hgrow;clear hown' hgrow own fin
     go_wp2
     go_roundw
     case rel=>exact⟨k+1,1,_,by omega,by go_num,by go_num,R.1,Hst.out _ _ (by omega) (by omega) (by omega),R.2⟩
     case measure=>simp[intOf];omega
    ·have hneg2: ¬((x:Int)-(c:Int))<0:=by omega
     go_wp2_with (at_builtin;refine wpList_append_own _ rfl _ _ 33 rfl w.heap.size 3 i0 (yi 0) 1 8 underlying33 hi hz0 hz1 hz2 rfl (by decide) _ _ _ rfl (World.ownsRow.alloc own _) ⟨wr.heap.size,0,none⟩ 1 1 [yi ((x:Int)-(c:Int))] rfl rfl ?f1 ?f2 ?f3 ?f4 ?f5 ?_)
     try (case f1=>exact cell_one_new _ _ _)
     case f2=>first|rfl| (intro u hu;simp at hu;subst hu;rfl)| (simp;done)| (simp[Value.oneCell'];done)| (trace_state;fail)
     case f3=>unfold maxLen;omega
     case f4=>omega
     case f5=>first|omega| (simp;omega)
     intro v' w3 hown' hgrow _;have R:=fin _ (x-c) (by omega) v' w3 hown' hgrow;clear hown' hgrow own fin
     go_wp2
     go_roundw
     case rel=>exact⟨k+1,0,_,by omega,by go_num,by go_num,R.1,Hst.out _ _ (by omega) (by omega) (by omega),R.2⟩
     case measure=>simp[intOf];omega
  ·have hke:k=xs.length:=by omega
   subst hke;have hen:=Nl hI hlb HV.out;have hps:=hI.2.1;have hpl2:ps.length≤2000000:=by omega
   clear hpl;obtain⟨oo,oc,rfl⟩:=own.rd.shape
   go_wp2_with fail
   refine(i9 _ _ _ _ _ own.rd).mono ?_;rintro e w' ⟨n,rfl,hn,rfl⟩;have hnl:=hn.1;have hr:=uE (cap':=n) 65536 (by omega) own.rd hps hn (Nat.le_refl _) (by unfold maxLen;omega);rw[hen] at hr;clear hn hen
   go_wp2
   go_ret
   exact⟨_,rfl,hr,LP (JH own) n n,bel⟩
end Go.Proofs.YtiakgfmlpdfhdaaGreatDoor
