/-
  Texts laid together: Leaf, Ref2, Ref3, Bits, Ref5, Dy1, Dy2, Dr1, Dy6, Dy8, Dy9, Dk1, Dl8, Bl6, Back, Long, Into1.
-/
import Derived.Test.YtiakgfmlpdfhdaaDoorSv03
import Derived.Test.YtiakgfmlpdfhdaaDoorSv05
import Derived.Test.YtiakgfmlpdfhdaaDoorSv07
set_option maxRecDepth 100000
set_option maxHeartbeats 4000000
namespace Go.Proofs.YtiakgfmlpdfhdaaDoor
open Go.RowKit
theorem fP (v:Value)(zs:List Nat)(w:World)(h:Rd w .u32 v zs):
  yC 86 #[v] w fun e w'=>e= .returned (yi (chk zs))∧w'=w:=by
 obtain⟨ao,cap,rfl,hlc,hm,hc⟩:=h;unfold maxLen at hm
 by_cases h0:zs.length=0
 ·have hz:zs=[]:=List.eq_nil_of_length_eq_zero h0
  subst hz
  go_enter Tryd.func86,Tryd.ntmps86
  go_wp2
  go_ret
  exact⟨rfl,rfl⟩
 ·obtain⟨b,off,rfl,hcell⟩:=hc (by omega)
  have h1:=hcell (zs.length-1) (by omega)
  by_cases hz:zs.getD (zs.length-1) 0=0
  ·have e1:chk zs=1:=Oq (by omega) hz
   rw[e1];rw[hz] at h1;clear hcell hc e1 hz
   go_enter Tryd.func86,Tryd.ntmps86
   go_wp2
   go_ret
   exact⟨rfl,rfl⟩
  ·obtain⟨d,hd⟩: ∃d,zs.getD (zs.length-1) 0=d:=⟨_,rfl⟩
   by_cases hg:1200<zs.length
   ·rw[Ot hz hg]
    rw[hd] at h1 hz;clear hcell hc hd
    go_enter Tryd.func86,Tryd.ntmps86
    go_wp2
    go_ret
    exact⟨rfl,rfl⟩
   ·rw[ZT hz hg]
    rw[hd] at h1 hz;clear hcell hc hd
    go_enter Tryd.func86,Tryd.ntmps86
    go_wp2
    go_ret
    exact⟨rfl,rfl⟩
theorem iW {w wr w3:World}{e x:Nat}{k:IntKind}{es:List Nat}{lv v':Value}(bel:yB w wr)(ownL:Own wr w.heap.size e k lv es)
  (hown':w3.ownsRow w.heap.size e 1 v' (es.length+1) ((es.map (fun n:Nat=>Value.int k (n:Int)))++[.int k x]))
  (hgrow:(wr.alloc (.cells #[.int k x] e)).grownBy w3 lv.ownBlock):
  Own w3 w.heap.size e k v' (es++[x])∧yB w w3:=by
 have b1:yB wr (wr.alloc (.cells #[.int k x] e)):=(Below.refl _ _).alloc (Nat.le_refl _) _;refine⟨?_, ?_⟩
 ·unfold Own
  simpa using hown'
 ·refine(aa bel b1).grown hgrow (Nat.le_trans bel.size b1.size) (fun k hk=> ?_)
  exact(World.ownsRow.lt ownL k hk).1
theorem fm (va vb:Value)(xs ys:List Nat)(w:World)(ha:Rd w .i64 va xs)(hb:Rd w .i64 vb ys)(sa:Dg.Small 65536 xs)(sb:Dg.Small 65536 ys)(na:Dg.Norm xs)(nb:Dg.Norm ys):
  yC 52 #[va,vb] w (yR w (yi (dm (Dg.vl 65536 xs) (Dg.vl 65536 ys)))):=by
 obtain⟨ao,ca,rfl,hla,hma,hca⟩:=ha;obtain⟨bo,cb,rfl,hlb,hmb,hcb⟩:=hb;unfold maxLen at hma hmb
 by_cases h1:xs.length<ys.length
 ·have hv:=Dg.vl_lt_of_len 65536 (by omega) xs ys sa nb h1
  rw[gX (by omega)];have hne:((xs.length:Int) != (ys.length:Int))=true:=by rw[bne_iff_ne];omega
  go_enter Tryd.func52,Tryd.ntmps52
  go_wp2
  go_ret
  exact⟨rfl,Below.refl _ _⟩
 ·by_cases h2:ys.length<xs.length
  ·have hv:=Dg.vl_lt_of_len 65536 (by omega) ys xs sb na h2
   rw[sO (by omega)];have hne:((xs.length:Int) != (ys.length:Int))=true:=by rw[bne_iff_ne];omega
   go_enter Tryd.func52,Tryd.ntmps52
   go_wp2
   go_ret
   exact⟨rfl,Below.refl _ _⟩
  ·have hle:xs.length=ys.length:=by omega
   obtain⟨r,hr⟩: ∃r,dm (Dg.vl 65536 xs) (Dg.vl 65536 ys)=r:=⟨_,rfl⟩;rw[hr];have HR:Hid _:=hr;have HL:Hid _:=hle;rw[hle] at hla hca⊢;clear hr hle h1 h2
   go_enter Tryd.func52,Tryd.ntmps52
   go_wp2
   go_loopw [5] (fun iv wr=> ∃k:Nat,k≤ys.length∧iv=yi ((k:Int)-1)∧Hid (∀j,k≤j→xs.getD j 0=ys.getD j 0)∧yB w wr) (fun iv _=>(intOf iv+1).toNat)
   case atStart=>exact⟨ys.length,Nat.le_refl _,rfl,fun j hj=>by rw[Dg.getD_of_le xs j (by rw[HL.out];exact hj),Dg.getD_of_le ys j hj],Below.refl _ _⟩
   case round=>
    obtain⟨k,hk,rfl,hall,bel⟩:=hrel
    by_cases hk0:k=0
    ·subst hk0
     have he:=Dg.eq_of_all xs ys HL.out (fun j=>hall j (by omega))
     have hr0:r=0:=by rw[←HR.out,he,Bh]
     subst hr0;clear he
     go_wp2
     go_ret
     exact⟨rfl,bel⟩
    ·obtain⟨m,rfl⟩: ∃m,k=m+1:=⟨k-1,by omega⟩
     obtain⟨b,off,rfl,hcell⟩:=hca (by omega);obtain⟨b2,off2,rfl,hcell2⟩:=hcb (by omega);have hx:=cell_later bel (hcell m (by omega));have hy:=cell_later bel (hcell2 m (by omega));have hst:xs.getD m 0<ys.getD m 0→dm (Dg.vl 65536 xs) (Dg.vl 65536 ys)= -1:=fun h=>
      gX (by have:=Dg.vl_lt_of_digit 65536 xs ys m HL.out (by rw[HL.out];omega) hall h sa;omega)
     have hst2:ys.getD m 0<xs.getD m 0→dm (Dg.vl 65536 xs) (Dg.vl 65536 ys)=1:=fun h=>
      sO (by have:=Dg.vl_lt_of_digit 65536 ys xs m HL.out.symm (by omega) (fun j hj=>(hall j hj).symm) h sb;omega)
     rw[HR.out] at hst hst2;obtain⟨x,ex⟩: ∃x,xs.getD m 0=x:=⟨_,rfl⟩;obtain⟨y,ey⟩: ∃y,ys.getD m 0=y:=⟨_,rfl⟩;have HX:Hid _:=ex;have HY:Hid _:=ey;rw[ex] at hx hst hst2;rw[ey] at hy hst hst2;clear ex ey hcell hcell2 hca hcb;have hmI:((m+1:Nat):Int)-1=(m:Int):=by omega
     rw[hmI];clear hmI
     by_cases hxy:x<y
     ·have hr1:=hst hxy
      subst hr1;clear hst hst2
      go_wp2
      go_quiet (fail)
      go_wp2
      go_ret
      exact⟨rfl,aL bel _⟩
     ·by_cases hyx:y<x
      ·have hr1:=hst2 hyx
       subst hr1;clear hst hst2
       go_wp2
       go_quiet (fail)
       go_wp2
       go_quiet (fail)
       go_wp2
       go_ret
       exact⟨rfl,aL (aL bel _) _⟩
      ·have hxe:x=y:=by omega
       subst hxe;clear hst hst2
       go_wp2
       go_quiet (fail)
       go_wp2
       go_quiet (fail)
       go_wp2
       go_roundw
       case rel=>exact⟨m,by omega,by go_num,fun j hj=>by
        by_cases e:j=m
        ·rw[e];exact HX.out.trans HY.out.symm
        ·exact hall j (by omega),aL bel _⟩
       case measure=>simp[intOf]
theorem Un (x:Int)(w:World)(h0:0≤x)(h1:x≤4294967295):
  yC 98 #[.int .u32 x] w fun e w'=>e= .returned (yi (bitLen x.toNat:Nat))∧w'=w:=by
 go_enter Tryd.func98,Tryd.ntmps98
 go_wp2
 all_goals try (exfalso;have hz:=Lib.len8tab_size;omega)
 all_goals (go_ret;refine⟨congrArg Ending.returned (congrArg (Value.int IntKind.i64) ?_),rfl⟩)
 all_goals simp only[X4]
 ·exact qz 24 _ x.toNat (by have:=bitLen_shift x.toNat 24 (by omega);rw[this];congr 2;omega) (by omega)
 ·exact qz 16 _ x.toNat (by have:=bitLen_shift x.toNat 16 (by omega);rw[this];congr 2;omega) (by omega)
 ·exact qz 8 _ x.toNat (by have:=bitLen_shift x.toNat 8 (by omega);rw[this];congr 2;omega) (by omega)
 ·have hb:=bitLen_le8 x.toNat (by omega)
  have e1:=IntWalk.wrap64_in ((bitLen x.toNat:Nat):Int) ⟨by omega,by omega⟩;rw[e1,e1]
theorem IK (x:Nat)(w:World)(h:x<4294967296):
  yC 98 #[.int .u32 x] w fun e w'=>e= .returned (yi (bitLen x:Nat))∧w'=w:=by
 have:=Un x w (by omega) (by omega);rw[Int.toNat_natCast] at this;exact this
theorem xh {w:World}{base e:Nat}{g n cap m:Nat}{zs:List Nat}(h:Own w base e .i64 (.slice (some ⟨g,0,none⟩) n cap) zs)(hs:Dg.Small 65536 zs)(ht:Ou zs m)(hl:zs.length≤3000000):Rd w .i64 (.slice (some ⟨g,0,none⟩) m m) (Dg.dg 65536 (Dg.vl 65536 zs)):=
 uE 65536 (by omega) h.rd hs ht (Nat.le_refl _) (by have:=ht.1;unfold maxLen;omega)
theorem Vp (x k idx:Nat)(w:World)(hx0:((x:Int)==0)=false)
  (key:bits BinOp.and IntKind.u32 x (-(x:Int) % 4294967296)*125613361 % 4294967296/134217728=(idx:Int))
  (hi:idx<32) (hk:k<32) (hcell:w.cell? ⟨0,idx,none⟩=some (.int .u8 k)):
  yC 99 #[.int .u32 x] w fun e w'=>e= .returned (yi k)∧w'=w:=by
 go_enter Tryd.func99,Tryd.ntmps99
 go_wp2_with (simp only[key])
 go_ret
 exact⟨rfl,rfl⟩
theorem Zw (x:Nat)(w:World)(hx:x<4294967296)(hx0:x≠0)(hT:Tab w):
  yC 99 #[.int .u32 x] w fun e w'=> ∃k m:Nat,e= .returned (yi k)∧x=2^k*(2*m+1)∧k<32∧w'=w:=by
 obtain⟨hlow,hk⟩:=Lib.lowest_bit 32 x hx0 hx;obtain⟨hi,htab⟩:=Lib.deBruijn32_at _ hk;obtain⟨m,hm,_⟩:=Lib.ctzFrom_spec 32 x (by omega) hx;have e0:Lib.ctz 32 x=Lib.ctzFrom 32 x:=by simp[Lib.ctz,hx0]
 have hcell:=hT _ hi;rw[htab] at hcell;refine(Vp x _ _ w (by simp;omega) (tz32_key x _ hx hx0 hlow) hi hk hcell).mono ?_;rintro e w' ⟨rfl,rfl⟩;exact⟨_,m,rfl,by rw[e0];exact hm,hk,rfl⟩
def jN (w:World)(t:ak)(e:Ending)(w':World):Prop:= ∃s,e= .returned (ydV t.s s t.e)∧Own w' w.heap.size 87 .u32 s (Dg.dg 4294967296 t.n)∧yB w w'
theorem aN (w:World)(k:IntKind):Rd w k yN []:=(aQ w 0 0 k).rd
theorem l9 (b:Bool)(ao:Option Addr)(n ca:Nat)(e:Int)(w:World):yC 77 (ydA b (.slice ao n ca) e) w (yR w (ydV b (.slice ao n ca) e)):=by
 go_enter Tryd.func77,Tryd.ntmps77
 go_wp2
 go_returns
 exact⟨rfl,(Below.refl _ _).alloc (Nat.le_refl _) _⟩
def dr (w:World)(t:ak)(e:Ending)(w':World):Prop:= ∃s,e= .returned (ydV t.s s t.e)∧Rd w' .i64 s (Dg.dg 65536 t.n)∧yB w w'
theorem dI (w:World)(ty:TypeId):ZB (w.alloc (.cells (ydA false yN 0) ty)) w.heap.size:=
 ⟨by simp[World.size_alloc],ty,heap_alloc_new _ _⟩
theorem gu {w:World}{b:Nat}{v:Value}{zs:List Nat}(hr:Rd w .u32 v zs)(h:ZB w b)(_hn:Dg.Norm zs)(x0 x1 x2:Value):
  Rd (((w.setCell ⟨b,0,none⟩ x0).setCell ⟨b,1,none⟩ x1).setCell ⟨b,2,none⟩ x2) .u32 v zs:=by
 obtain⟨hl,ty,hh⟩:=h;obtain⟨ao,cap,rfl,h1,h2,h3⟩:=hr;refine⟨ao,cap,rfl,h1,h2,fun hp=> ?_⟩
 obtain⟨c,off,rfl,hc⟩:=h3 hp;refine⟨c,off,rfl,fun i hi=> ?_⟩
 have hne:c≠b:=by
  intro e;subst e;have k1:=hc (zs.length-1) (by omega);unfold World.cell? at k1;simp only[hh] at k1;obtain⟨o,ho⟩: ∃o,off+(zs.length-1)=o:=⟨_,rfl⟩;rw[ho] at k1
  match o,k1 with
  |0,k1=>simp at k1
  |1,k1=>simp at k1
  |2,k1=>simp at k1
  |o+3,k1=>simp at k1
 rw[World.cell?_setCell_other (h:=by simp),World.cell?_setCell_other (h:=by simp),World.cell?_setCell_other (h:=by simp)];exact hc i hi
theorem ju (w:World)(a0 a1 a2 b0 b1 b2 c0 c1 c2:Value)(ta tb tc:TypeId):
  Loc (((w.alloc (.cells #[a0,a1,a2] ta)).alloc (.cells #[b0,b1,b2] tb)).alloc (.cells #[c0,c1,c2] tc)) w.heap.size a0 a1 a2∧
  Loc (((w.alloc (.cells #[a0,a1,a2] ta)).alloc (.cells #[b0,b1,b2] tb)).alloc (.cells #[c0,c1,c2] tc)) (w.heap.size+1) b0 b1 b2∧
  Loc (((w.alloc (.cells #[a0,a1,a2] ta)).alloc (.cells #[b0,b1,b2] tb)).alloc (.cells #[c0,c1,c2] tc)) (w.heap.size+1+1) c0 c1 c2∧
  yB w (((w.alloc (.cells #[a0,a1,a2] ta)).alloc (.cells #[b0,b1,b2] tb)).alloc (.cells #[c0,c1,c2] tc))∧
  (((w.alloc (.cells #[a0,a1,a2] ta)).alloc (.cells #[b0,b1,b2] tb)).alloc (.cells #[c0,c1,c2] tc)).heap.size=w.heap.size+1+1+1:=by
 have la:=aA w a0 a1 a2 ta;have lb:=aA (w.alloc (.cells #[a0,a1,a2] ta)) b0 b1 b2 tb;have lc:=aA ((w.alloc (.cells #[a0,a1,a2] ta)).alloc (.cells #[b0,b1,b2] tb)) c0 c1 c2 tc;have bB:=af (w.alloc (.cells #[a0,a1,a2] ta)) (.cells #[b0,b1,b2] tb);have bC:=af ((w.alloc (.cells #[a0,a1,a2] ta)).alloc (.cells #[b0,b1,b2] tb)) (.cells #[c0,c1,c2] tc);refine⟨(la.l bB).l bC, ?_, ?_,aa (aa (af w _) bB) bC,by simp[World.size_alloc]⟩
 ·have:=lb.l bC
  rwa [World.size_alloc] at this
 ·rwa [World.size_alloc,World.size_alloc] at lc
theorem gl (s:Bool)(ao:Option Addr)(ca:Nat)(xs:List Nat)(e:Int)(w:World)(hr:Rd w .u32 (.slice ao xs.length ca) xs):
  yC 67 #[ydV s (.slice ao xs.length ca) e] w (yR w (yi (aS xs e))):=by
 have bA:=af w (.cells (ydA s (.slice ao xs.length ca) e) 25);have hk:=fP _ xs _ (hr.l bA);unfold aS;obtain⟨c,hc⟩: ∃c,chk xs=c:=⟨_,rfl⟩;rw[hc] at hk⊢;clear hc hr
 by_cases h:c=0
 ·subst h
  rw[if_pos rfl]
  by_cases h1:e< -20000
  ·rw[if_pos (Or.inl h1)]
   go_enter Tryd.func67,Tryd.ntmps67
   go_wp2_with fail
   refine hk.mono ?_;rintro z w' ⟨rfl,rfl⟩;clear hk
   go_wp2
   go_ret
   exact⟨rfl,bA⟩
  ·by_cases h2:20000<e
   ·rw[if_pos (Or.inr h2)]
    go_enter Tryd.func67,Tryd.ntmps67
    go_wp2_with fail
    refine hk.mono ?_;rintro z w' ⟨rfl,rfl⟩;clear hk
    go_wp2
    go_ret
    exact⟨rfl,bA⟩
   ·rw[if_neg (by omega)]
    go_enter Tryd.func67,Tryd.ntmps67
    go_wp2_with fail
    refine hk.mono ?_;rintro z w' ⟨rfl,rfl⟩;clear hk
    go_wp2
    go_ret
    exact⟨rfl,bA⟩
 ·rw[if_neg h]
  have h0:(c==0)=false:=by simp[h]
  go_enter Tryd.func67,Tryd.ntmps67
  go_wp2_with fail
  refine hk.mono ?_;rintro z w' ⟨rfl,rfl⟩;clear hk
  go_wp2
  go_ret
  exact⟨rfl,bA⟩
theorem YA (s:Bool)(ao:Option Addr)(la ca:Nat)(e:Int)(w:World):
  yC 85 #[ydV s (.slice ao la ca) e] w (yR w (ydV (!s) (.slice ao la ca) e)):=by
 go_enter Tryd.func85,Tryd.ntmps85
 go_wp2
 go_returns
 exact⟨rfl,((Below.refl _ _).alloc (Nat.le_refl _) _).alloc (by simp[World.size_alloc]) _⟩
def Lx (w:World)(t:ak)(e:Ending)(w':World):Prop:= ∃s,e= .returned (ydV t.s s t.e)∧Rd w' .u32 s (Dg.dg 4294967296 t.n)∧yB w w'
theorem ja (s0:Value)(t:ak)(w:World)(hr:Rd w .i64 s0 (Dg.dg 65536 t.n)):yC 28 #[ydV t.s s0 t.e] w (yR w (.agg #[.bool (dB t).s,s0,yi (dB t).e])):=by
 obtain⟨ao,ca,rfl⟩:=hr.shape;obtain⟨ts,n,e⟩:=t;have hnl:=Dg.dg_nil_iff 65536 n (by omega);simp only at hr⊢;unfold dB;simp only;have hz:(0< (Dg.dg 65536 n).length)↔0<n:=by
  rw[List.length_pos_iff,Ne,hnl];omega
 obtain⟨m,hm⟩: ∃m,(Dg.dg 65536 n).length=m:=⟨_,rfl⟩;rw[hm] at hz hr⊢;clear hr
 by_cases h:0<n
 ·have h6:=hz.2 h
  rw[decide_eq_true h,Bool.and_true];clear hz h hm hnl
  cases ts
  ·go_enter Tryd.func28,Tryd.ntmps28
   go_wp2
   go_returns
   exact⟨rfl,aa (af w _) (af _ _)⟩
  ·go_enter Tryd.func28,Tryd.ntmps28
   go_wp2
   go_returns
   exact⟨rfl,aa (af w _) (af _ _)⟩
 ·have h6: ¬0<m:=fun e=>h (hz.1 e)
  rw[decide_eq_false h,Bool.and_false];clear hz h hm hnl
  cases ts
  ·go_enter Tryd.func28,Tryd.ntmps28
   go_wp2
   go_returns
   exact⟨rfl,aa (af w _) (af _ _)⟩
  ·go_enter Tryd.func28,Tryd.ntmps28
   go_wp2
   go_returns
   exact⟨rfl,aa (af w _) (af _ _)⟩
def ZB6 (w:World)(b:Nat):Prop:=b<w.heap.size∧ ∃ty,w.heap[b]? =some (.cells #[.bool false,yN,yi 0,.bool false,yN,yi 0] ty (0,0))
theorem pM (w:World)(ty:TypeId):ZB6 (w.alloc (.cells #[.bool false,yN,yi 0,.bool false,yN,yi 0] ty)) w.heap.size:=
 ⟨by simp[World.size_alloc],ty,heap_alloc_new _ _⟩
theorem ZB6.rd {w:World}{b:Nat}{v:Value}{zs:List Nat}(h:ZB6 w b)(hr:Rd w .i64 v zs)(hn:Dg.Norm zs)(x0 x1 x2 x3 x4 x5:Value):
  Rd ((((((w.setCell ⟨b,0,none⟩ x0).setCell ⟨b,1,none⟩ x1).setCell ⟨b,2,none⟩ x2).setCell ⟨b,3,none⟩ x3).setCell ⟨b,4,none⟩ x4).setCell ⟨b,5,none⟩ x5) .i64 v zs:=by
 obtain⟨hl,ty,hh⟩:=h;obtain⟨ao,cap,rfl,h1,h2,h3⟩:=hr;refine⟨ao,cap,rfl,h1,h2,fun hp=> ?_⟩
 obtain⟨c,off,rfl,hc⟩:=h3 hp;refine⟨c,off,rfl,fun i hi=> ?_⟩
 have hne:c≠b:=by
  intro e;subst e;have k1:=hc (zs.length-1) (by omega);have hz:=hn (List.length_pos_iff.1 hp);unfold World.cell? at k1;simp only[hh] at k1;obtain⟨o,ho⟩: ∃o,off+(zs.length-1)=o:=⟨_,rfl⟩;rw[ho] at k1;generalize zs.getD (zs.length-1) 0=d at*
  match o,k1 with
  |0,k1=>simp at k1
  |1,k1=>simp at k1
  |2,k1=>simp at k1;omega
  |3,k1=>simp at k1
  |4,k1=>simp at k1
  |5,k1=>simp at k1;omega
  |o+6,k1=>simp at k1
 rw[World.cell?_setCell_other (h:=by simp),World.cell?_setCell_other (h:=by simp),World.cell?_setCell_other (h:=by simp),World.cell?_setCell_other (h:=by simp),World.cell?_setCell_other (h:=by simp),World.cell?_setCell_other (h:=by simp)];exact hc i hi
theorem ZB6.rd32 {w:World}{b:Nat}{v:Value}{zs:List Nat}(h:ZB6 w b)(hr:Rd w .u32 v zs)(x0 x1 x2 x3 x4 x5:Value):
  Rd ((((((w.setCell ⟨b,0,none⟩ x0).setCell ⟨b,1,none⟩ x1).setCell ⟨b,2,none⟩ x2).setCell ⟨b,3,none⟩ x3).setCell ⟨b,4,none⟩ x4).setCell ⟨b,5,none⟩ x5) .u32 v zs:=by
 obtain⟨hl,ty,hh⟩:=h;obtain⟨ao,cap,rfl,h1,h2,h3⟩:=hr;refine⟨ao,cap,rfl,h1,h2,fun hp=> ?_⟩
 obtain⟨c,off,rfl,hc⟩:=h3 hp;refine⟨c,off,rfl,fun i hi=> ?_⟩
 have hne:c≠b:=by
  intro e;subst e;have k1:=hc (zs.length-1) (by omega);unfold World.cell? at k1;simp only[hh] at k1;obtain⟨o,ho⟩: ∃o,off+(zs.length-1)=o:=⟨_,rfl⟩;rw[ho] at k1
  match o,k1 with
  |0,k1=>simp at k1
  |1,k1=>simp at k1
  |2,k1=>simp at k1
  |3,k1=>simp at k1
  |4,k1=>simp at k1
  |5,k1=>simp at k1
  |o+6,k1=>simp at k1
 rw[World.cell?_setCell_other (h:=by simp),World.cell?_setCell_other (h:=by simp),World.cell?_setCell_other (h:=by simp),World.cell?_setCell_other (h:=by simp),World.cell?_setCell_other (h:=by simp),World.cell?_setCell_other (h:=by simp)];exact hc i hi
def tR (w:World)(t u:ak)(e:Ending)(w':World):Prop:=
 ∃p q,e= .returned (.agg #[.bool t.s,p,yi t.e,.bool u.s,q,yi u.e])∧Rd w' .i64 p (Dg.dg 65536 t.n)∧Rd w' .i64 q (Dg.dg 65536 u.n)∧yB w w'
theorem XC (x:Nat)(w:World)(h:x<4294967296):yC 103 #[.int .u32 x] w fun e w'=>e= .returned (yi ((32-bitLen x:Nat):Int))∧w'=w:=by
 have hl:=IK x w h;have hb:=bF x 32 (by omega);obtain⟨l,hl2⟩: ∃l,bitLen x=l:=⟨_,rfl⟩;rw[hl2] at hl hb⊢;clear hl2
 go_enter Tryd.func103,Tryd.ntmps103
 go_wp2_with fail
 refine hl.mono ?_;rintro e w' ⟨rfl,rfl⟩
 go_wp2
 go_ret
 exact⟨by go_num,rfl⟩
def GsR (w:World)(g at0 top d1 d0 p0:Nat)(gv rv:Value)(wr:World):Prop:=
 ∃(t r:Nat),gv= .int .u64 t∧rv= .int .u64 r∧Hid (GsI top d1 d0 p0 t r)∧r<4294967296∧t≤4294967297∧wr.cell? ⟨g,at0,none⟩=some (.int .u32 p0)∧yB w wr
def Two (w:World)(q r:Nat)(e:Ending)(w':World):Prop:=
 ∃v1 v2,e= .returned (.tuple #[v1,v2])∧Own w' w.heap.size 87 .u32 v1 (Dg.dg 4294967296 q)∧Own w' w.heap.size 87 .u32 v2 (Dg.dg 4294967296 r)∧yB w w'
def aev (W5:World)(g1 n1 Q:Nat)(rv dv:Value)(wq:World):Prop:=
 rv= .slice (some ⟨g1,0,none⟩) n1 n1∧ ∃d:Nat,Q≤d∧d≤65535∧dv=yi d∧yB W5 wq
end Go.Proofs.YtiakgfmlpdfhdaaDoor
