/-
  Texts laid together: Dz, DecW, Plus, Minus, Ref4, Laws2, Ref5, Ref6, Dy1, Dy2, Lk, Dy3, Dr1, Aw0, Tx0, Read2, Roo1, Co6, Co10, Co2, Co3, Co9, Co13, Co14, Co19, Co15, Gr2, Dy7, Dy9, Ce10, Roo2, Roo4, Tx4, Co16, Co17, Co18, Ref7, Gq9, Tx7, Ar1, Lkn, Dr3a, Dp2, Gh3, Gk3, Ef2, Eg2, Ar2, As4, Cv1, Bl1, Bl6, BlN, BlM, Ref8, Ty4, Ty6, Eh1, Eh3, Cv5, Cv7.
-/
import Derived.Lib.Strings
import Derived.Shelf.Lay
import Derived.Shelf.Strings.Cut
import Derived.Shelf.Small.Wraps
import Derived.Shelf.Strconv.Atoi
import Derived.Shelf.Strconv.Itoa3
import Derived.Lib.AppendIntMem
import Derived.Lib.SmallJoins
import Derived.Test.YtlgkfdcmokchgaaGreatDoorRows
import Derived.Deep.Cut
import Derived.ChangeMaps4
import Derived.Deep.DeepCutAuto
import Derived.Deep.AppendLies
import Derived.Deep.RegionWith
import Derived.Laws.OwnMore
import Derived.Deep.CutBlock
import Derived.Maps.AppendAt
import Derived.Lib.ItoaLen
import Derived.Test.YtlgkfdcmokchgaaGreatDoorUt01
set_option maxRecDepth 100000
namespace Go.Proofs.YtlgkfdcmokchgaaGreatDoor
open _root_.Go.Proofs.Tryz
open Go.RowKit
def aG (a b:ak):ak:=
 let e:=min a.e b.e
 let x:=a.n*2^ (a.e-e).toNat
 let y:=b.n*2^ (b.e-e).toNat
 if a.s=b.s then⟨a.s,x+y,e⟩ else if x<y then⟨b.s,y-x,e⟩ else⟨a.s,x-y,e⟩
theorem eS {K:Nat}{a b:ak}(ha: -(K:Int)≤a.e)(hb: -(K:Int)≤b.e): -(K:Int)≤(aG a b).e:=by
 unfold aG;simp only
 split
 ·simp only;omega
 ·split<;>(simp only;omega)
def cO (a b:ak):ak:=
 let e0:=min a.e b.e
 let e1:=if a.n=0 then b.e else e0
 let e:=if b.n=0 then a.e else e1
 let x:=a.n*2^ (max 0 (a.e-e)).toNat
 let y:=b.n*2^ (max 0 (b.e-e)).toNat
 if a.s=b.s then⟨a.s,x+y,e⟩ else if y≤x then⟨a.s,x-y,e⟩ else⟨b.s,y-x,e⟩
theorem zy {K:Nat}{a b:ak}(ha: -(K:Int)≤a.e)(hb: -(K:Int)≤b.e): -(K:Int)≤(cO a b).e:=by
 obtain⟨e,he⟩: ∃e,(if b.n=0 then a.e else if a.n=0 then b.e else min a.e b.e)=e:=⟨_,rfl⟩
 have h0: -(K:Int)≤e:=by rw[←he];split<;>(try split)<;>omega
 have h:(cO a b).e=e:=by
  unfold cO;simp only[he]
  by_cases h1:a.s=b.s
  ·rw[if_pos h1]
  ·rw[if_neg h1]
   by_cases h2:b.n*2^ (max 0 (b.e-e)).toNat≤a.n*2^ (max 0 (a.e-e)).toNat
   ·rw[if_pos h2]
   ·rw[if_neg h2]
 rw[h];exact h0
theorem adl (B:Nat)(l:List Nat)(j:Nat)(hB:0<B)(_hs:Dg.Small B l)(h0:Dg.vl B l=0):l.getD j 0=0:=by
 by_cases h:j<l.length
 ·have h1:=Dg.vl_split B l j h
  rw[h0] at h1;have h2:B^j*l.getD j 0=0:=by
   rcases Nat.eq_zero_or_pos (l.getD j 0) with e|e
   ·rw[e,Nat.mul_zero]
   ·exfalso
    have h3:0<B^j*l.getD j 0:=Nat.mul_pos (Nat.pow_pos hB) e;have h4:B^j*(l.getD j 0+B*Dg.vl B (l.drop (j+1)))=0:=by omega
    rw[Nat.mul_add] at h4;omega
  rcases Nat.mul_eq_zero.1 h2 with e|e
  ·exact absurd e (Nat.ne_of_gt (Nat.pow_pos hB))
  ·exact e
 ·simp[List.getD_eq_getElem?_getD,show l.length≤j from by omega]
theorem wX {B:Nat}{w w1 w2:World}{g:Nat}(h:Below B w w1)(hB:B≤w1.heap.size)(hg:w1.grownBy w2 (some g))(hle:B≤g):Below B w w2:=
 h.grown hg hB (fun k hk=>by cases hk;exact hle)
theorem Own.shapeOf {w:World}{base e:Nat}{k:IntKind}{v:Value}{zs:List Nat}(h:Own w base e k v zs)(hp:zs≠[]): ∃g cap,v= .slice (some ⟨g,0,none⟩) zs.length cap∧base≤g∧g<w.heap.size:=by
 rcases h.2 with⟨hv,hn⟩| ⟨g,cap,cur,hv,hb,hh,_⟩
 ·exact absurd (List.eq_nil_of_length_eq_zero hn) hp
 ·exact⟨g,cap,hv,hb,by rw[Array.getElem?_eq_some_iff] at hh;exact hh.1⟩
def Qv (xs ys ps:List Nat)(k c:Nat):Prop:=
 ps.length=xs.length+1∧Dg.Small 4294967296 ps∧c≤1∧Dg.vl 4294967296 (ps.take k)+4294967296^k*c=Dg.vl 4294967296 (xs.take k)+Dg.vl 4294967296 (ys.take k)
theorem sQ (l:List Nat)(k x:Nat)(h:k<l.length):Dg.vl 4294967296 ((l.set k x).take (k+1))=Dg.vl 4294967296 (l.take k)+4294967296^k*x:=by
 rw[Dg.vl_take_succ _ _ _ (by simpa using h),Dg.getD_set _ _ _ _ h,if_pos rfl,List.take_set_of_le (Nat.le_refl _)]
theorem pO (l:List Nat)(k:Nat):Dg.vl 4294967296 (l.take (k+1))=Dg.vl 4294967296 (l.take k)+4294967296^k*l.getD k 0:=by
 by_cases h:k<l.length
 ·exact Dg.vl_take_succ _ _ _ h
 ·rw[List.take_of_length_le (by omega),List.take_of_length_le (by omega),Dg.getD_of_le _ _ (by omega)];omega
theorem zq {xs ys ps:List Nat}{k c x y:Nat}(h:Qv xs ys ps k c)(hk:k<xs.length)(hx:xs.getD k 0=x)(hy:ys.getD k 0=y)(hxl:x<4294967296)(hyl:y<4294967296):
  Qv xs ys (ps.set k ((x+y+c) % 4294967296)) (k+1) ((x+y+c)/4294967296):=by
 obtain⟨h1,h2,h3,h4⟩:=h;refine⟨by simpa using h1,Dg.small_set h2 _ _ (Nat.mod_lt _ (by omega)),by omega, ?_⟩;rw[sQ _ _ _ (by omega),pO xs,pO ys,hx,hy];have e:4294967296^ (k+1)*((x+y+c)/4294967296)=4294967296^k*(4294967296*((x+y+c)/4294967296)):=by rw[Nat.pow_succ,Nat.mul_assoc]
 have e2:4294967296^k*(x+y+c)=4294967296^k*((x+y+c) % 4294967296)+4294967296^k*(4294967296*((x+y+c)/4294967296)):=by
  rw[←Nat.mul_add,Nat.mod_add_div]
 have e3:4294967296^k*(x+y+c)=4294967296^k*x+4294967296^k*y+4294967296^k*c:=by rw[Nat.mul_add,Nat.mul_add]
 rw[e];omega
theorem Nc {xs ys ps:List Nat}{c:Nat}(h:Qv xs ys ps xs.length c)(hl:ys.length≤xs.length):(ps.set xs.length c).length=xs.length+1∧Dg.Small 4294967296 (ps.set xs.length c)∧Dg.vl 4294967296 (ps.set xs.length c)=Dg.vl 4294967296 xs+Dg.vl 4294967296 ys:=by
 obtain⟨h1,h2,h3,h4⟩:=h;refine⟨by simpa using h1,Dg.small_set h2 _ _ (by omega), ?_⟩;have:=sQ ps xs.length c (by omega);rw[List.take_of_length_le (by simp;omega)] at this;rw[this];rw[List.take_of_length_le (Nat.le_refl xs.length),List.take_of_length_le hl] at h4;omega
def Z7 (xs ys ps:List Nat)(k c:Nat):Prop:=
 ps.length=xs.length∧Dg.Small 4294967296 ps∧c≤1∧Dg.vl 4294967296 (xs.take k)+4294967296^k*c=Dg.vl 4294967296 (ps.take k)+Dg.vl 4294967296 (ys.take k)
theorem Z8 {xs ys ps:List Nat}{c:Nat}(h:Z7 xs ys ps xs.length c)(hl:ys.length≤xs.length)(hv:Dg.vl 4294967296 ys≤Dg.vl 4294967296 xs):Dg.vl 4294967296 ps=Dg.vl 4294967296 xs-Dg.vl 4294967296 ys:=by
 obtain⟨h1,h2,h3,h4⟩:=h;rw[List.take_of_length_le (Nat.le_refl xs.length),List.take_of_length_le hl,List.take_of_length_le (by omega)] at h4;have hlt:=Dg.vl_lt 4294967296 ps h2;rw[h1] at hlt;have hc:c=0:=by
  rcases Nat.eq_zero_or_pos c with e|e
  ·exact e
  ·have:c=1:=by omega
   subst this;omega
 subst hc;omega
theorem I0 (B:Nat)(l:List Nat)(hn:Dg.Norm l)(k:Nat)(h:k<l.length)(hB:0<B):B^k≤Dg.vl B l:=by
 have h1:=Dg.vl_ge B l (by intro e;subst e;simp at h) hn;exact Nat.le_trans (Nat.pow_le_pow_right hB (by omega)) h1
def abk (xs ys ps:List Nat)(k c:Nat):Prop:=
 ps.length=k∧Dg.Small 65536 ps∧c≤1∧Dg.vl 65536 ps+65536^k*c=Dg.vl 65536 (xs.take k)+Dg.vl 65536 (ys.take k)∧(0<k→65536^ (k-1)≤Dg.vl 65536 xs+Dg.vl 65536 ys)
theorem Yx {xs ys ps:List Nat}{k c:Nat}(h:abk xs ys ps k c)(hk: ¬(k<xs.length∨k<ys.length∨0<c)):ps=Dg.dg 65536 (Dg.vl 65536 xs+Dg.vl 65536 ys):=by
 obtain⟨h1,h2,h3,h4,h5⟩:=h;have hc:c=0:=by omega
 subst hc;rw[List.take_of_length_le (by omega),List.take_of_length_le (by omega)] at h4;refine Dg.eq_dg 65536 (by omega) _ _ h2 (Dg.norm_of_ge 65536 ps h2 (fun hne=> ?_)) (by omega)
 have:=h5 (by rw[←h1];exact List.length_pos_iff.2 hne);rw[h1];omega
def QA (xs ys ps:List Nat)(k c:Nat):Prop:=
 ps.length=k∧Dg.Small 65536 ps∧c≤1∧Dg.vl 65536 (xs.take k)+65536^k*c=Dg.vl 65536 ps+Dg.vl 65536 (ys.take k)
theorem Nl {xs ys ps:List Nat}{c:Nat}(h:QA xs ys ps xs.length c)(hl:ys.length≤xs.length)(hv:Dg.vl 65536 ys≤Dg.vl 65536 xs):Dg.vl 65536 ps=Dg.vl 65536 xs-Dg.vl 65536 ys:=by
 obtain⟨h1,h2,h3,h4⟩:=h;rw[List.take_of_length_le (Nat.le_refl xs.length),List.take_of_length_le hl] at h4;have hlt:=Dg.vl_lt 65536 ps h2;rw[h1] at hlt;have hc:c=0:=by
  rcases Nat.eq_zero_or_pos c with e|e
  ·exact e
  ·have:c=1:=by omega
   subst this;omega
 subst hc;omega
theorem aH (B n m:Nat)(hB:2≤B)(h:n≤m):(Dg.dg B n).length≤(Dg.dg B m).length:=by
 refine Dg.dg_len_le B n _ hB ?_;have:=Dg.vl_lt B (Dg.dg B m) (Dg.small_dg B m hB);rw[Dg.vl_dg B m hB] at this;omega
def Sv (xs ys ps:List Nat)(i:Nat):Prop:=
 ps.length=xs.length+ys.length∧Dg.Small 65536 ps∧(∀j,i+ys.length≤j→ps.getD j 0=0)∧Dg.vl 65536 ps=Dg.vl 65536 (xs.take i)*Dg.vl 65536 ys
def M5 (xs ys ps:List Nat)(i k c:Nat):Prop:=
 ps.length=xs.length+ys.length∧Dg.Small 65536 ps∧c<65536∧(∀j,i+ys.length+1≤j→ps.getD j 0=0)∧(k≤ys.length→ps.getD (i+ys.length) 0=0)∧(ys.length<k→c=0)∧k≤ys.length+1∧
  Dg.vl 65536 ps+65536^ (i+k)*c=Dg.vl 65536 (xs.take i)*Dg.vl 65536 ys+65536^i*(xs.getD i 0*Dg.vl 65536 (ys.take k))
theorem M6 (xs ys:List Nat):Sv xs ys (List.replicate (xs.length+ys.length) 0) 0:=by
 refine⟨by simp,Dg.small_replicate _ _ (by omega),fun j _=> ?_, ?_⟩
 ·by_cases h:j<xs.length+ys.length<;>simp[List.getD_eq_getElem?_getD,h]
 ·simp[Dg.vl_replicate_zero,Dg.vl]
theorem M7 {xs ys ps:List Nat}{i:Nat}(h:Sv xs ys ps i):M5 xs ys ps i 0 0:=
 ⟨h.1,h.2.1,by omega,fun j hj=>h.2.2.1 j (by omega),fun _=>h.2.2.1 _ (by omega),fun _=>rfl,by omega,by rw[h.2.2.2];simp[Dg.vl]⟩
theorem Qk {xs ys ps:List Nat}{i k c:Nat}(h:M5 xs ys ps i k c)(hi:i<xs.length)(hk: ¬(k<ys.length∨0<c)):Sv xs ys ps (i+1):=by
 obtain⟨h1,h2,h3,h4,h5,h6,h7,h8⟩:=h;have hc:c=0:=by omega
 subst hc;refine⟨h1,h2,fun j hj=>h4 j (by omega), ?_⟩
 rw[Dg.vl_take_succ _ _ _ hi,Nat.add_mul,Nat.mul_assoc];have e:ys.take k=ys:=List.take_of_length_le (by omega);rw[e] at h8;omega
theorem xh {w:World}{base e:Nat}{g n cap m:Nat}{zs:List Nat}(h:Own w base e .i64 (.slice (some ⟨g,0,none⟩) n cap) zs)(hs:Dg.Small 65536 zs)(ht:Ou zs m)(hl:zs.length≤3000000):Rd w .i64 (.slice (some ⟨g,0,none⟩) m m) (Dg.dg 65536 (Dg.vl 65536 zs)):=
 uE 65536 (by omega) h.rd hs ht (Nat.le_refl _) (by have:=ht.1;unfold maxLen;omega)
theorem C6 (wh pt:Nat)(hpt:pt<16):(List.replicate (wh+1) 0).set wh (2^pt)=Dg.dg 65536 (2^ (16*wh+pt)):=by
 have hp:2^pt<65536:=by
  have:2^pt≤2^15:=Nat.pow_le_pow_right (by omega) (by omega);omega
 have hp0:0<2^pt:=Nat.pow_pos (by omega);refine Dg.eq_dg 65536 (by omega) _ _ (Dg.small_set (Dg.small_replicate _ _ (by omega)) _ _ hp) (fun _=> ?_) ?_
 ·simp only[List.length_set,List.length_replicate,Nat.add_sub_cancel]
  rw[Dg.getD_set _ _ _ _ (by simp),if_pos rfl];omega
 ·have:=Dg.vl_set 65536 (List.replicate (wh+1) 0) wh (2^pt) (by simp)
  have hz:(List.replicate (wh+1) 0).getD wh 0=0:=by simp[List.getD_eq_getElem?_getD]
  rw[hz,Dg.vl_replicate_zero] at this;rw[Nat.pow_add,Nat.pow_mul,show(2:Nat)^16=65536 from by decide]
  omega
theorem Fr (n:Nat):(Dg.dg 65536 (2^n)).length≤n/16+1:=by
 refine Dg.dg_len_le _ _ _ (by omega) ?_;rw[show(65536:Nat)=2^16 from by decide,←Nat.pow_mul]
 exact Nat.pow_lt_pow_right (by omega) (by omega)
theorem Vp (x k idx:Nat)(w:World)(hx0:((x:Int)==0)=false)
  (key:bits BinOp.and IntKind.u32 x (-(x:Int) % 4294967296)*125613361 % 4294967296/134217728=(idx:Int))
  (hi:idx<32) (hk:k<32) (hcell:w.cell? ⟨1,idx,none⟩=some (.int .u8 k)):
  yC 151 #[.int .u32 x] w fun e w'=>e= .returned (yi k)∧w'=w:=by
 go_enter func151,ntmps151
 go_wp2_with (simp only[key])
 go_ret
 exact⟨rfl,rfl⟩
theorem Zw (x:Nat)(w:World)(hx:x<4294967296)(hx0:x≠0)(hT:Tab w):
  yC 151 #[.int .u32 x] w fun e w'=> ∃k m:Nat,e= .returned (yi k)∧x=2^k*(2*m+1)∧k<32∧w'=w:=by
 obtain⟨hlow,hk⟩:=Lib.lowest_bit 32 x hx0 hx;obtain⟨hi,htab⟩:=Lib.deBruijn32_at _ hk;obtain⟨m,hm,_⟩:=Lib.ctzFrom_spec 32 x (by omega) hx;have e0:Lib.ctz 32 x=Lib.ctzFrom 32 x:=by simp[Lib.ctz,hx0]
 have hcell:=hT _ hi;rw[htab] at hcell;refine(Vp x _ _ w (by simp;omega) (tz32_key x _ hx hx0 hlow) hi hk hcell).mono ?_;rintro e w' ⟨rfl,rfl⟩;exact⟨_,m,rfl,by rw[e0];exact hm,hk,rfl⟩
theorem aA (w:World)(v0 v1 v2:Value)(ty:TypeId):Loc (w.alloc (.cells #[v0,v1,v2] ty)) w.heap.size v0 v1 v2:=by
 refine⟨by simp[World.size_alloc],⟨?_, ?_, ?_⟩, ?_, ?_, ?_⟩
 ·rw[World.cell?_alloc_at _ _ _ _ rfl];rfl
 ·rw[World.cell?_alloc_at _ _ _ _ rfl];rfl
 ·rw[World.cell?_alloc_at _ _ _ _ rfl];rfl
 ·exact World.frozen?_alloc_at _ _ _ _ rfl
 ·exact World.frozen?_alloc_at _ _ _ _ rfl
 ·exact World.frozen?_alloc_at _ _ _ _ rfl
theorem Own.apart {w w':World}{base e b:Nat}{k:IntKind}{v:Value}{zs:List Nat}(h:Own w base e k v zs)(hg:w.grownBy w' (some b))(hb:b<base):Own w' base e k v zs:=by
 obtain⟨hl,h2⟩:=h;refine⟨hl, ?_⟩
 rcases h2 with h2| ⟨g',cap',cur,hv,hbg,hh,r⟩
 ·exact .inl h2
 ·refine .inr ⟨g',cap',cur,hv,hbg, ?_,r⟩
  have hlt:g'<w.heap.size:=by
   rw[Array.getElem?_eq_some_iff] at hh;exact hh.1
  rw[hg.block g' hlt (by intro e;cases e;omega)]
  exact hh
theorem cN (b:Bool)(ao:Option Addr)(n ca:Nat)(e:Int)(w:World):yC 160 #[ydV b (.slice ao n ca) e] w (yR w (.slice ao n ca)):=by
 have b1:yB w (w.alloc (.cells (ydA b (.slice ao n ca) e) 197)):=(Below.refl _ _).alloc (Nat.le_refl _) _
 go_enter func160,ntmps160
 go_wp2
 go_ret
 exact⟨rfl,b1⟩
theorem l9 (b:Bool)(ao:Option Addr)(n ca:Nat)(e:Int)(w:World):yC 181 (ydA b (.slice ao n ca) e) w (yR w (ydV b (.slice ao n ca) e)):=by
 go_enter func181,ntmps181
 go_wp2
 go_returns
 exact⟨rfl,(Below.refl _ _).alloc (Nat.le_refl _) _⟩
theorem iK (b:Bool)(ao:Option Addr)(n ca:Nat)(e:Int)(w:World):yC 126 #[ydV b (.slice ao n ca) e] w (yR w (ydV b (.slice ao n ca) e)):=by
 go_enter func126,ntmps126
 go_wp2
 go_returns
 exact⟨rfl,((Below.refl _ _).alloc (Nat.le_refl _) _).alloc (by simp[World.size_alloc]) _⟩
theorem au.cs8 {w:World}{b:Nat}{ty:TypeId}{x0 x1 x2 x3 x4 x5 x6 x7:Value}{l:List Value}(h:au w b ty (x0::x1::x2::x3::x4::x5::x6::x7::l)):w.cell? ⟨b,0,none⟩=some x0∧w.cell? ⟨b,1,none⟩=some x1∧w.cell? ⟨b,2,none⟩=some x2∧w.cell? ⟨b,3,none⟩=some x3∧w.cell? ⟨b,4,none⟩=some x4∧w.cell? ⟨b,5,none⟩=some x5∧w.cell? ⟨b,6,none⟩=some x6∧w.cell? ⟨b,7,none⟩=some x7:=⟨h.c 0 rfl,h.c 1 rfl,h.c 2 rfl,h.c 3 rfl,h.c 4 rfl,h.c 5 rfl,h.c 6 rfl,h.c 7 rfl⟩
theorem au.cs9 {w:World}{b:Nat}{ty:TypeId}{x0 x1 x2 x3 x4 x5 x6 x7 x8:Value}{l:List Value}(h:au w b ty (x0::x1::x2::x3::x4::x5::x6::x7::x8::l)):w.cell? ⟨b,0,none⟩=some x0∧w.cell? ⟨b,1,none⟩=some x1∧w.cell? ⟨b,2,none⟩=some x2∧w.cell? ⟨b,3,none⟩=some x3∧w.cell? ⟨b,4,none⟩=some x4∧w.cell? ⟨b,5,none⟩=some x5∧w.cell? ⟨b,6,none⟩=some x6∧w.cell? ⟨b,7,none⟩=some x7∧w.cell? ⟨b,8,none⟩=some x8:=⟨h.c 0 rfl,h.c 1 rfl,h.c 2 rfl,h.c 3 rfl,h.c 4 rfl,h.c 5 rfl,h.c 6 rfl,h.c 7 rfl,h.c 8 rfl⟩
def gR (w:World)(r:ak×Int)(e:Ending)(w':World):Prop:=
 ∃s,e= .returned (.tuple #[ydV r.1.s s r.1.e,yi r.2])∧Own w' w.heap.size 54 .u32 s (Dg.dg 4294967296 r.1.n)∧yB w w'
theorem Loc.apart {w:World}{b c:Nat}{v0 v1 v2:Value}(h:Loc w b v0 v1 v2)(hne:c≠b)(x0 x1 x2:Value):
  Loc (((w.setCell ⟨c,0,none⟩ x0).setCell ⟨c,1,none⟩ x1).setCell ⟨c,2,none⟩ x2) b v0 v1 v2:=by
 obtain⟨hl,⟨c0,c1,c2⟩,f0,f1,f2⟩:=h;refine⟨by simpa using hl,⟨?_, ?_, ?_⟩,by simpa using f0,by simpa using f1,by simpa using f2⟩
 ·rw[World.cell?_setCell_other (h:=by simp),World.cell?_setCell_other (h:=by simp),World.cell?_setCell_other (h:=by simp)];exact c0
 ·rw[World.cell?_setCell_other (h:=by simp),World.cell?_setCell_other (h:=by simp),World.cell?_setCell_other (h:=by simp)];exact c1
 ·rw[World.cell?_setCell_other (h:=by simp),World.cell?_setCell_other (h:=by simp),World.cell?_setCell_other (h:=by simp)];exact c2
def dr (w:World)(t:ak)(e:Ending)(w':World):Prop:= ∃s,e= .returned (ydV t.s s t.e)∧Rd w' .i64 s (Dg.dg 65536 t.n)∧yB w w'
theorem dI (w:World)(ty:TypeId):ZB (w.alloc (.cells (ydA false yN 0) ty)) w.heap.size:=
 ⟨by simp[World.size_alloc],ty,heap_alloc_new _ _⟩
theorem afB {w:World}{b:Nat}{ty:TypeId}{z0 z1 z2 z3:Value}(h:au w b ty [z0,z1,z2,z3]):(w.cell? ⟨b,0,none⟩=some z0∧w.cell? ⟨b,1,none⟩=some z1∧w.cell? ⟨b,2,none⟩=some z2∧w.cell? ⟨b,3,none⟩=some z3)∧w.frozen? ⟨b,0,none⟩=false∧w.frozen? ⟨b,1,none⟩=false∧w.frozen? ⟨b,2,none⟩=false∧w.frozen? ⟨b,3,none⟩=false:=
 ⟨⟨h.c 0 rfl,h.c 1 rfl,h.c 2 rfl,h.c 3 rfl⟩,h.f 0,h.f 1,h.f 2,h.f 3⟩
open Go.Shelf Go.RowKit
shelf_lay Lays.n145 Nm 145 at Tryz as lays145
shelf_lay Lays.n103 Nm 103 at Tryz as lays103
shelf_lay Lays.n172 Nm 172 at Tryz as lays172
shelf_lay LaysM.n171 Nm 171 at Tryz as lays171
def powN:String:=(Rows.topDigitsRow.laid.map (fun p=>p.1)).getD 2 ""
def TxW (w:World):Prop:=Tab w∧(∃m:Int,w.cell? ⟨lays145_ren.g 1,0,none⟩=some (yi m))∧Lib.TabIs Tryz.prog w powN .u64 Lib.pow10Tab
theorem TxW.l {w w':World}(h:TxW w)(hb:yB w w'):TxW w':=by
 obtain⟨h1,⟨m,h2⟩,h3⟩:=h;exact⟨h1.l hb,⟨m,cell_later hb h2⟩,Lib.tabBelow_of_tabIs h3 w' hb⟩
theorem drewN_below (w:World)(n:Nat):yB w (w.drewN n):=⟨rfl,rfl,rfl,Nat.le_refl _,fun _ _=>rfl⟩
theorem cut_any (s sep:ByteArray)(w:World)(hs:s.size≤1000)(hT:TxW w):
  yC 103 #[.string s,.string sep] w (yR w (.tuple #[.string ⟨(Lib.cut s.data.toList sep.data.toList).1.toArray⟩,.string ⟨(Lib.cut s.data.toList sep.data.toList).2.1.toArray⟩,.bool (Lib.cut s.data.toList sep.data.toList).2.2])):=by
 obtain⟨-,⟨m,hm⟩,-⟩:=hT;refine(Any.strings_Cut lays145 s sep m w (by omega) hm).mono ?_;rintro z w' ⟨rfl,n,rfl⟩;exact⟨rfl,drewN_below w n⟩
theorem prefix_any (s p:ByteArray)(w:World):
  yC 102 #[.string s,.string p] w (yR w (.tuple #[.string ⟨(Lib.trimPrefix s.data.toList p.data.toList).toArray⟩,.bool (Lib.hasPrefix s.data.toList p.data.toList)])):=by
 refine(Any.strings_CutPrefix lays103 s p w).mono ?_;rintro z w' ⟨rfl,rfl⟩;exact⟨rfl,Below.refl _ _⟩
theorem atoi_any (s:ByteArray)(n:Int)(w:World)(hs:s.size≤18)(h:Lib.atoi s.data.toList=some n):
  yC 150 #[.string s] w (yR w (.tuple #[yi n,.nilIface])):=by
 refine(Any.strconv_Atoi lays172 s n hs h w).mono ?_;rintro z w' ⟨rfl,t,rfl⟩;exact⟨rfl,Joins.below_bytesWorld _ w _ t (Nat.le_refl _)⟩
theorem itoa_any (n:Int)(w:World)(h0: -9223372036854775808≤n)(h1:n≤9223372036854775807)(hT:TxW w):
  yC 95 #[yi n] w (yR w (.string ⟨(Lib.itoa n).toArray⟩)):=by
 refine(Any.strconv_Itoa lays171 n h0 h1 w hT.2.2).mono ?_;rintro z w' ⟨rfl,k,os,rfl⟩;exact⟨rfl,Lib.below_grow _ w (Nat.le_refl _) k os⟩
def LI (zs cur:List Nat)(sc mo k c:Nat):Prop:=
 cur.length=zs.length∧Dg.Small 4294967296 cur∧c<4294967296∧(∀j,k≤j→cur.getD j 0=zs.getD j 0)∧Dg.vl 4294967296 (cur.take k)+4294967296^k*c=Dg.vl 4294967296 (zs.take k)*sc+mo
theorem aaT {n L j:Nat}(h:n<4294967296^L):(Dg.dg 4294967296 (n^j)).length≤L*j+1:=by
 refine Dg.dg_len_le 4294967296 _ _ (by omega) ?_;rw[Nat.pow_succ,Nat.pow_mul];have h1:n^j≤(4294967296^L)^j:=Nat.pow_le_pow_left (by omega) j;have h2:0< (4294967296^L)^j:=Nat.pow_pos (Nat.pow_pos (by omega));omega
def aex (w:World)(n k bl:Nat)(pv iv:Value)(wr:World):Prop:=
 ∃j:Nat,j≤bl∧iv=yi ((j:Int)-1)∧Own wr w.heap.size 54 .u32 pv (Dg.dg 4294967296 (n^ (k/2^j)))∧yB w wr
theorem Ev {w:World}{base e:Nat}{g n cap:Nat}{zs:List Nat}(h:Own w base e .u8 (.slice (some ⟨g,0,none⟩) n cap) zs):ik w g zs:=
 ⟨fun i hi=>h.c i hi,fun i _=>h.f i,h.block.2⟩
def iS (f:Nat):Nat→Nat→List Nat→List Nat
 |0,_,zs=>zs
 |c+1,x,zs=>iS f c (x/2) (zs.set ((f+c)/8) (zs.getD ((f+c)/8) 0|||x % 2*2^ (7-(f+c) % 8)))
theorem Io {B:Nat}{zs:List Nat}(h:Dg.Small B zs)(i x:Nat)(hx:x<B):Dg.Small B (zs.set i x):=by
 intro k
 by_cases hk:i<zs.length
 ·rw[Dg.getD_set _ _ _ _ hk]
  by_cases e:i=k
  ·rw[if_pos e];exact hx
  ·rw[if_neg e];exact h k
 ·rw[List.set_eq_of_length_le (by omega)]
  exact h k
def tS:Nat→List Value
 |1=>[yi 2,yi 24,yi (-149),yi 104,.bool true,yi 4,yi 8,yi 1,.func (.func 154) #[] #[]]
 |2=>[yi 2,yi 53,yi (-1074),yi 971,.bool true,yi 8,yi 11,yi 1,.func (.func 154) #[] #[]]
 |3=>[yi 2,yi 64,yi (-16445),yi 16320,.bool true,yi 10,yi 15,yi 1,.func (.func 155) #[] #[]]
 |4=>[yi 16,yi 6,yi (-70),yi 57,.bool false,yi 4,yi 7,yi 2,.func (.func 154) #[] #[]]
 |5=>[yi 16,yi 14,yi (-78),yi 49,.bool false,yi 8,yi 7,yi 2,.func (.func 154) #[] #[]]
 |6=>[yi 2,yi 24,yi (-151),yi 103,.bool false,yi 4,yi 8,yi 3,.func (.func 156) #[] #[]]
 |7=>[yi 2,yi 56,yi (-183),yi 71,.bool false,yi 8,yi 8,yi 3,.func (.func 156) #[] #[]]
 |8=>[yi 2,yi 53,yi (-1076),yi 970,.bool false,yi 8,yi 11,yi 3,.func (.func 156) #[] #[]]
 |_=>(yzL 0 0 0 0 false 0 0 0)
def Ar:List Value:=[yi 0,yi 0,yi 0,yi 0,.bool false,yi 0,yi 0,yi 0,.nilFunc,yi 2,yi 24,yi (-149),yi 104,.bool true,yi 4,yi 8,yi 1,.func (.func 154) #[] #[],yi 2,yi 53,yi (-1074),yi 971,.bool true,yi 8,yi 11,yi 1,.func (.func 154) #[] #[],yi 2,yi 64,yi (-16445),yi 16320,.bool true,yi 10,yi 15,yi 1,.func (.func 155) #[] #[],yi 16,yi 6,yi (-70),yi 57,.bool false,yi 4,yi 7,yi 2,.func (.func 154) #[] #[],yi 16,yi 14,yi (-78),yi 49,.bool false,yi 8,yi 7,yi 2,.func (.func 154) #[] #[],yi 2,yi 24,yi (-151),yi 103,.bool false,yi 4,yi 8,yi 3,.func (.func 156) #[] #[],yi 2,yi 56,yi (-183),yi 71,.bool false,yi 8,yi 8,yi 3,.func (.func 156) #[] #[],yi 2,yi 53,yi (-1076),yi 970,.bool false,yi 8,yi 11,yi 3,.func (.func 156) #[] #[]]
theorem aj {P:Program}{fn:Func}{a t:Nat}{ty:TypeId}{tmps:Array Value}{w:World}{b:Nat}{v u:Value}(hres:fn.results= #[.cell a ty,.tmp t])(hp:tmps.getD a undef= .pointer (some ⟨b,0,none⟩))(hu:tmps.getD t undef=u)(hl:(loadVar ty ⟨b,0,none⟩).run P w= .ok v w):(results fn tmps).run P w= .ok (.tuple #[v,u]) w:=by
 rw[Array.getD_eq_getD_getElem?] at hp hu;unfold results;simp[hres,hp,hu,asAddr,hl]
theorem Aj (b:Bool)(w:World):yC 141 #[.bool b] w fun z w'=>z= .returned (yi (if b then 1 else 2))∧w'=w:=by
 cases b
 ·go_enter func141,ntmps141
  go_wp2
  go_ret
  exact⟨rfl,rfl⟩
 ·go_enter func141,ntmps141
  go_wp2
  go_ret
  exact⟨rfl,rfl⟩
theorem Ux (v:Value)(w:World):yC 154 #[v] w fun e w'=>e= .returned (.tuple #[])∧w'=w:=by
 go_enter func154,ntmps154
 go_wp2
 go_end0
 exact⟨rfl,rfl⟩
theorem au.grown {w w':World}{b g:Nat}{ty:TypeId}{vs:List Value}(h:au w b ty vs)(hg:w.grownBy w' (some g))(hne:b≠g):au w' b ty vs:=
 (hg.block b h.lt (fun e=>hne (Option.some.inj e))).trans h
theorem il (f:Nat): ∀(c x:Nat) (zs:List Nat),(iS f c x zs).length=zs.length
 |0,_,_=>rfl
 |c+1,x,zs=>by rw[iS,il f c];exact List.length_set
theorem Nq (x:Nat):Dg.vl 4294967296 [x % 4294967296,x/4294967296]=x:=by
 simp only[Dg.vl];omega
theorem Sb (B n:Nat)(hB:2≤B):(Dg.dg B n).getD 0 0=n % B:=by
 by_cases h:n=0
 ·subst h
  rw[show Dg.dg B 0=[] from(Dg.dg_nil_iff B 0 hB).2 rfl]
  simp
 ·have hs:=Dg.small_dg B n hB
  have hv:=Dg.vl_dg B n hB;obtain⟨x,xs,hx⟩: ∃x xs,Dg.dg B n=x::xs:=by
   rcases hd:Dg.dg B n with _| ⟨x,xs⟩
   ·exact absurd ((Dg.dg_nil_iff B n hB).1 hd) h
   ·exact⟨x,xs,rfl⟩
  rw[hx] at hs hv⊢;have h0:x<B:=by simpa using hs 0
  simp only[Dg.vl] at hv;rw[←hv];simp[Nat.mod_eq_of_lt h0]
theorem jw {w:World}{s:Bool}{ao:Option Addr}{ca:Nat}{xs:List Nat}{e:Int}(hr:Rd w .u32 (.slice ao xs.length ca) xs)(sa:Dg.Small 4294967296 xs)(hn:Dg.Norm xs):
  Dv w (ydV s (.slice ao xs.length ca) e) ⟨s,Dg.vl 4294967296 xs,e⟩:=by
 have h:=Dg.eq_dg 4294967296 (by omega) xs _ sa hn rfl;refine⟨_,rfl, ?_⟩;simp only;rw[←h];exact hr
def dJ (t:ak):Int:=if t.n=0 then 0 else if t.s then-1 else 1
theorem xD {w:World}{q:Nat}(h:w.cell? ⟨q,0,none⟩=some (.int .u32 1)):Rd w .u32 (.slice (some ⟨q,0,none⟩) 1 1) [1]:=
 ⟨_,1,rfl,Nat.le_refl _,by unfold maxLen;omega,fun _=>⟨q,0,rfl,fun i hi=>by
  obtain rfl:i=0:=by simpa using hi
  exact h⟩⟩
theorem om {x L:Nat}(h:(Dg.dg 4294967296 x).length≤L):x<4294967296^L:=by
 have h1:=Dg.vl_lt 4294967296 _ (Dg.small_dg 4294967296 x (by omega));rw[Dg.vl_dg _ _ (by omega)] at h1;exact Nat.lt_of_lt_of_le h1 (Nat.pow_le_pow_right (by omega) h)
theorem tD {x y:Nat}(h:x≤y):(Dg.dg 4294967296 x).length≤(Dg.dg 4294967296 y).length:=
 Dg.dg_len_le 4294967296 _ _ (by omega) (Nat.lt_of_le_of_lt h (om (Nat.le_refl _)))
theorem rd_one1 {w:World}{q:Nat}(h:w.cell? ⟨q,0,none⟩=some (.int .u32 1)):Rd w .u32 (.slice (some ⟨q,0,none⟩) 1 1) (Dg.dg 4294967296 1):=xD h
def RtR (w:World)(ng:Bool)(a b:Nat)(e:Int)(z:Ending)(w':World):Prop:=
 ∃v u,z= .returned (yrV ng v u e)∧Rd w' .u32 v (Dg.dg 4294967296 a)∧Rd w' .u32 u (Dg.dg 4294967296 b)∧yB w w'
def RtZ (w:World)(z:Ending)(w':World):Prop:=
 ∃q,z= .returned (yrV false yN (.slice (some ⟨q,0,none⟩) 1 1) 0)∧au w' q 54 [.int .u32 1]∧yB w w'
def iT (w:World)(c:Int)(ng:Bool)(m:Nat)(p:Int)(z:Ending)(w':World):Prop:=
 ∃v,z= .returned (yvV c ng v p)∧Rd w' .u32 v (Dg.dg 4294967296 m)∧yB w w'
theorem kg {P:Program}{fn:Func}{a b t:Nat}{ta tb:TypeId}{tmps:Array Value}{w:World}{ba bb:Nat}{va vb u:Value}(hres:fn.results= #[.cell a ta,.cell b tb,.tmp t])(ha:tmps.getD a undef= .pointer (some ⟨ba,0,none⟩))(hb:tmps.getD b undef= .pointer (some ⟨bb,0,none⟩))(hu:tmps.getD t undef=u)(hla:(loadVar ta ⟨ba,0,none⟩).run P w= .ok va w)(hlb:(loadVar tb ⟨bb,0,none⟩).run P w= .ok vb w):(results fn tmps).run P w= .ok (.tuple #[va,vb,u]) w:=by
 rw[Array.getD_eq_getD_getElem?] at ha hb hu;unfold results;simp[hres,ha,hb,hu,asAddr,hla,hlb]
def eP (w:World)(c:Int)(ng:Bool)(m:Nat)(p:Int)(er:Int)(z:Ending)(w':World):Prop:=
 ∃v,z= .returned (.tuple #[yvV c ng v p,yi er])∧Rd w' .u32 v (Dg.dg 4294967296 m)∧yB w w'
def X9 (xs cur:List Nat)(d k r:Nat):Prop:=
 cur.length=xs.length∧Dg.Small 65536 cur∧r<d∧Dg.vl 65536 (xs.drop k)=Dg.vl 65536 (cur.drop k)*d+r
theorem Cv (d:Nat)(h:d<65536):Dg.dg 65536 d=if d=0 then[] else[d]:=by
 by_cases e:d=0
 ·subst e;rfl
 ·rw[if_neg e]
  exact(Dg.eq_dg 65536 (by omega) [d] d (Dg.small_cons.2 ⟨h,Dg.small_nil _ (by omega)⟩) (by intro _;simpa using e) (by simp[Dg.vl])).symm
theorem UI {d k L:Nat}(h:d≤2^k)(hk:k+1≤16*L):(Dg.dg 65536 d).length≤L:=by
 refine Dg.dg_len_le 65536 _ _ (by omega) (Nat.lt_of_le_of_lt h ?_);rw[show(65536:Nat)=2^16 from by decide,←Nat.pow_mul]
 exact Nat.pow_lt_pow_right (by omega) (by omega)
def NbR (w:World)(n:Nat)(l:Bool)(z:Ending)(w':World):Prop:= ∃v,z= .returned (.tuple #[v,.bool l])∧Rd w' .u32 v (Dg.dg 4294967296 n)∧yB w w'
def DcR (w:World)(s:Bool)(h:Nat)(c p:Int)(z:Ending)(w':World):Prop:= ∃v,z= .returned (.agg #[.bool s,v,yi c,yi p])∧Rd w' .u32 v (Dg.dg 4294967296 h)∧yB w w'
def acy (w:World)(t:ak)(z:Ending)(w':World):Prop:=
 ∃v,z= .returned (ydV t.s v t.e)∧Rd w' .u32 v (Dg.dg 4294967296 t.n)∧Far w.heap.size v∧yB w w'
def Ys (w:World)(c:Int)(ng:Bool)(m:Nat)(p:Int)(t:ak)(er:Int)(z:Ending)(w':World):Prop:=
 ∃v x,z= .returned (.tuple #[yvV c ng v p,ydV t.s x t.e,yi er])∧Rd w' .u32 v (Dg.dg 4294967296 m)∧Rd w' .u32 x (Dg.dg 4294967296 t.n)∧Far w.heap.size x∧yB w w'
theorem t9 {w:World}{k:IntKind}{v:Value}{zs:List Nat}(h:Rd w k v zs){b:Nat}(hb:w.heap.size≤b):wF b v zs:=fun hp a n c hv=>by
 obtain⟨ao,cap,rfl,_,_,h3⟩:=h;obtain⟨g,off,rfl,hc⟩:=h3 hp
 cases hv
 have h0:=hc 0 hp
 show g≠b
 intro e;subst e;unfold World.cell? at h0;simp only at h0;rw[Array.getElem?_eq_none hb] at h0
 cases h0
theorem jZ (n k L j:Nat)(h:(Dg.dg 65536 n).length≤L)(hk:k≤16*j):(Dg.dg 65536 (n*2^k)).length≤L+j:=by
 apply Dg.dg_len_le 65536 _ _ (by omega);have h1:=Dg.vl_lt 65536 (Dg.dg 65536 n) (Dg.small_dg _ _ (by omega));rw[Dg.vl_dg _ _ (by omega)] at h1;have h2:65536^ (Dg.dg 65536 n).length≤65536^L:=Nat.pow_le_pow_right (by omega) h;have h3:2^k≤65536^j:=by
  rw[show(65536:Nat)=2^16 from rfl,←Nat.pow_mul]
  exact Nat.pow_le_pow_right (by omega) (by omega)
 rw[Nat.pow_add];have h4:0<65536^j:=Nat.pow_pos (by omega);generalize 65536^j=c at*;generalize 65536^L=d at*;have h5:n*2^k≤n*c:=Nat.mul_le_mul_left _ h3;have h6:n*c<d*c:=Nat.mul_lt_mul_of_pos_right (by omega) h4;omega
theorem og (x y L:Nat)(hx:(Dg.dg 65536 x).length≤L)(hy:(Dg.dg 65536 y).length≤L):(Dg.dg 65536 (x+y)).length≤L+1:=by
 apply Dg.dg_len_le 65536 _ _ (by omega);have h1:=Dg.vl_lt 65536 (Dg.dg 65536 x) (Dg.small_dg _ _ (by omega));have h2:=Dg.vl_lt 65536 (Dg.dg 65536 y) (Dg.small_dg _ _ (by omega));rw[Dg.vl_dg _ _ (by omega)] at h1 h2;have h3:65536^ (Dg.dg 65536 x).length≤65536^L:=Nat.pow_le_pow_right (by omega) hx;have h4:65536^ (Dg.dg 65536 y).length≤65536^L:=Nat.pow_le_pow_right (by omega) hy;rw[Nat.pow_succ];omega
theorem len_zero (n:Nat):(((Dg.dg 65536 n).length:Int)==0)=decide (n=0):=by
 have n1:=Dg.dg_nil_iff 65536 n (by omega)
 by_cases h:n=0
 ·rw[decide_eq_true h,n1.2 h];rfl
 ·rw[decide_eq_false h];simp;exact fun e=>h (n1.1 e)
def DM (w:World)(h:Bool)(d:Nat)(k c:Int)(e:Ending)(w':World):Prop:=
 ∃u,e= .returned (.tuple #[.agg #[u,yi k],.bool h,yi c])∧Own w' w.heap.size 54 .u32 u (Dg.dg 4294967296 d)∧yB w w'
theorem jq {d k L:Nat}(h:d<2^k)(hk:k≤32*L):(Dg.dg 4294967296 d).length≤L:=by
 refine Dg.dg_len_le 4294967296 _ _ (by omega) (Nat.lt_of_lt_of_le h ?_);rw[show(4294967296:Nat)=2^32 from by decide,←Nat.pow_mul]
 exact Nat.pow_le_pow_right (by omega) hk
theorem IZ {a b:Nat}(h:a≤b):(Dg.dg 65536 a).length≤(Dg.dg 65536 b).length:=by
 refine Dg.dg_len_le 65536 a _ (by omega) (Nat.lt_of_le_of_lt h ?_);have:=Dg.vl_lt 65536 (Dg.dg 65536 b) (Dg.small_dg 65536 b (by omega))
 rwa [Dg.vl_dg 65536 b (by omega)] at this
theorem KN {xs:List Nat}{L:Nat}(sa:Dg.Small 4294967296 xs)(h:xs.length≤L):(Dg.dg 65536 (Dg.vl 4294967296 xs)).length≤2*L:=by
 refine Dg.dg_len_le 65536 _ _ (by omega) ?_;rw[Nat.pow_mul];exact Nat.lt_of_lt_of_le (Dg.vl_lt 4294967296 xs sa) (Nat.pow_le_pow_right (by omega) h)
theorem Hv {w:World}{base base' e size k:Nat}{v:Value}{xs:List Value}(h:w.ownsRow base e size v k xs)(hb:base'≤base):w.ownsRow base' e size v k xs:=by
 obtain⟨hl,h2⟩:=h;refine⟨hl, ?_⟩
 rcases h2 with h2| ⟨g,cap,cur,hv,hbg,r⟩
 ·exact .inl h2
 ·exact .inr ⟨g,cap,cur,hv,Nat.le_trans hb hbg,r⟩
def B6 (w:World)(c:Int)(g:Bool)(m:Nat)(q fl:Int)(z:Ending)(w':World):Prop:=
 ∃v,z= .returned (.tuple #[yvV c g v q,yi fl])∧Rd w' .u32 v (Dg.dg 4294967296 m)∧yB w w'
def CRes (w:World)(c:Int)(g:Bool)(m:Nat)(p:Int)(t:ak)(er:Int)(z:Ending)(w':World):Prop:=
 ∃v x,z= .returned (.tuple #[yvV c g v p,ydV t.s x t.e,yi er])∧Rd w' .u32 v (Dg.dg 4294967296 m)∧Rd w' .u32 x (Dg.dg 4294967296 t.n)∧yB w w'
def mL (w:World)(b:Nat)(v0 v1 v2 v3 v4 v5:Value):Prop:=
 b<w.heap.size∧(w.cell? ⟨b,0,none⟩=some v0∧w.cell? ⟨b,1,none⟩=some v1∧w.cell? ⟨b,2,none⟩=some v2∧w.cell? ⟨b,3,none⟩=some v3∧w.cell? ⟨b,4,none⟩=some v4∧w.cell? ⟨b,5,none⟩=some v5)∧
  (w.frozen? ⟨b,0,none⟩=false∧w.frozen? ⟨b,1,none⟩=false∧w.frozen? ⟨b,2,none⟩=false∧w.frozen? ⟨b,3,none⟩=false∧w.frozen? ⟨b,4,none⟩=false∧w.frozen? ⟨b,5,none⟩=false)
def ZB6 (w:World)(b:Nat):Prop:=b<w.heap.size∧ ∃ty,w.heap[b]? =some (.cells #[.bool false,yN,yi 0,.bool false,yN,yi 0] ty (0,0))
def Ag (W:World)(base:Nat)(v:Value):Prop:= ∃p,v= .pointer (some ⟨p,0,none⟩)∧base≤p∧Loc W p (.bool false) yN (yi 0)
def BT (W:World)(base:Nat)(v:Value):Prop:= ∃p,v= .pointer (some ⟨p,0,none⟩)∧base≤p∧mL W p (.bool false) yN (yi 0) (.bool false) yN (yi 0)∧ZB6 W p
def V4 (W:World)(base:Nat)(v:Value):Prop:= ∃p,v= .pointer (some ⟨p,0,none⟩)∧base≤p∧Loc W p (.bool false) yN (yi 0)∧ZB W p
def RB6 (W:World)(v:Value)(x y:ak):Prop:= ∃p q,v= .agg #[.bool x.s,p,yi x.e,.bool y.s,q,yi y.e]∧Rd W .i64 p (Dg.dg 65536 x.n)∧Rd W .i64 q (Dg.dg 65536 y.n)
def Xy (n m:Nat)(ds:List Nat)(j g:Nat):Prop:=Dg.Small 10 ds∧j≤4∧g<10^ (4-j)∧n=Dg.vl 10 ds+10^ds.length*(g+10^ (4-j)*m)
theorem So (w:World)(base e g:Nat)(hb:base≤w.heap.size):Own (w.alloc (.cells #[.int .u8 (48+(g:Int) % 10)] e)) base e .u8 (.slice (some ⟨w.heap.size,0,none⟩) 1 1) [48+g % 10]:=by
 have:=World.ownsRow_lit (e:=e) (size:=1) (base:=base) w #[.int .u8 (48+(g:Int) % 10)] 1 hb (by unfold maxLen;omega) rfl;have e1:(48+(g:Int) % 10)=((48+g % 10:Nat):Int):=by omega
 rw[e1] at this⊢;exact this
def dqN (x:ak):Nat:=x.n*2^x.e.toNat
def dqD (x:ak):Nat:=2^ (-x.e).toNat
theorem dqN_in {x:ak}{a c:Nat}(ha:a=64)(hc:c=16564)(hx:x.n<2^a)(e1: -16500≤x.e)(e2:x.e≤16500):dqN x<2^c∧dqD x≤2^c∧0<dqD x:=by
 obtain⟨f,hf⟩: ∃f,f=16500:=⟨_,rfl⟩;refine⟨?_, ?_,Nat.pow_pos (by omega)⟩
 ·have:2^c=2^a*2^f:=by rw[←Nat.pow_add];congr 1;omega
  rw[this];exact Nat.mul_lt_mul_of_lt_of_le hx (Nat.pow_le_pow_right (by omega) (by omega)) (Nat.pow_pos (by omega))
 ·exact Nat.pow_le_pow_right (by omega) (by omega)
theorem dg_ten {n:Nat}(h:n≠0):Dg.dg 10 n=n % 10::Dg.dg 10 (n/10):=by
 obtain⟨m,rfl⟩: ∃m,n=m+1:=⟨n-1,by omega⟩;have hm:(m+1)/10≤m:=by omega
 have:=Dg.dg_vl 10 (by omega) (Dg.dgF 10 m ((m+1)/10)) (Dg.small_dgF 10 (by omega) _ _) (Dg.norm_dgF 10 (by omega) _ _ hm);rw[Dg.vl_dgF 10 (by omega) _ _ hm] at this;rw[this]
 show(if m+1=0 then[] else(m+1) % 10::Dg.dgF 10 m ((m+1)/10))=_
 rw[if_neg h]
theorem dec_list (n:Nat):n≠0→((Dg.dg 10 n).map (fun d=>48+d)).reverse.map (fun d=>UInt8.ofNat d)=Lib.decDigits n:=by
 induction n using Nat.strongRecOn with
 |_ n ih=>
  intro h;rw[dg_ten h]
  by_cases h10:n<10
  ·rw[Lib.decDigits_one h10,show n/10=0 by omega,show n % 10=n by omega,Dg.dg_zero]
   rfl
  ·rw[Lib.decDigits,dif_neg h10,←ih (n/10) (by omega) (by omega)]
   simp
def dyC (t:ak)(v:Value):List Value:=(ydL t.s v t.e)
def RowAt (w:World)(g:Option Nat)(v:Value)(zs:List Nat):Prop:=Rd w .u32 v zs∧ ∀b,g=some b→wF b v zs
theorem RowAt.new {w w':World}{g:Option Nat}{v:Value}{zs:List Nat}(h:Rd w' .u32 v zs)(hf:Far w.heap.size v)(hl: ∀b,g=some b→b<w.heap.size):RowAt w' g v zs:=
 ⟨h,fun b hb _ a n c hv=>by
  have:=hf a n c hv;have:=hl b hb;omega⟩
def DysAt (w:World)(g:Option Nat):List ak→List Value→Prop
 | [],cs=>cs=[]
 |t::ts,cs=> ∃so sc rest,cs=dyC t (yT so t.n sc)++rest∧RowAt w g (yT so t.n sc) (Dg.dg 4294967296 t.n)∧DysAt w g ts rest
theorem DysAt.app {w:World}{g:Option Nat}{us:List ak}{ds:List Value}(hd:DysAt w g us ds): ∀{ts:List ak} {cs:List Value},DysAt w g ts cs→DysAt w g (ts++us) (cs++ds)
 | [],cs,hc=>by
  have:cs=[]:=hc;subst this;exact hd
 |_::_,_,hc=>by
  obtain⟨so,sc,rest,h1,h2,h3⟩:=hc;subst h1;exact⟨so,sc,rest++ds,by simp,h2,DysAt.app hd h3⟩
def HdI (base:Nat)(ts:List ak)(lv:Value)(w:World):Prop:= ∃cs,w.ownsRow base 78 3 lv ts.length cs∧DysAt w lv.ownBlock ts cs
theorem HdI.lt {base:Nat}{ts:List ak}{lv:Value}{w:World}(h:HdI base ts lv w)(b:Nat)(hb:lv.ownBlock=some b):base≤b∧b<w.heap.size:=by
 obtain⟨cs,h1,-⟩:=h;exact World.ownsRow.lt h1 b hb
theorem hd_nil (base:Nat)(w:World):HdI base [] yN w:=⟨[],World.ownsRow_nil _ _ _ 3,rfl⟩
theorem DysAt.len {w:World}{g:Option Nat}: ∀{ts:List ak} {cs:List Value},DysAt w g ts cs→cs.length=ts.length*3
 | [],cs,hc=>by
  have:cs=[]:=hc;subst this;rfl
 |t::ts,cs,hc=>by
  obtain⟨so,sc,rest,h1,h2,h3⟩:=hc;have:=DysAt.len h3;subst h1;simp[dyC];omega
def HdRes (w:World)(ts:List ak)(z:Ending)(w':World):Prop:= ∃v,z= .returned v∧HdI w.heap.size ts v w'∧yB w w'
structure DysV (w:World) (ts:List ak) (g cap:Nat):Prop where
 fit:ts.length≤cap
 most:cap≤maxLen
 each: ∀(i:Nat) t,ts[i]? =some t→ ∃so sc,w.rangeAt g (i*3) (dyC t (yT so t.n sc))∧Rd w .u32 (yT so t.n sc) (Dg.dg 4294967296 t.n)
def hdB (nb:Nat→Int→ak)(L G:Int)(d i:Nat):List ak:=[nb d (L+(i:Int)),nb d (G-(i:Int))]
def hdD (nb:Nat→Int→ak)(L G:Int)(d:Nat):Nat→List ak
 |0=>[]
 |i+1=>hdD nb L G d i++hdB nb L G d i
def hdF (nb:Nat→Int→ak)(L G:Int)(U:Nat)(ts:List ak):Nat→List ak
 |0=>ts
 |i+1=>hdF nb L G U ts i++hdD nb L G (U*2^i+1) 4
theorem dg32_one:Dg.dg 4294967296 1=[1]:=by decide
def HdW (w:World)(lv one up:Value)(U:Nat)(cs:List Value)(ts:List ak)(wr:World):Prop:=
 yB w wr∧au wr w.heap.size 82 cs∧HdI (w.heap.size+1) ts lv wr∧RowAt wr lv.ownBlock one [1]∧RowAt wr lv.ownBlock up (Dg.dg 4294967296 U)
theorem hdW_mk {w wr:World}{lv one up:Value}{U:Nat}{cs:List Value}{ts:List ak}(h1:yB w wr)(h2:au wr w.heap.size 82 cs)(h3:HdI (w.heap.size+1) ts lv wr)(h4:RowAt wr lv.ownBlock one [1])(h5:RowAt wr lv.ownBlock up (Dg.dg 4294967296 U)):HdW w lv one up U cs ts wr:=⟨h1,h2,h3,h4,h5⟩
theorem HdW.lt {w wr:World}{lv one up:Value}{U:Nat}{cs:List Value}{ts:List ak}(h:HdW w lv one up U cs ts wr)(b:Nat)(hb:lv.ownBlock=some b):w.heap.size+1≤b∧b<wr.heap.size:=h.2.2.1.lt b hb
def FromI (d x:Nat)(ys:List Nat):Prop:=Dg.vl 65536 ys+65536^ys.length*x=d∧Dg.Small 65536 ys∧(x=0→Dg.Norm ys)
theorem vl_snoc (B:Nat): ∀(l:List Nat) (x:Nat),Dg.vl B (l++[x])=Dg.vl B l+B^l.length*x
 | [],x=>by simp[Dg.vl]
 |a::l,x=>by
  show a+B*Dg.vl B (l++[x])=a+B*Dg.vl B l+B^ (l.length+1)*x
  rw[vl_snoc B l x,Nat.mul_add,Nat.pow_succ,Nat.mul_comm (B^l.length) B,Nat.mul_assoc,Nat.add_assoc]
theorem fromI_step {d x:Nat}{ys:List Nat}(h:FromI d x ys)(hx:x≠0):FromI d (x/65536) (ys++[x % 65536]):=by
 obtain⟨h1,h2,-⟩:=h;refine⟨?_, ?_,fun h0=> ?_⟩
 ·rw[vl_snoc,List.length_append,List.length_singleton,Nat.pow_succ,Nat.mul_assoc,Nat.add_assoc,←Nat.mul_add,show x % 65536+65536*(x/65536)=x by omega]
  exact h1
 ·intro i
  rcases Nat.lt_trichotomy i ys.length with c|c|c
  ·have:=h2 i
   rw[List.getD_eq_getElem?_getD,List.getElem?_append_left c,←List.getD_eq_getElem?_getD];exact this
  ·subst c
   rw[List.getD_eq_getElem?_getD,List.getElem?_append_right (Nat.le_refl _)];simp;omega
  ·rw[List.getD_eq_getElem?_getD,List.getElem?_eq_none (by simp;omega)]
   simp
 ·have e:x % 65536=x:=by omega
  rw[e];intro _;simp[hx]
theorem fromI_end {d:Nat}{ys:List Nat}(h:FromI d 0 ys):ys=Dg.dg 65536 d:=by
 obtain⟨h1,h2,h3⟩:=h;rw[Nat.mul_zero,Nat.add_zero] at h1;rw[←h1,Dg.dg_vl 65536 (by omega) ys h2 (h3 rfl)]
theorem fromI_len {d x:Nat}{ys:List Nat}(h:FromI d x ys)(hx:x≠0)(hd:d<18446744073709551616):ys.length≤3:=by
 refine Nat.le_of_not_lt fun c=> ?_
 have h1:65536^4≤65536^ys.length:=Nat.pow_le_pow_right (by omega) c;have h2:65536^ys.length*1≤65536^ys.length*x:=Nat.mul_le_mul_left _ (by omega);have h3:=h.1;have h4:(65536:Nat)^4=18446744073709551616:=by decide
 omega
def intT (n:Int):ak:=⟨decide (n<0),n.natAbs,0⟩
end Go.Proofs.YtlgkfdcmokchgaaGreatDoor
