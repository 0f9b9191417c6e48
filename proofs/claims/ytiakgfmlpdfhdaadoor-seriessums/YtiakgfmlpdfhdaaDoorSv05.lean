/-
  Texts laid together: Mem, Dz, Div1, DivBy, Add, Minus, Dy2, Dy3, Dy9, Dl8, Bl1, Bl6, Bm1, Bs1, Long, Into1.
-/
import Derived.Test.YtiakgfmlpdfhdaaDoorSv02
import Derived.Test.YtiakgfmlpdfhdaaDoorSv04
namespace Go.Proofs.YtiakgfmlpdfhdaaDoor
open Go.RowKit
theorem Own.lower {w:World}{base base' e:Nat}{k:IntKind}{v:Value}{zs:List Nat}(h:Own w base e k v zs)(hb:base'≤base):Own w base' e k v zs:=by
 obtain⟨h1,h2⟩:=h;refine⟨h1, ?_⟩
 rcases h2 with h2| ⟨g,cap,cur,hv,hbg,r⟩
 ·exact .inl h2
 ·exact .inr ⟨g,cap,cur,hv,by omega,r⟩
def V (K:Nat)(a:ak):Int:=sz a.s a.n*((2^ (a.e+K).toNat:Nat):Int)
theorem eV (K:Nat)(a:ak):V K a=sz a.s (a.n*2^ (a.e+K).toNat):=Y5 _ _ _
def aG (a b:ak):ak:=
 let e:=min a.e b.e
 let x:=a.n*2^ (a.e-e).toNat
 let y:=b.n*2^ (b.e-e).toNat
 if a.s=b.s then⟨a.s,x+y,e⟩ else if x<y then⟨b.s,y-x,e⟩ else⟨a.s,x-y,e⟩
theorem adk {K:Nat}{a:ak}{e:Int}(h1: -(K:Int)≤e)(h2:e≤a.e):V K a=sz a.s (a.n*2^ (a.e-e).toNat)*((2^ (e+K).toNat:Nat):Int):=by
 rw[eV,Y5,Nat.mul_assoc,←Nat.pow_add];have:(a.e+K).toNat=(a.e-e).toNat+(e+K).toNat:=by omega
 rw[this]
theorem dH {K:Nat}{a b:ak}(ha: -(K:Int)≤a.e)(hb: -(K:Int)≤b.e):V K (aG a b)=V K a+V K b:=by
 have h0: -(K:Int)≤min a.e b.e:=by omega
 rw[adk h0 (Int.min_le_left a.e b.e),adk h0 (Int.min_le_right a.e b.e),←Int.add_mul,Y6];unfold aG V;simp only
 split
 ·rfl
 ·split<;>rfl
def cO (a b:ak):ak:=
 let e0:=min a.e b.e
 let e1:=if a.n=0 then b.e else e0
 let e:=if b.n=0 then a.e else e1
 let x:=a.n*2^ (max 0 (a.e-e)).toNat
 let y:=b.n*2^ (max 0 (b.e-e)).toNat
 if a.s=b.s then⟨a.s,x+y,e⟩ else if y≤x then⟨a.s,x-y,e⟩ else⟨b.s,y-x,e⟩
theorem acz {K:Nat}{a:ak}{e:Int}(h1: -(K:Int)≤e)(h2:a.n=0∨e≤a.e):V K a=sz a.s (a.n*2^ (max 0 (a.e-e)).toNat)*((2^ (e+K).toNat:Nat):Int):=by
 rcases h2 with h2|h2
 ·rw[eV,h2,Nat.zero_mul,Nat.zero_mul];simp[sz]
 ·rw[adk h1 h2]
  have:max 0 (a.e-e)=a.e-e:=by omega
  rw[this]
theorem zx {K:Nat}{a b:ak}(ha: -(K:Int)≤a.e)(hb: -(K:Int)≤b.e):V K (cO a b)=V K a+V K b:=by
 obtain⟨e,he⟩: ∃e,(if b.n=0 then a.e else if a.n=0 then b.e else min a.e b.e)=e:=⟨_,rfl⟩
 have h0: -(K:Int)≤e:=by rw[←he];split<;>(try split)<;>omega
 have h1:a.n=0∨e≤a.e:=by
  rw[←he]
  by_cases x:b.n=0
  ·rw[if_pos x];exact .inr (Int.le_refl _)
  ·rw[if_neg x]
   by_cases y:a.n=0
   ·exact .inl y
   ·rw[if_neg y];exact .inr (Int.min_le_left _ _)
 have h2:b.n=0∨e≤b.e:=by
  rw[←he]
  by_cases x:b.n=0
  ·exact .inl x
  ·rw[if_neg x]
   by_cases y:a.n=0
   ·rw[if_pos y];exact .inr (Int.le_refl _)
   ·rw[if_neg y];exact .inr (Int.min_le_right _ _)
 rw[acz h0 h1,acz h0 h2,←Int.add_mul,Y6];unfold cO V;simp only[he]
 split
 ·rfl
 ·by_cases hle:b.n*2^ (max 0 (b.e-e)).toNat≤a.n*2^ (max 0 (a.e-e)).toNat
  ·rw[if_pos hle,if_neg (by omega)]
  ·rw[if_neg hle,if_pos (by omega)]
theorem zy {K:Nat}{a b:ak}(ha: -(K:Int)≤a.e)(hb: -(K:Int)≤b.e): -(K:Int)≤(cO a b).e:=by
 obtain⟨e,he⟩: ∃e,(if b.n=0 then a.e else if a.n=0 then b.e else min a.e b.e)=e:=⟨_,rfl⟩
 have h0: -(K:Int)≤e:=by rw[←he];split<;>(try split)<;>omega
 have h:(cO a b).e=e:=by
  unfold cO;simp only[he]
  by_cases h1:a.s=b.s
  ·rw[if_pos h1]
  ·rw[if_neg h1]
   by_cases h2:b.n*2^ (max 0 (b.e-e)).toNat≤a.n*2^ (max 0 (a.e-e)).toNat
   ·rw[if_pos h2]
   ·rw[if_neg h2]
 rw[h];exact h0
def aK (a b:ak):ak:=⟨a.s != b.s,a.n*b.n,a.e+b.e⟩
def dV (a:ak):ak:=⟨!a.s,a.n,a.e⟩
theorem pC (K:Nat)(a:ak):V K (dV a)= -V K a:=by
 unfold V dV sz
 cases a.s<;>simp[Int.neg_mul]
theorem Di (K:Nat)(a:ak):sgn (V K a)=if a.n=0 then 0 else if a.s then-1 else 1:=by
 rw[eV];have p1:0<2^ (a.e+K).toNat:=Nat.pow_pos (by omega)
 by_cases h:a.n=0
 ·rw[if_pos h,h,Nat.zero_mul];simp[sz,sgn]
 ·rw[if_neg h]
  have hne:0<a.n*2^ (a.e+K).toNat:=Nat.mul_pos (by omega) p1;generalize a.n*2^ (a.e+K).toNat=q at hne;unfold sz sgn
  cases a.s
  ·simp;omega
  ·simp;omega
theorem pr {w:World}{base e:Nat}{k:IntKind}{g:Nat}{zs:List Nat}(h:w.heap[g]? =some (.cells (zs.map (fun n:Nat=>Value.int k (n:Int))).toArray e (0,0)))(hb:base≤g)(hm:zs.length≤maxLen):
  Own w base e k (.slice (some ⟨g,0,none⟩) zs.length zs.length) zs:=by
 refine⟨by simp,.inr ⟨g,_,_,rfl,hb,h,Nat.le_refl _,hm,by simp, ?_⟩⟩;simp only[Nat.mul_one];exact List.take_of_length_le (by simp)
theorem Nv (w:World)(g:Nat)(old cs:Array Value)(t:TypeId)(hg:w.heap[g]? =some (.cells old t (0,0))):(w.setRow g cs).heap[g]? =some (.cells cs t (0,0)):=by
 simp[World.setRow,Array.getElem?_modify,hg]
theorem eF {w w1 w2:World}{g:Option Nat}(h:w.grownBy w1 g)(k:w1.grownBy w2 g):w.grownBy w2 g:=
 ⟨k.os.trans h.os,k.tape.trans h.tape,k.output.trans h.output,Nat.le_trans h.size k.size,fun i hi hne=>(k.block i (Nat.lt_of_lt_of_le hi h.size) hne).trans (h.block i hi hne)⟩
theorem NE (x y c:Nat)(hx:x<4294967296)(hy:y<4294967296)(hc:c≤1):
  bits .or .u32 (bits .and .u32 (bits .xor .u32 IntKind.u32.max x) y) (bits .and .u32 (bits .xor .u32 IntKind.u32.max (bits .xor .u32 x y)) (((x:Int)-(y:Int)-(c:Int)) % 4294967296))/2147483648=((brw x y c:Nat):Int):=by
 have hM:IntKind.u32.max=((4294967295:Nat):Int):=by decide
 have hd:((x:Int)-(y:Int)-(c:Int)) % 4294967296=(((x+4294967296-y-c) % 4294967296:Nat):Int):=by omega
 have hdl:(x+4294967296-y-c) % 4294967296<4294967296:=Nat.mod_lt _ (by omega);have h1:(4294967295^^^x)<2^32:=Nat.xor_lt_two_pow (by omega) (by omega);have h2:(x^^^y)<2^32:=Nat.xor_lt_two_pow (by omega) (by omega);have h3:(4294967295^^^ (x^^^y))<2^32:=Nat.xor_lt_two_pow (by omega) h2;have h4:((4294967295^^^x)&&& y)<2^32:=Nat.and_lt_two_pow _ (by omega);have h5:((4294967295^^^ (x^^^y))&&& ((x+4294967296-y-c) % 4294967296))<2^32:=Nat.and_lt_two_pow _ (by omega);rw[hM,hd,u32_xor_nat _ _ (by omega) (by omega),u32_xor_nat _ _ (by omega) (by omega),u32_xor_nat _ _ (by omega) (by omega),u32_and_nat _ _ (by omega) (by omega),u32_and_nat _ _ (by omega) (by omega),u32_or_nat _ _ (by omega) (by omega)];rw[←QS x y c _ hx hy hc rfl];exact(Int.natCast_ediv _ _).symm
theorem RN (x y c:Nat):brw x y c≤1:=by unfold brw;split<;>omega
theorem aA (w:World)(v0 v1 v2:Value)(ty:TypeId):Loc (w.alloc (.cells #[v0,v1,v2] ty)) w.heap.size v0 v1 v2:=by
 refine⟨by simp[World.size_alloc],⟨?_, ?_, ?_⟩, ?_, ?_, ?_⟩
 ·rw[World.cell?_alloc_at _ _ _ _ rfl];rfl
 ·rw[World.cell?_alloc_at _ _ _ _ rfl];rfl
 ·rw[World.cell?_alloc_at _ _ _ _ rfl];rfl
 ·exact World.frozen?_alloc_at _ _ _ _ rfl
 ·exact World.frozen?_alloc_at _ _ _ _ rfl
 ·exact World.frozen?_alloc_at _ _ _ _ rfl
theorem aD {w:World}{b:Nat}{v0 v1 v2:Value}(h:Loc w b v0 v1 v2)(x0 x1 x2:Value):
  Loc (((w.setCell ⟨b,0,none⟩ x0).setCell ⟨b,1,none⟩ x1).setCell ⟨b,2,none⟩ x2) b x0 x1 x2:=by
 obtain⟨hl,⟨c0,c1,c2⟩,f0,f1,f2⟩:=h;refine⟨by simpa using hl,⟨?_, ?_, ?_⟩, ?_, ?_, ?_⟩
 ·rw[World.cell?_setCell_other (h:=by simp),World.cell?_setCell_other (h:=by simp)]
  exact World.cell?_setCell_same _ _ _ c0
 ·have k1:(w.setCell ⟨b,0,none⟩ x0).cell? ⟨b,1,none⟩=some v1:=by rw[World.cell?_setCell_other (h:=by simp)];exact c1
  rw[World.cell?_setCell_other (h:=by simp)];exact World.cell?_setCell_same _ _ _ k1
 ·have k2:((w.setCell ⟨b,0,none⟩ x0).setCell ⟨b,1,none⟩ x1).cell? ⟨b,2,none⟩=some v2:=by rw[World.cell?_setCell_other (h:=by simp),World.cell?_setCell_other (h:=by simp)];exact c2
  exact World.cell?_setCell_same _ _ _ k2
 ·simpa using f0
 ·simpa using f1
 ·simpa using f2
theorem Own.apart {w w':World}{base e b:Nat}{k:IntKind}{v:Value}{zs:List Nat}(h:Own w base e k v zs)(hg:w.grownBy w' (some b))(hb:b<base):Own w' base e k v zs:=by
 obtain⟨hl,h2⟩:=h;refine⟨hl, ?_⟩
 rcases h2 with h2| ⟨g',cap',cur,hv,hbg,hh,r⟩
 ·exact .inl h2
 ·refine .inr ⟨g',cap',cur,hv,hbg, ?_,r⟩
  have hlt:g'<w.heap.size:=by
   rw[Array.getElem?_eq_some_iff] at hh;exact hh.1
  rw[hg.block g' hlt (by intro e;cases e;omega)]
  exact hh
theorem Loc.apart {w:World}{b c:Nat}{v0 v1 v2:Value}(h:Loc w b v0 v1 v2)(hne:c≠b)(x0 x1 x2:Value):
  Loc (((w.setCell ⟨c,0,none⟩ x0).setCell ⟨c,1,none⟩ x1).setCell ⟨c,2,none⟩ x2) b v0 v1 v2:=by
 obtain⟨hl,⟨c0,c1,c2⟩,f0,f1,f2⟩:=h;refine⟨by simpa using hl,⟨?_, ?_, ?_⟩,by simpa using f0,by simpa using f1,by simpa using f2⟩
 ·rw[World.cell?_setCell_other (h:=by simp),World.cell?_setCell_other (h:=by simp),World.cell?_setCell_other (h:=by simp)];exact c0
 ·rw[World.cell?_setCell_other (h:=by simp),World.cell?_setCell_other (h:=by simp),World.cell?_setCell_other (h:=by simp)];exact c1
 ·rw[World.cell?_setCell_other (h:=by simp),World.cell?_setCell_other (h:=by simp),World.cell?_setCell_other (h:=by simp)];exact c2
def dJ (t:ak):Int:=if t.n=0 then 0 else if t.s then-1 else 1
theorem CB (a b:ak):dJ (aG a (dV b))=sgn (V (a.e.natAbs+b.e.natAbs) a-V (a.e.natAbs+b.e.natAbs) b):=by
 have h1: -((a.e.natAbs+b.e.natAbs:Nat):Int)≤a.e:=by omega
 have h2: -((a.e.natAbs+b.e.natAbs:Nat):Int)≤(dV b).e:=by show _≤b.e;omega
 have h3:=dH h1 h2;rw[pC] at h3;have h4:=Di (a.e.natAbs+b.e.natAbs) (aG a (dV b));rw[h3] at h4;unfold dJ;rw[←h4]
 congr 1
def dB (t:ak):ak:=⟨!t.s&&decide (0<t.n),t.n,t.e⟩
theorem EI (K:Nat)(t:ak):V K (dB t)= -V K t:=by
 rw[←pC,eV,eV];unfold dB dV;simp only
 by_cases h:0<t.n
 ·simp[h]
 ·have h0:t.n=0:=by omega
  rw[h0,Nat.zero_mul];simp[sz]
theorem acR (K:Nat)(t:ak):dJ t=sgn (V K t):=(Di K t).symm
def mL (w:World)(b:Nat)(v0 v1 v2 v3 v4 v5:Value):Prop:=
 b<w.heap.size∧(w.cell? ⟨b,0,none⟩=some v0∧w.cell? ⟨b,1,none⟩=some v1∧w.cell? ⟨b,2,none⟩=some v2∧w.cell? ⟨b,3,none⟩=some v3∧w.cell? ⟨b,4,none⟩=some v4∧w.cell? ⟨b,5,none⟩=some v5)∧
  (w.frozen? ⟨b,0,none⟩=false∧w.frozen? ⟨b,1,none⟩=false∧w.frozen? ⟨b,2,none⟩=false∧w.frozen? ⟨b,3,none⟩=false∧w.frozen? ⟨b,4,none⟩=false∧w.frozen? ⟨b,5,none⟩=false)
theorem aJ (w:World)(v0 v1 v2 v3 v4 v5:Value)(ty:TypeId):mL (w.alloc (.cells #[v0,v1,v2,v3,v4,v5] ty)) w.heap.size v0 v1 v2 v3 v4 v5:=by
 refine⟨by simp[World.size_alloc],⟨?_, ?_, ?_, ?_, ?_, ?_⟩, ?_, ?_, ?_, ?_, ?_, ?_⟩
 all_goals first| (rw[World.cell?_alloc_at _ _ _ _ rfl];rfl)|simp
theorem bP {w:World}{b:Nat}{v0 v1 v2 v3 v4 v5:Value}(h:mL w b v0 v1 v2 v3 v4 v5)(x0 x1 x2 x3 x4 x5:Value):
  mL ((((((w.setCell ⟨b,0,none⟩ x0).setCell ⟨b,1,none⟩ x1).setCell ⟨b,2,none⟩ x2).setCell ⟨b,3,none⟩ x3).setCell ⟨b,4,none⟩ x4).setCell ⟨b,5,none⟩ x5) b x0 x1 x2 x3 x4 x5:=by
 obtain⟨hl,⟨c0,c1,c2,c3,c4,c5⟩,f0,f1,f2,f3,f4,f5⟩:=h;refine⟨by simpa using hl,⟨?_, ?_, ?_, ?_, ?_, ?_⟩,by simpa using f0,by simpa using f1,by simpa using f2,by simpa using f3,by simpa using f4,by simpa using f5⟩
 ·have k:w.cell? ⟨b,0,none⟩=some v0:=by exact c0
  rw[World.cell?_setCell_other (h:=by simp),World.cell?_setCell_other (h:=by simp),World.cell?_setCell_other (h:=by simp),World.cell?_setCell_other (h:=by simp),World.cell?_setCell_other (h:=by simp)];exact World.cell?_setCell_same _ _ _ k
 ·have k:(w.setCell ⟨b,0,none⟩ x0).cell? ⟨b,1,none⟩=some v1:=by rw[World.cell?_setCell_other (h:=by simp)];exact c1
  rw[World.cell?_setCell_other (h:=by simp),World.cell?_setCell_other (h:=by simp),World.cell?_setCell_other (h:=by simp),World.cell?_setCell_other (h:=by simp)];exact World.cell?_setCell_same _ _ _ k
 ·have k:((w.setCell ⟨b,0,none⟩ x0).setCell ⟨b,1,none⟩ x1).cell? ⟨b,2,none⟩=some v2:=by rw[World.cell?_setCell_other (h:=by simp),World.cell?_setCell_other (h:=by simp)];exact c2
  rw[World.cell?_setCell_other (h:=by simp),World.cell?_setCell_other (h:=by simp),World.cell?_setCell_other (h:=by simp)];exact World.cell?_setCell_same _ _ _ k
 ·have k:(((w.setCell ⟨b,0,none⟩ x0).setCell ⟨b,1,none⟩ x1).setCell ⟨b,2,none⟩ x2).cell? ⟨b,3,none⟩=some v3:=by rw[World.cell?_setCell_other (h:=by simp),World.cell?_setCell_other (h:=by simp),World.cell?_setCell_other (h:=by simp)];exact c3
  rw[World.cell?_setCell_other (h:=by simp),World.cell?_setCell_other (h:=by simp)];exact World.cell?_setCell_same _ _ _ k
 ·have k:((((w.setCell ⟨b,0,none⟩ x0).setCell ⟨b,1,none⟩ x1).setCell ⟨b,2,none⟩ x2).setCell ⟨b,3,none⟩ x3).cell? ⟨b,4,none⟩=some v4:=by rw[World.cell?_setCell_other (h:=by simp),World.cell?_setCell_other (h:=by simp),World.cell?_setCell_other (h:=by simp),World.cell?_setCell_other (h:=by simp)];exact c4
  rw[World.cell?_setCell_other (h:=by simp)];exact World.cell?_setCell_same _ _ _ k
 ·have k:(((((w.setCell ⟨b,0,none⟩ x0).setCell ⟨b,1,none⟩ x1).setCell ⟨b,2,none⟩ x2).setCell ⟨b,3,none⟩ x3).setCell ⟨b,4,none⟩ x4).cell? ⟨b,5,none⟩=some v5:=by rw[World.cell?_setCell_other (h:=by simp),World.cell?_setCell_other (h:=by simp),World.cell?_setCell_other (h:=by simp),World.cell?_setCell_other (h:=by simp),World.cell?_setCell_other (h:=by simp)];exact c5
  exact World.cell?_setCell_same _ _ _ k
def bJ (a b:ak):Int:=dJ (aG a (dV b))
def loI (x:Nat→ak):Nat→Nat
 |0=>0
 |i+1=>if bJ (x (i+1)) (x (loI x i))<0 then i+1 else loI x i
def hiI (x:Nat→ak):Nat→Nat
 |0=>0
 |i+1=>if 0<bJ (x (i+1)) (x (hiI x i)) then i+1 else hiI x i
theorem tB (x:Nat→ak)(i:Nat):loI x i≤i:=by
 induction i with
 |zero=>exact Nat.le_refl _
 |succ i ih=>unfold loI;split<;>omega
theorem wN (x:Nat→ak)(i:Nat):hiI x i≤i:=by
 induction i with
 |zero=>exact Nat.le_refl _
 |succ i ih=>unfold hiI;split<;>omega
theorem mL.apart3h {w:World}{b c:Nat}{v0 v1 v2 v3 v4 v5:Value}(h:mL w b v0 v1 v2 v3 v4 v5)(hne:c≠b)(x0 x1 x2:Value):
  mL (((w.setCell ⟨c,3,none⟩ x0).setCell ⟨c,4,none⟩ x1).setCell ⟨c,5,none⟩ x2) b v0 v1 v2 v3 v4 v5:=by
 obtain⟨hl,⟨c0,c1,c2,c3,c4,c5⟩,f0,f1,f2,f3,f4,f5⟩:=h;refine⟨by simpa using hl,⟨?_, ?_, ?_, ?_, ?_, ?_⟩,by simpa using f0,by simpa using f1,by simpa using f2,by simpa using f3,by simpa using f4,by simpa using f5⟩
 all_goals (rw[World.cell?_setCell_other (h:=by simp),World.cell?_setCell_other (h:=by simp),World.cell?_setCell_other (h:=by simp)];assumption)
theorem Loc.apart3h {w:World}{b c:Nat}{v0 v1 v2:Value}(h:Loc w b v0 v1 v2)(_hne:c≠b)(x0 x1 x2:Value):
  Loc (((w.setCell ⟨c,3,none⟩ x0).setCell ⟨c,4,none⟩ x1).setCell ⟨c,5,none⟩ x2) b v0 v1 v2:=by
 obtain⟨hl,⟨c0,c1,c2⟩,f0,f1,f2⟩:=h;refine⟨by simpa using hl,⟨?_, ?_, ?_⟩,by simpa using f0,by simpa using f1,by simpa using f2⟩
 all_goals (rw[World.cell?_setCell_other (h:=by simp),World.cell?_setCell_other (h:=by simp),World.cell?_setCell_other (h:=by simp)];assumption)
theorem abg {w:World}{b:Nat}{v0 v1 v2 v3 v4 v5:Value}(h:mL w b v0 v1 v2 v3 v4 v5)(x0 x1 x2:Value):
  mL (((w.setCell ⟨b,0,none⟩ x0).setCell ⟨b,1,none⟩ x1).setCell ⟨b,2,none⟩ x2) b x0 x1 x2 v3 v4 v5:=by
 obtain⟨hl,⟨c0,c1,c2,c3,c4,c5⟩,f0,f1,f2,f3,f4,f5⟩:=h;refine⟨by simpa using hl,⟨?_, ?_, ?_, ?_, ?_, ?_⟩,by simpa using f0,by simpa using f1,by simpa using f2,by simpa using f3,by simpa using f4,by simpa using f5⟩
 ·rw[World.cell?_setCell_other (h:=by simp),World.cell?_setCell_other (h:=by simp)]
  exact World.cell?_setCell_same _ _ _ c0
 ·have k:(w.setCell ⟨b,0,none⟩ x0).cell? ⟨b,1,none⟩=some v1:=by rw[World.cell?_setCell_other (h:=by simp)];exact c1
  rw[World.cell?_setCell_other (h:=by simp)];exact World.cell?_setCell_same _ _ _ k
 ·have k:((w.setCell ⟨b,0,none⟩ x0).setCell ⟨b,1,none⟩ x1).cell? ⟨b,2,none⟩=some v2:=by rw[World.cell?_setCell_other (h:=by simp),World.cell?_setCell_other (h:=by simp)];exact c2
  exact World.cell?_setCell_same _ _ _ k
 all_goals (rw[World.cell?_setCell_other (h:=by simp),World.cell?_setCell_other (h:=by simp),World.cell?_setCell_other (h:=by simp)];assumption)
theorem Sy {w:World}{b:Nat}{v0 v1 v2 v3 v4 v5:Value}(h:mL w b v0 v1 v2 v3 v4 v5)(x0 x1 x2:Value):
  mL (((w.setCell ⟨b,3,none⟩ x0).setCell ⟨b,4,none⟩ x1).setCell ⟨b,5,none⟩ x2) b v0 v1 v2 x0 x1 x2:=by
 obtain⟨hl,⟨c0,c1,c2,c3,c4,c5⟩,f0,f1,f2,f3,f4,f5⟩:=h;refine⟨by simpa using hl,⟨?_, ?_, ?_, ?_, ?_, ?_⟩,by simpa using f0,by simpa using f1,by simpa using f2,by simpa using f3,by simpa using f4,by simpa using f5⟩
 ·rw[World.cell?_setCell_other (h:=by simp),World.cell?_setCell_other (h:=by simp),World.cell?_setCell_other (h:=by simp)];exact c0
 ·rw[World.cell?_setCell_other (h:=by simp),World.cell?_setCell_other (h:=by simp),World.cell?_setCell_other (h:=by simp)];exact c1
 ·rw[World.cell?_setCell_other (h:=by simp),World.cell?_setCell_other (h:=by simp),World.cell?_setCell_other (h:=by simp)];exact c2
 ·rw[World.cell?_setCell_other (h:=by simp),World.cell?_setCell_other (h:=by simp)]
  exact World.cell?_setCell_same _ _ _ c3
 ·have k:(w.setCell ⟨b,3,none⟩ x0).cell? ⟨b,4,none⟩=some v4:=by rw[World.cell?_setCell_other (h:=by simp)];exact c4
  rw[World.cell?_setCell_other (h:=by simp)];exact World.cell?_setCell_same _ _ _ k
 ·have k:((w.setCell ⟨b,3,none⟩ x0).setCell ⟨b,4,none⟩ x1).cell? ⟨b,5,none⟩=some v5:=by rw[World.cell?_setCell_other (h:=by simp),World.cell?_setCell_other (h:=by simp)];exact c5
  exact World.cell?_setCell_same _ _ _ k
theorem Own.other {w w':World}{base e:Nat}{k:IntKind}{b g n cap:Nat}{zs:List Nat}(h:Own w base e k (.slice (some ⟨b,0,none⟩) n cap) zs)(hg:w.grownBy w' (some g))(hne:b≠g):Own w' base e k (.slice (some ⟨b,0,none⟩) n cap) zs:=by
 have hb:=h.block;obtain⟨hl,h2⟩:=h;refine⟨hl, ?_⟩
 rcases h2 with h2| ⟨g',cap',cur,hv,hbg,hh,r⟩
 ·exact .inl h2
 ·refine .inr ⟨g',cap',cur,hv,hbg, ?_,r⟩
  simp at hv;rw[hg.block g' (by omega) (by intro e;cases e;omega)]
  exact hh
theorem Own.form {w:World}{base e:Nat}{k:IntKind}{v:Value}{zs:List Nat}(h:Own w base e k v zs)(hp:0<zs.length): ∃g cap,v= .slice (some ⟨g,0,none⟩) zs.length cap∧base≤g∧g<w.heap.size∧zs.length≤cap:=by
 have h0:=h;obtain⟨hl,h2⟩:=h
 rcases h2 with⟨_,h2⟩| ⟨g',cap',cur,rfl,hbg,hh,r⟩
 ·omega
 ·exact⟨g',cap',rfl,hbg,h0.block.2,r.1⟩
theorem Wo {w:World}{k:IntKind}{g n c:Nat}{zs:List Nat}(h:Rd w k (.slice (some ⟨g,0,none⟩) n c) zs)(i:Nat)(hi:i<zs.length):w.cell? ⟨g,i,none⟩=some (.int k ((zs.getD i 0:Nat):Int)):=by
 have hn:=wn h;subst hn;obtain⟨_,_,h3⟩:=iQ h;obtain⟨b,off,e,hc⟩:=h3 (by omega)
 cases e
 have:=hc i hi
 rwa [Nat.zero_add] at this
end Go.Proofs.YtiakgfmlpdfhdaaDoor
