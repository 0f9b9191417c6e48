/- Texts laid together. -/
import Derived.Laws.ResultCell
import Derived.ChangeMaps4
import Derived.Deep.DeepCutAuto
import Derived.Deep.RegionWith
import Derived.Laws.OwnMore
import Derived.Deep.AppendLies
import Derived.Laws.IdiomStrings
import Derived.Deep.CutBlock
import Derived.Lib.Strings
import Derived.Shelf.Lay
import Derived.Shelf.Strings.Cut
import Derived.Shelf.Small.Wraps
import Derived.Shelf.Strconv.Atoi
import Derived.Shelf.Strconv.Itoa3
import Derived.Lib.AppendIntMem
import Derived.Lib.SmallJoins
import Derived.Test.YtlhkndcmbpcpgaaGreatDoorRows
import Derived.Maps.AppendAt
import Derived.Lib.ItoaLen
import Derived.Test.YtlhkndcmbpcpgaaGreatDoorXs01
set_option maxRecDepth 100000
set_option maxHeartbeats 1600000
namespace Go.Proofs.YtlhkndcmbpcpgaaGreatDoor
open _root_.Go.Proofs.Tryz
open Go.RowKit
theorem Own.lower {w:World}{base b e:Nat}{k:IntKind}{v:Value}{zs:List Nat}(h:Own w base e k v zs)(i:b≤base):Own w b e k v zs:=by
 obtain⟨d,a⟩:=h;refine⟨d, ?_⟩
 rcases a with a| ⟨g,cap,c,f,j,r⟩
 ·exact .inl a
 ·exact .inr ⟨g,cap,c,f,by omega,r⟩
theorem Y5 (s:Bool)(n k:Nat):sz s n*(k:Int)=sz s (n*k):=by
 unfold sz
 cases s<;>simp[Int.neg_mul]
theorem QI {s t:Bool}{n m:Nat}(h:sz s n=sz t m)(a:n≠0):s=t∧n=m:=by
 unfold sz at h
 cases s<;>cases t<;>simp at h<;>first|exact⟨rfl,by omega⟩| (exfalso;omega)
def cO (a b:ak):ak:=
 let e0:=min a.e b.e
 let e1:=if a.n=0 then b.e else e0
 let e:=if b.n=0 then a.e else e1
 let x:=a.n*2^ (max 0 (a.e-e)).toNat
 let y:=b.n*2^ (max 0 (b.e-e)).toNat
 if a.s=b.s then⟨a.s,x+y,e⟩ else if y≤x then⟨a.s,x-y,e⟩ else⟨b.s,y-x,e⟩
theorem adl (B:Nat)(l:List Nat)(j:Nat)(a:0<B)(_hs:Dg.Small B l)(b:Dg.vl B l=0):l.getD j 0=0:=by
 by_cases h:j<l.length
 ·have c:=Dg.vl_split B l j h
  rw[b] at c;have d:B^j*l.getD j 0=0:=by
   rcases Nat.eq_zero_or_pos (l.getD j 0) with e|e
   ·rw[e,Nat.mul_zero]
   ·exfalso
    have g:0<B^j*l.getD j 0:=Nat.mul_pos (Nat.pow_pos a) e;have f:B^j*(l.getD j 0+B*Dg.vl B (l.drop (j+1)))=0:=by omega
    rw[Nat.mul_add] at f;omega
  rcases Nat.mul_eq_zero.1 d with e|e
  ·exact absurd e (Nat.ne_of_gt (Nat.pow_pos a))
  ·exact e
 ·simp[List.getD_eq_getElem?_getD,show l.length≤j from by omega]
abbrev yOL (c:Int)(g:Bool)(t:ak)(o:Option Addr)(k:Nat):List Value:=[.int .i64 c,.bool g,.bool t.s,.slice o (Dg.dg 4294967296 t.n).length k,.int .i64 t.e]
abbrev yOV (c:Int)(g:Bool)(t:ak)(o:Option Addr)(k:Nat):Value:= .agg #[.int .i64 c,.bool g,.bool t.s,.slice o (Dg.dg 4294967296 t.n).length k,.int .i64 t.e]
abbrev yOA (c:Int)(g:Bool)(t:ak)(o:Option Addr)(k:Nat):Array Value:= #[.int .i64 c,.bool g,.bool t.s,.slice o (Dg.dg 4294967296 t.n).length k,.int .i64 t.e]
abbrev yDL (t:ak)(o:Option Addr)(k:Nat):List Value:=[.bool t.s,.slice o (Dg.dg 4294967296 t.n).length k,.int .i64 t.e]
abbrev yDV (t:ak)(o:Option Addr)(k:Nat):Value:= .agg #[.bool t.s,.slice o (Dg.dg 4294967296 t.n).length k,.int .i64 t.e]
abbrev yDA (t:ak)(o:Option Addr)(k:Nat):Array Value:= #[.bool t.s,.slice o (Dg.dg 4294967296 t.n).length k,.int .i64 t.e]
def chk (zs:List Nat):Int:=if 0<zs.length∧zs.getD (zs.length-1) 0=0 then 1 else if 1200<zs.length then 2 else 0
theorem Oq {zs:List Nat}(h:0<zs.length)(a:zs.getD (zs.length-1) 0=0):chk zs=1:=by unfold chk;rw[if_pos ⟨h,a⟩]
theorem Ot {zs:List Nat}(a:zs.getD (zs.length-1) 0≠0)(h:1200<zs.length):chk zs=2:=by unfold chk;rw[if_neg (fun c=>a c.2),if_pos h]
theorem ZT {zs:List Nat}(a:zs.getD (zs.length-1) 0≠0)(h: ¬1200<zs.length):chk zs=0:=by unfold chk;rw[if_neg (fun c=>a c.2),if_neg h]
theorem pr {w:World}{base e:Nat}{k:IntKind}{g:Nat}{zs:List Nat}(h:w.heap[g]? =some (.cells (zs.map (fun n:Nat=>Value.int k (n:Int))).toArray e (0,0)))(a:base≤g)(b:zs.length≤maxLen):
  Own w base e k (.slice (some ⟨g,0,none⟩) zs.length zs.length) zs:=by
 refine⟨by simp,.inr ⟨g,_,_,rfl,a,h,Nat.le_refl _,b,by simp, ?_⟩⟩;simp only[Nat.mul_one];exact List.take_of_length_le (by simp)
theorem Nv (w:World)(g:Nat)(c a:Array Value)(t:TypeId)(b:w.heap[g]? =some (.cells c t (0,0))):(w.setRow g a).heap[g]? =some (.cells a t (0,0)):=by
 simp[World.setRow,Array.getElem?_modify,b]
theorem Ew {w w':World}(g:Option Nat)(h:yB w w'):w.grownBy w' g:=⟨h.os,h.tape,h.output,h.size,fun k a _=>h.block k a⟩
theorem eF {w c d:World}{g:Option Nat}(h:w.grownBy c g)(k:c.grownBy d g):w.grownBy d g:=
 ⟨k.os.trans h.os,k.tape.trans h.tape,k.output.trans h.output,Nat.le_trans h.size k.size,fun i a b=>(k.block i (Nat.lt_of_lt_of_le a h.size) b).trans (h.block i a b)⟩
def acQ (zs cur:List Nat)(d k r:Nat):Prop:=
 cur.length=zs.length∧Dg.Small 4294967296 cur∧r<d∧(∀j,j<k→cur.getD j 0=zs.getD j 0)∧Dg.vl 4294967296 (zs.drop k)=Dg.vl 4294967296 (cur.drop k)*d+r
theorem wX {B:Nat}{w a b:World}{g:Nat}(h:Below B w a)(c:B≤a.heap.size)(d:a.grownBy b (some g))(f:B≤g):Below B w b:=
 h.grown d c (fun k e=>by cases e;exact f)
theorem Own.shapeOf {w:World}{base e:Nat}{k:IntKind}{v:Value}{zs:List Nat}(h:Own w base e k v zs)(f:zs≠[]): ∃g cap,v= .slice (some ⟨g,0,none⟩) zs.length cap∧base≤g∧g<w.heap.size:=by
 rcases h.2 with⟨b,d⟩| ⟨g,cap,i,b,c,a,_⟩
 ·exact absurd (List.eq_nil_of_length_eq_zero d) f
 ·exact⟨g,cap,b,c,by rw[Array.getElem?_eq_some_iff] at a;exact a.1⟩
theorem ur (x y c:Nat)(w:World)(b:x<4294967296)(d:y<4294967296)(a:c≤1):
  yC 86 #[.int .u32 x,.int .u32 y,.int .u32 c] w fun e w'=>e= .returned (.tuple #[.int .u32 ((x+y+c) % 4294967296:Nat),.int .u32 ((x+y+c)/4294967296:Nat)])∧w'=w:=by
 go_enter func86,ntmps86
 go_wp2
 go_ret2
 exact⟨by go_num,rfl⟩
def Qv (xs ys ps:List Nat)(k c:Nat):Prop:=
 ps.length=xs.length+1∧Dg.Small 4294967296 ps∧c≤1∧Dg.vl 4294967296 (ps.take k)+4294967296^k*c=Dg.vl 4294967296 (xs.take k)+Dg.vl 4294967296 (ys.take k)
theorem sQ (l:List Nat)(k x:Nat)(h:k<l.length):Dg.vl 4294967296 ((l.set k x).take (k+1))=Dg.vl 4294967296 (l.take k)+4294967296^k*x:=by
 rw[Dg.vl_take_succ _ _ _ (by simpa using h),Dg.getD_set _ _ _ _ h,if_pos rfl,List.take_set_of_le (Nat.le_refl _)]
theorem pO (l:List Nat)(k:Nat):Dg.vl 4294967296 (l.take (k+1))=Dg.vl 4294967296 (l.take k)+4294967296^k*l.getD k 0:=by
 by_cases h:k<l.length
 ·exact Dg.vl_take_succ _ _ _ h
 ·rw[List.take_of_length_le (by omega),List.take_of_length_le (by omega),Dg.getD_of_le _ _ (by omega)];omega
theorem zq {xs a b:List Nat}{k c x y:Nat}(h:Qv xs a b k c)(o:k<xs.length)(g:xs.getD k 0=x)(i:a.getD k 0=y)(p:x<4294967296)(q:y<4294967296):
  Qv xs a (b.set k ((x+y+c) % 4294967296)) (k+1) ((x+y+c)/4294967296):=by
 obtain⟨d,f,m,n⟩:=h;refine⟨by simpa using d,Dg.small_set f _ _ (Nat.mod_lt _ (by omega)),by omega, ?_⟩;rw[sQ _ _ _ (by omega),pO xs,pO a,g,i];have e:4294967296^ (k+1)*((x+y+c)/4294967296)=4294967296^k*(4294967296*((x+y+c)/4294967296)):=by rw[Nat.pow_succ,Nat.mul_assoc]
 have j:4294967296^k*(x+y+c)=4294967296^k*((x+y+c) % 4294967296)+4294967296^k*(4294967296*((x+y+c)/4294967296)):=by
  rw[←Nat.mul_add,Nat.mod_add_div]
 have l:4294967296^k*(x+y+c)=4294967296^k*x+4294967296^k*y+4294967296^k*c:=by rw[Nat.mul_add,Nat.mul_add]
 rw[e];omega
theorem Nc {xs b a:List Nat}{c:Nat}(h:Qv xs b a xs.length c)(g:b.length≤xs.length):(a.set xs.length c).length=xs.length+1∧Dg.Small 4294967296 (a.set xs.length c)∧Dg.vl 4294967296 (a.set xs.length c)=Dg.vl 4294967296 xs+Dg.vl 4294967296 b:=by
 obtain⟨d,e,i,f⟩:=h;refine⟨by simpa using d,Dg.small_set e _ _ (by omega), ?_⟩;have:=sQ a xs.length c (by omega);rw[List.take_of_length_le (by simp;omega)] at this;rw[this];rw[List.take_of_length_le (Nat.le_refl xs.length),List.take_of_length_le g] at f;omega
def QA (xs ys ps:List Nat)(k c:Nat):Prop:=
 ps.length=k∧Dg.Small 65536 ps∧c≤1∧Dg.vl 65536 (xs.take k)+65536^k*c=Dg.vl 65536 ps+Dg.vl 65536 (ys.take k)
theorem Nl {xs a b:List Nat}{c:Nat}(h:QA xs a b xs.length c)(j:a.length≤xs.length)(m:Dg.vl 65536 a≤Dg.vl 65536 xs):Dg.vl 65536 b=Dg.vl 65536 xs-Dg.vl 65536 a:=by
 obtain⟨d,f,l,g⟩:=h;rw[List.take_of_length_le (Nat.le_refl xs.length),List.take_of_length_le j] at g;have k:=Dg.vl_lt 65536 b f;rw[d] at k;have i:c=0:=by
  rcases Nat.eq_zero_or_pos c with e|e
  ·exact e
  ·have:c=1:=by omega
   subst this;omega
 subst i;omega
theorem aH (B n m:Nat)(a:2≤B)(h:n≤m):(Dg.dg B n).length≤(Dg.dg B m).length:=by
 refine Dg.dg_len_le B n _ a ?_;have:=Dg.vl_lt B (Dg.dg B m) (Dg.small_dg B m a);rw[Dg.vl_dg B m a] at this;omega
theorem IL (B:Nat)(b:Nat)(f:B=2^b)(k:1<B)(zs:List Nat)(j:Dg.Small B zs)(g:Dg.Norm zs)(e:zs≠[]):bitLen (Dg.vl B zs)=b*(zs.length-1)+bitLen (zs.getD (zs.length-1) 0):=by
 have l:0<zs.length:=List.length_pos_iff.2 e;have a:=Dg.vl_split B zs (zs.length-1) (by omega);rw[show zs.length-1+1=zs.length from by omega,List.drop_of_length_le (Nat.le_refl _)] at a
 simp only[Dg.vl,Nat.mul_zero,Nat.add_zero] at a;have d:=Dg.vl_lt B (zs.take (zs.length-1)) (Dg.small_take j _ (by omega));rw[List.length_take,Nat.min_eq_left (by omega)] at d;have i:B^ (zs.length-1)=2^ (b*(zs.length-1)):=by rw[f,Nat.pow_mul]
 have c:Dg.vl B zs/2^ (b*(zs.length-1))=zs.getD (zs.length-1) 0:=by
  rw[←i,a,Nat.add_comm,Nat.mul_add_div (Nat.pow_pos (by omega)),Nat.div_eq_of_lt d,Nat.add_zero]
 have h:=g e;rw[bitLen_shift _ (b*(zs.length-1)) (by rw[c];exact h),c]
theorem Fr (n:Nat):(Dg.dg 65536 (2^n)).length≤n/16+1:=by
 refine Dg.dg_len_le _ _ _ (by omega) ?_;rw[show(65536:Nat)=2^16 from by decide,←Nat.pow_mul]
 exact Nat.pow_lt_pow_right (by omega) (by omega)
theorem Vp (x k a:Nat)(w:World)(g:((x:Int)==0)=false)
  (b:bits BinOp.and IntKind.u32 x (-(x:Int) % 4294967296)*125613361 % 4294967296/134217728=(a:Int))
  (d:a<32) (f:k<32) (c:w.cell? ⟨2,a,none⟩=some (.int .u8 k)):
  yC 169 #[.int .u32 x] w fun e w'=>e= .returned (yi k)∧w'=w:=by
 go_enter func169,ntmps169
 go_wp2_with (simp only[b])
 go_ret
 exact⟨rfl,rfl⟩
theorem Zw (x:Nat)(w:World)(b:x<4294967296)(c:x≠0)(h:Tab w):
  yC 169 #[.int .u32 x] w fun e w'=> ∃k m:Nat,e= .returned (yi k)∧x=2^k*(2*m+1)∧k<32∧w'=w:=by
 obtain⟨i,a⟩:=Lib.lowest_bit 32 x c b;obtain⟨f,l⟩:=Lib.deBruijn32_at _ a;obtain⟨m,j,_⟩:=Lib.ctzFrom_spec 32 x (by omega) b;have g:Lib.ctz 32 x=Lib.ctzFrom 32 x:=by simp[Lib.ctz,c]
 have d:=h _ f;rw[l] at d;refine(Vp x _ _ w (by simp;omega) (tz32_key x _ b c i) f a d).mono ?_;rintro e w' ⟨rfl,rfl⟩;exact⟨_,m,rfl,by rw[g];exact j,a,rfl⟩
def jN (w:World)(t:ak)(e:Ending)(w':World):Prop:= ∃s,e= .returned (ydV t.s s t.e)∧Own w' w.heap.size 105 .u32 s (Dg.dg 4294967296 t.n)∧yB w w'
theorem Own.apart {w w':World}{base e b:Nat}{k:IntKind}{v:Value}{zs:List Nat}(h:Own w base e k v zs)(i:w.grownBy w' (some b))(n:b<base):Own w' base e k v zs:=by
 obtain⟨j,c⟩:=h;refine⟨j, ?_⟩
 rcases c with c| ⟨a,cap',f,m,g,d,r⟩
 ·exact .inl c
 ·refine .inr ⟨a,cap',f,m,g, ?_,r⟩
  have l:a<w.heap.size:=by
   rw[Array.getElem?_eq_some_iff] at d;exact d.1
  rw[i.block a l (by intro e;cases e;omega)]
  exact d
theorem cN (b:Bool)(a:Option Addr)(n c:Nat)(e:Int)(w:World):yC 182 #[ydV b (.slice a n c) e] w (yR w (.slice a n c)):=by
 have d:yB w (w.alloc (.cells (ydA b (.slice a n c) e) 191)):=(Below.refl _ _).alloc (Nat.le_refl _) _
 go_enter func182,ntmps182
 go_wp2
 go_ret
 exact⟨rfl,d⟩
theorem l9 (b:Bool)(a:Option Addr)(n c:Nat)(e:Int)(w:World):yC 153 (ydA b (.slice a n c) e) w (yR w (ydV b (.slice a n c) e)):=by
 go_enter func153,ntmps153
 go_wp2
 go_returns
 exact⟨rfl,(Below.refl _ _).alloc (Nat.le_refl _) _⟩
theorem au.cs2 {w:World}{b:Nat}{e:TypeId}{a d:Value}{l:List Value}(h:au w b e (a::d::l)):w.cell? ⟨b,0,none⟩=some a∧w.cell? ⟨b,1,none⟩=some d:=⟨h.c 0 rfl,h.c 1 rfl⟩
theorem aX {w:World}{k:IntKind}{v:Value}{zs:List Nat}(h:Rd w k v zs){b:Nat}{q:TypeId}{i:List Value}(m:au w b q i)(p: ∀x∈i,∀n:Int,x≠ .int k n):wF b v zs:=fun f a n c o=>by
 obtain⟨r,cap,rfl,_,_,j⟩:=h;obtain⟨g,s,rfl,l⟩:=j f
 cases o
 have d:=l 0 f
 show g≠b
 intro e;subst e;unfold World.cell? at d;simp only at d;rw[m] at d;simp only[Option.isSome_none,Bool.false_eq_true,if_false,List.getElem?_toArray] at d;exact p _ (List.mem_of_getElem? d) _ rfl
theorem Own.setE {w:World}{base e:Nat}{k:IntKind}{v:Value}{zs:List Nat}(h:Own w base e k v zs){b:Nat}{g:TypeId}{q:List Value}(f:au w b g q)(o:g≠e)(i:Nat)(x:Value):Own (w.setCell ⟨b,i,none⟩ x) base e k v zs:=by
 obtain⟨l,c⟩:=h;refine⟨l, ?_⟩
 rcases c with c| ⟨d,cap',j,p,m,a,r⟩
 ·exact .inl c
 ·refine .inr ⟨d,cap',j,p,m, ?_,r⟩
  have n:d≠b:=by
   intro e;subst e;unfold au at f;rw[f] at a;simp only[Option.some.injEq,Obj.cells.injEq] at a;exact o a.2.1
  rw[Below.heap_setCell _ _ _ _ n];exact a
theorem fy {P:Program}{o:Oper}{a:Act}{w:World}(t:TypeId)(x:Operand)(g:o.op= .load t x)(b i:Nat)(k:a.eval x= .pointer (some ⟨b,i,none⟩))(c:List Value)(d:TypeDesc)(h:w.rangeAt b i c)(j:P.underlying t=some d)(e:d.isRow=true)(f:(P.info? t).map (·.size)=some c.length):(execOp a.eval o).run P w= .ok (.value (.agg c.toArray)) w:=by
 unfold execOp;simp only[g,k];have:=run_loadAt_mid (P:=P) w b i t c d h j e f;simp[this]
theorem aC {w w':World}{g o:Nat}{a:List Value}(h:w.rangeAt g o a)(b:yB w w'):w'.rangeAt g o a:=fun j v c=>by
 have:=h j v c;rw[←this];exact World.cell?_of_block (b.block g (World.block_lt_of_cell? w _ this))
def dr (w:World)(t:ak)(e:Ending)(w':World):Prop:= ∃s,e= .returned (ydV t.s s t.e)∧Rd w' .i64 s (Dg.dg 65536 t.n)∧yB w w'
theorem afz {P:Program}{j w:World}{n b:Nat}{g:TypeId}{r s t u:Value}{d:TypeDesc}(h:au w b g [r,s,t,u])(l:Below n j w)(p:n≤b)(q:P.underlying g=some d)(m:d.isRow=true)(o:(P.info? g).map (·.size)=some 4)(a c e f:Value):
  (loadVar g ⟨b,0,none⟩).run P ((((w.setCell ⟨b,0,none⟩ a).setCell ⟨b,1,none⟩ c).setCell ⟨b,2,none⟩ e).setCell ⟨b,3,none⟩ f)= .ok (.agg #[a,c,e,f]) ((((w.setCell ⟨b,0,none⟩ a).setCell ⟨b,1,none⟩ c).setCell ⟨b,2,none⟩ e).setCell ⟨b,3,none⟩ f)∧Below n j ((((w.setCell ⟨b,0,none⟩ a).setCell ⟨b,1,none⟩ c).setCell ⟨b,2,none⟩ e).setCell ⟨b,3,none⟩ f)∧But b w ((((w.setCell ⟨b,0,none⟩ a).setCell ⟨b,1,none⟩ c).setCell ⟨b,2,none⟩ e).setCell ⟨b,3,none⟩ f):=by
 have k:au ((((w.setCell ⟨b,0,none⟩ a).setCell ⟨b,1,none⟩ c).setCell ⟨b,2,none⟩ e).setCell ⟨b,3,none⟩ f) b g [a,c,e,f]:=((((h.set 0 a).set 1 c).set 2 e).set 3 f);have i:=(((ag w b 0 a).trans (ag _ b 1 c)).trans (ag _ b 2 e)).trans (ag _ b 3 f);exact⟨run_loadVar_mid (P:=P) _ b 0 g [a,c,e,f] _ k.range q m o,i.below l p,i⟩
theorem afB {w:World}{b:Nat}{i:TypeId}{a d e g:Value}(h:au w b i [a,d,e,g]):(w.cell? ⟨b,0,none⟩=some a∧w.cell? ⟨b,1,none⟩=some d∧w.cell? ⟨b,2,none⟩=some e∧w.cell? ⟨b,3,none⟩=some g)∧w.frozen? ⟨b,0,none⟩=false∧w.frozen? ⟨b,1,none⟩=false∧w.frozen? ⟨b,2,none⟩=false∧w.frozen? ⟨b,3,none⟩=false:=
 ⟨⟨h.c 0 rfl,h.c 1 rfl,h.c 2 rfl,h.c 3 rfl⟩,h.f 0,h.f 1,h.f 2,h.f 3⟩
theorem kY {w:World}{b:Nat}{g:TypeId}{f d:List Value}(h:au w b g f)(o n:Nat)(e:(f.drop o).take n=d):w.rangeAt b o d:=fun j v a=>by
 subst e;refine h.c (o+j) ?_;rw[List.getElem?_take] at a
 split at a
 ·rw[List.getElem?_drop] at a
  exact a
 ·cases a
def LI (zs cur:List Nat)(sc mo k c:Nat):Prop:=
 cur.length=zs.length∧Dg.Small 4294967296 cur∧c<4294967296∧(∀j,k≤j→cur.getD j 0=zs.getD j 0)∧Dg.vl 4294967296 (cur.take k)+4294967296^k*c=Dg.vl 4294967296 (zs.take k)*sc+mo
theorem Own.other {w w':World}{base e:Nat}{k:IntKind}{b g n cap:Nat}{zs:List Nat}(h:Own w base e k (.slice (some ⟨b,0,none⟩) n cap) zs)(j:w.grownBy w' (some g))(p:b≠g):Own w' base e k (.slice (some ⟨b,0,none⟩) n cap) zs:=by
 have o:=h.block;obtain⟨m,a⟩:=h;refine⟨m, ?_⟩
 rcases a with a| ⟨c,cap',f,d,i,l,r⟩
 ·exact .inl a
 ·refine .inr ⟨c,cap',f,d,i, ?_,r⟩
  simp at d;rw[j.block c (by omega) (by intro e;cases e;omega)]
  exact l
theorem Own.form {w:World}{base e:Nat}{k:IntKind}{v:Value}{zs:List Nat}(h:Own w base e k v zs)(l:0<zs.length): ∃g cap,v= .slice (some ⟨g,0,none⟩) zs.length cap∧base≤g∧g<w.heap.size∧zs.length≤cap:=by
 have c:=h;obtain⟨j,a⟩:=h
 rcases a with⟨_,a⟩| ⟨b,cap',f,rfl,d,i,r⟩
 ·omega
 ·exact⟨b,cap',rfl,d,c.block.2,r.1⟩
theorem V8 (n D:Nat)(g:1≤n)(f:4294967296^ (n-1)≤D)(d:D<4294967296^n):(Dg.dg 4294967296 D).length=n:=by
 have a:=Dg.dg_len_le 4294967296 D n (by omega) d;have b:=Dg.vl_lt 4294967296 _ (Dg.small_dg 4294967296 D (by omega));rw[Dg.vl_dg 4294967296 D (by omega)] at b;have c:n-1< (Dg.dg 4294967296 D).length:=by
  rcases Nat.lt_or_ge (n-1) (Dg.dg 4294967296 D).length with e|e
  ·exact e
  ·have:=Nat.pow_le_pow_right (n:=4294967296) (by omega) e
   omega
 omega
theorem RI (X a s:Nat)(h:X<4294967296^a)(e:s<32):(Dg.dg 4294967296 (X*2^s)).length≤a+1:=by
 apply Dg.dg_len_le 4294967296 _ _ (by omega);have b:2^s≤4294967296:=by have:2^s≤2^32:=Nat.pow_le_pow_right (by omega) (by omega);omega
 rw[Nat.pow_succ];have c:X*2^s<4294967296^a*2^s:=Nat.mul_lt_mul_of_pos_right h (Nat.pow_pos (by omega));have d:4294967296^a*2^s≤4294967296^a*4294967296:=Nat.mul_le_mul_left _ b;omega
def Jm (A D M:Nat)(R os:List Nat)(N k:Nat):Prop:=
 R.length=N∧os.length=M∧Dg.Small 4294967296 R∧Dg.Small 4294967296 os∧(∀j,j<k→os.getD j 0=0)∧D*Dg.vl 4294967296 os+Dg.vl 4294967296 R=A∧Dg.vl 4294967296 R<D*4294967296^k
def ae2 (w:World)(A D M N gr go gb cb:Nat)(bs:List Nat)(iv:Value)(wr:World):Prop:=
 ∃(k:Nat) (R os:List Nat),k≤M∧iv=yi ((k:Int)-1)∧Jm A D M R os N k∧Own wr w.heap.size 105 .u32 (.slice (some ⟨gr,0,none⟩) N N) R∧Own wr w.heap.size 105 .u32 (.slice (some ⟨go,0,none⟩) M M) os∧
  Own wr w.heap.size 105 .u32 (.slice (some ⟨gb,0,none⟩) bs.length cb) bs∧yB w wr
def Two (w:World)(q r:Nat)(e:Ending)(w':World):Prop:=
 ∃v1 v2,e= .returned (.tuple #[v1,v2])∧Own w' w.heap.size 105 .u32 v1 (Dg.dg 4294967296 q)∧Own w' w.heap.size 105 .u32 v2 (Dg.dg 4294967296 r)∧yB w w'
theorem Iv {A D M N i q:Nat}{R os a:List Nat}(h:Jm A D M R os N (i+1))(s:i<M)(l:q<4294967296)(u:a.length=R.length)(n:Dg.Small 4294967296 a)
  (m:Dg.vl 4294967296 a+4294967296^i*(D*q)=Dg.vl 4294967296 R) (k:Dg.vl 4294967296 a<D*4294967296^i):Jm A D M a (os.set i q) N i:=by
 obtain⟨o,d,p,f,b,g,r⟩:=h;refine⟨by omega,by simpa using d,n,Dg.small_set f _ _ l,fun j t=> ?_, ?_,k⟩
 ·rw[Dg.getD_set _ _ _ _ (by omega),if_neg (by omega)];exact b j (by omega)
 ·have c:=Dg.vl_set 4294967296 os i q (by omega)
  rw[b i (by omega),Nat.mul_zero,Nat.add_zero] at c;rw[c,Nat.mul_add,←g,←m];have e:D*(4294967296^i*q)=4294967296^i*(D*q):=by rw[←Nat.mul_assoc,←Nat.mul_assoc,Nat.mul_comm D]
  rw[e];omega
theorem acV (l:List Nat)(n:Nat):Dg.vl 4294967296 (l++List.replicate n 0)=Dg.vl 4294967296 l:=by
 rw[Dg.vl_append,Dg.vl_zeros 4294967296 (List.replicate n 0) (fun i=>by
  by_cases h:i<n
  ·simp[List.getD_eq_getElem?_getD,h]
  ·simp[List.getD_eq_getElem?_getD,h]),Nat.mul_zero,Nat.add_zero]
theorem TM {l m:List Nat}(h:Dg.Small 4294967296 l)(k:Dg.Small 4294967296 m):Dg.Small 4294967296 (l++m):=by
 intro i
 by_cases a:i<l.length
 ·have:=h i
  simpa[List.getD_eq_getElem?_getD,List.getElem?_append_left a] using this
 ·have:=k (i-l.length)
  simpa[List.getD_eq_getElem?_getD,List.getElem?_append_right (Nat.le_of_not_lt a)] using this
theorem CV (n:Nat):Dg.Small 4294967296 (List.replicate n 0):=by
 intro i
 by_cases h:i<n
 ·simp[List.getD_eq_getElem?_getD,h]
 ·simp[List.getD_eq_getElem?_getD,h]
theorem Xs {X Y s M N:Nat}{R os:List Nat}(g:0<Y)(h:Jm (X*2^s) (Y*2^s) M R os N 0):Dg.vl 4294967296 os=X/Y∧Dg.vl 4294967296 R/2^s=X % Y:=by
 obtain⟨-,-,-,-,-,e,a⟩:=h;rw[Nat.pow_zero,Nat.mul_one] at a;have b:0<2^s:=Nat.pow_pos (by omega);have f:0<Y*2^s:=Nat.mul_pos g b;have c:X*2^s/(Y*2^s)=Dg.vl 4294967296 os:=by
  rw[←e,Nat.mul_add_div f,Nat.div_eq_of_lt a,Nat.add_zero]
 have d:X*2^s % (Y*2^s)=Dg.vl 4294967296 R:=by
  rw[←e,Nat.mul_add_mod,Nat.mod_eq_of_lt a]
 rw[Nat.mul_div_mul_right _ _ b] at c;rw[Nat.mul_mod_mul_right] at d;refine⟨c.symm, ?_⟩;rw[←d,Nat.mul_div_cancel _ b]
theorem zf (w:World)(base e d:Nat)(a:base≤w.heap.size):Own (w.alloc (.cells #[.int .u32 d] e)) base e .u32 (.slice (some ⟨w.heap.size,0,none⟩) 1 1) [d]:=
 World.ownsRow_lit (e:=e) (size:=1) (base:=base) w #[.int .u32 d] 1 a (by unfold maxLen;omega) rfl
def eJ (m n:Int):Bool:=decide (n< -m)||decide (m<n)
theorem nK (n m:Int)(w:World)(a:0≤m)(b:m≤1000000):yC 117 #[yi n,yi m] w fun z w'=>z= .returned (.bool (eJ m n))∧w'=w:=by
 have c:IntKind.i64.wrap (-m)= -m:=IntWalk.i64_in _ ⟨by omega,by omega⟩;unfold eJ
 by_cases h:n< -m
 ·go_enter func117,ntmps117
  go_wp2
  go_ret
  simp[h]
 ·go_enter func117,ntmps117
  go_wp2
  go_ret
  simp;omega
def xa (R:Int):Int:=if R=16 then 4000 else 17000
def bk (R D L G:Int):Int:=if R=2∨R=16 then(if D<1∨120<D∨eJ (xa R) L=true∨eJ (xa R) G=true∨G<L then 3 else 0) else 6
theorem zp {R D L G:Int}(h:R=2∨R=16)(a:D<1∨120<D∨eJ (xa R) L=true∨eJ (xa R) G=true∨G<L):bk R D L G=3:=(if_pos h).trans (if_pos a)
theorem Bm {R D L G:Int}(h:R=2∨R=16)(a: ¬(D<1∨120<D∨eJ (xa R) L=true∨eJ (xa R) G=true∨G<L)):bk R D L G=0:=(if_pos h).trans (if_neg a)
theorem cB {R D L G:Int}(h:bk R D L G=0):(R=2∨R=16)∧1≤D∧D≤120∧ -17000≤L∧L≤17000∧ -17000≤G∧G≤17000∧L≤G∧(R=16→ -4000≤L∧G≤4000):=by
 unfold bk at h
 split at h
 ·rename_i h1
  split at h
  ·omega
  ·rename_i h2
   have a:eJ (xa R) L=false:=by
    cases hc:eJ (xa R) L
    ·rfl
    ·exact absurd (.inr (.inr (.inl hc))) h2
   have b:eJ (xa R) G=false:=by
    cases hc:eJ (xa R) G
    ·rfl
    ·exact absurd (.inr (.inr (.inr (.inl hc)))) h2
   unfold eJ xa at a b;simp only[Bool.or_eq_false_iff,decide_eq_false_iff_not] at a b;refine⟨h1,by omega,by omega, ?_⟩
   split at a<;>split at b<;>first|omega| (refine⟨by omega,by omega,by omega,by omega,by omega,fun _=>by omega⟩)
 ·omega
def nL (cx cy:Int)(ly:Nat)(fe:Bool)(gc:Int):Int:=if cx=0 then(if cy=0 then(if ly=0∨fe=true then 3 else gc) else cy) else cx
theorem MY (qs:Bool)(m:Option Addr)(o t:Nat)(n:Option Addr)(p b:Nat)(E R D L G:Int)(gr:Bool)(i g:Int)(j:Bool)(e:Int)(w:World)
  (f: ∀c,yB w c→yC 36 #[.slice m t o] c fun z w'=>z= .returned (yi i)∧w'=c)
  (h: ∀c,yB w c→yC 36 #[.slice n b p] c fun z w'=>z= .returned (yi g)∧w'=c)
  (k: ∀c,yC 117 #[yi E,yi 20000] c fun z w'=>z= .returned (.bool j)∧w'=c)
  (l:yJ 116 #[ygV R D L G gr] (yi e)):
  yC 146 #[yrV qs (.slice m t o) (.slice n b p) E,ygV R D L G gr] w (yR w (yi (nL i g b j e))):=by
 replace f:Hid _:=f;replace h:Hid _:=h;replace k:Hid _:=k;replace l:Hid _:=l;have a:=aa (af w (.cells (yrA qs (.slice m t o) (.slice n b p) E) 128)) (af _ (.cells (ygA R D L G gr) 54))
 by_cases r:i=0
 ·subst r
  by_cases s:g=0
  ·subst s
   by_cases q:b=0
   ·subst q
    rw[show nL 0 0 0 j e=3 from by unfold nL;simp]
    go_enter func146,ntmps146
    go_wp2_with fail
    refine(f.out _ a).mono ?_;rintro z d ⟨rfl,rfl⟩
    go_wp2_with fail
    refine(h.out _ a).mono ?_;rintro z d ⟨rfl,rfl⟩
    go_wp2
    go_ret
    exact⟨rfl,a⟩
   ·have x:((b:Int)==0)=false:=by simp;exact q
    cases j
    ·rw[show nL 0 0 b false e=e from by unfold nL;simp[q]]
     go_enter func146,ntmps146
     go_wp2_with fail
     refine(f.out _ a).mono ?_;rintro z d ⟨rfl,rfl⟩
     go_wp2_with fail
     refine(h.out _ a).mono ?_;rintro z d ⟨rfl,rfl⟩
     go_wp2_with fail
     refine(k.out _).mono ?_;rintro z d ⟨rfl,rfl⟩
     go_wp2_with fail
     refine(l.out _).mono ?_;rintro z B ⟨rfl,v⟩;have u:=aa a v
     go_wp2
     go_ret
     exact⟨rfl,u⟩
    ·rw[show nL 0 0 b true e=3 from by unfold nL;simp]
     go_enter func146,ntmps146
     go_wp2_with fail
     refine(f.out _ a).mono ?_;rintro z d ⟨rfl,rfl⟩
     go_wp2_with fail
     refine(h.out _ a).mono ?_;rintro z d ⟨rfl,rfl⟩
     go_wp2_with fail
     refine(k.out _).mono ?_;rintro z d ⟨rfl,rfl⟩
     go_wp2
     go_ret
     exact⟨rfl,a⟩
  ·have A:(g==0)=false:=by simp;exact s
   rw[show nL 0 g b j e=g from by unfold nL;simp[s]]
   go_enter func146,ntmps146
   go_wp2_with fail
   refine(f.out _ a).mono ?_;rintro z d ⟨rfl,rfl⟩
   go_wp2_with fail
   refine(h.out _ a).mono ?_;rintro z d ⟨rfl,rfl⟩
   go_wp2
   go_ret
   exact⟨rfl,a⟩
 ·have y:(i==0)=false:=by simp;exact r
  rw[show nL i g b j e=i from by unfold nL;simp[r]]
  go_enter func146,ntmps146
  go_wp2_with fail
  refine(f.out _ a).mono ?_;rintro z d ⟨rfl,rfl⟩
  go_wp2
  go_ret
  exact⟨rfl,a⟩
def WH (w:World)(q r d:Nat)(e:Ending)(w':World):Prop:=
 ∃v1 v2 v3,e= .returned (.tuple #[v1,v2,v3])∧Own w' w.heap.size 105 .u32 v1 (Dg.dg 4294967296 q)∧Own w' w.heap.size 105 .u32 v2 (Dg.dg 4294967296 r)∧Rd w' .u32 v3 (Dg.dg 4294967296 d)∧yB w w'
theorem Eg (n k L j:Nat)(h:(Dg.dg 4294967296 n).length≤L)(d:k≤32*j):(Dg.dg 4294967296 (n*2^k)).length≤L+j:=by
 apply Dg.dg_len_le 4294967296 _ _ (by omega);have a:=Dg.vl_lt 4294967296 (Dg.dg 4294967296 n) (Dg.small_dg _ _ (by omega));rw[Dg.vl_dg _ _ (by omega)] at a;have b:4294967296^ (Dg.dg 4294967296 n).length≤4294967296^L:=Nat.pow_le_pow_right (by omega) h;have c:2^k≤4294967296^j:=by
  rw[show(4294967296:Nat)=2^32 from rfl,←Nat.pow_mul]
  exact Nat.pow_le_pow_right (by omega) d
 rw[Nat.pow_add];exact Nat.lt_of_lt_of_le (Nat.mul_lt_mul_of_pos_right (Nat.lt_of_lt_of_le a b) (Nat.pow_pos (by omega))) (Nat.mul_le_mul_left _ c)
theorem wV (r:Nat):(((Dg.dg 4294967296 r).length:Int)==0)=decide (r=0):=by
 have h:=Dg.dg_nil_iff 4294967296 r (by omega)
 by_cases a:r=0
 ·rw[h.2 a]
  simp[a]
 ·have e:(((Dg.dg 4294967296 r).length:Int)==0)=false:=by
   simp;exact fun e=>a (h.1 e)
  rw[e];simp[a]
theorem M4 (x:Int)(a: -1000000≤x)(b:x≤1000000):IntKind.i64.wrap x=x:=by
 exact IntWalk.i64_in _ ⟨by omega,by omega⟩
def X9 (xs cur:List Nat)(d k r:Nat):Prop:=
 cur.length=xs.length∧Dg.Small 65536 cur∧r<d∧Dg.vl 65536 (xs.drop k)=Dg.vl 65536 (cur.drop k)*d+r
theorem Cv (d:Nat)(h:d<65536):Dg.dg 65536 d=if d=0 then[] else[d]:=by
 by_cases e:d=0
 ·subst e;rfl
 ·rw[if_neg e]
  exact(Dg.eq_dg 65536 (by omega) [d] d (Dg.small_cons.2 ⟨h,Dg.small_nil _ (by omega)⟩) (by intro _;simpa using e) (by simp[Dg.vl])).symm
theorem abW (B:Nat)(l:List Nat):Dg.vl B l=l.getD 0 0+B*Dg.vl B (l.drop 1):=by
 cases l with
 |nil=>simp[Dg.vl]
 |cons d l=>simp[Dg.vl]
theorem BH (B:Nat)(l:List Nat)(k:Nat):Dg.vl B l=Dg.vl B (l.take k)+B^k*Dg.vl B (l.drop k):=by
 by_cases h:k≤l.length
 ·exact Dg.vl_take_drop B l k h
 ·rw[List.take_of_length_le (by omega),List.drop_of_length_le (by omega)]
  simp[Dg.vl]
def BI (xs cur:List Nat)(b k R:Nat):Prop:=
 cur.length=xs.length∧Dg.Small 65536 cur∧(∀j,j<k→cur.getD j 0=0)∧R<b∧Dg.vl 65536 (xs.drop k)=Dg.vl 65536 (cur.drop k)*b+R
theorem NF (xs:List Nat)(b:Nat)(a:0<b):BI xs (List.replicate xs.length 0) b xs.length 0:=by
 refine⟨by simp,Dg.small_replicate _ _ (by omega),fun j c=>by simp[List.getD_eq_getElem?_getD,c],a, ?_⟩
 simp[Dg.vl]
theorem Vo {xs a:List Nat}{b R:Nat}(h:BI xs a b 0 R):Dg.vl 65536 xs/b=Dg.vl 65536 a∧Dg.vl 65536 xs % b=R:=by
 obtain⟨e,f,g,c,d⟩:=h;simp only[List.drop_zero] at d;rw[d,Nat.mul_comm];exact⟨by rw[Nat.mul_add_div (by omega),Nat.div_eq_of_lt c];omega,by rw[Nat.mul_add_mod,Nat.mod_eq_of_lt c]⟩
def aeu (w:World)(xs:List Nat)(b k R:Nat)(cur:List Nat)(rv:Value)(wr:World):Prop:=
 Own wr w.heap.size 3 .i64 (.slice (some ⟨w.heap.size,0,none⟩) xs.length xs.length) cur∧Rd wr .i64 rv (Dg.dg 65536 R)∧BI xs cur b k R∧yB w wr
def aev (W5:World)(g1 n1 Q:Nat)(rv dv:Value)(wq:World):Prop:=
 rv= .slice (some ⟨g1,0,none⟩) n1 n1∧ ∃d:Nat,Q≤d∧d≤65535∧dv=yi d∧yB W5 wq
theorem aaD (w:World)(base e d:Nat)(a:base≤w.heap.size):Own (w.alloc (.cells #[yi d] e)) base e .i64 (.slice (some ⟨w.heap.size,0,none⟩) 1 1) [d]:=
 World.ownsRow_lit (e:=e) (size:=1) (base:=base) w #[yi d] 1 a (by unfold maxLen;omega) rfl
theorem Wo {w:World}{k:IntKind}{g n c:Nat}{zs:List Nat}(h:Rd w k (.slice (some ⟨g,0,none⟩) n c) zs)(i:Nat)(f:i<zs.length):w.cell? ⟨g,i,none⟩=some (.int k ((zs.getD i 0:Nat):Int)):=by
 have j:=wn h;subst j;obtain⟨_,_,a⟩:=iQ h;obtain⟨b,l,e,d⟩:=a (by omega)
 cases e
 have:=d i f
 rwa [Nat.zero_add] at this
def JI (w:World)(q r:Nat)(e:Ending)(w':World):Prop:=
 ∃vq vr,e= .returned (.tuple #[vq,vr])∧Rd w' .i64 vq (Dg.dg 65536 q)∧Rd w' .i64 vr (Dg.dg 65536 r)∧yB w w'
theorem Jh (n k L j:Nat)(h:(Dg.dg 65536 n).length≤L)(d:k≤16*j):(Dg.dg 65536 (n*2^k)).length≤L+j:=by
 apply Dg.dg_len_le 65536 _ _ (by omega);have a:=Dg.vl_lt 65536 (Dg.dg 65536 n) (Dg.small_dg _ _ (by omega));rw[Dg.vl_dg _ _ (by omega)] at a;have b:65536^ (Dg.dg 65536 n).length≤65536^L:=Nat.pow_le_pow_right (by omega) h;have c:2^k≤65536^j:=by
  rw[show(65536:Nat)=2^16 from rfl,←Nat.pow_mul]
  exact Nat.pow_le_pow_right (by omega) d
 rw[Nat.pow_add];exact Nat.lt_of_lt_of_le (Nat.mul_lt_mul_of_pos_right (Nat.lt_of_lt_of_le a b) (Nat.pow_pos (by omega))) (Nat.mul_le_mul_left _ c)
theorem GD {P:Program}(w:World)(d:Nat){t:TypeId}{c rs:Array TypeId}{e:Bool}(h:P.underlying t=some (.func c rs e))(f:Fn)(a b:Array Value):(Op.equalIn (d+1) t (.func f a b) .nilFunc).run P w= .ok false w:=by
 simp[Op.equalIn,run_underlying h]
theorem DE {P:Program}(w:World)(d:Nat){t:TypeId}{a rs:Array TypeId}{b:Bool}(h:P.underlying t=some (.func a rs b)):(Op.equalIn (d+1) t .nilFunc .nilFunc).run P w= .ok true w:=by
 simp[Op.equalIn,run_underlying h]
theorem Rq {P:Program}(w:World){t:TypeId}{c rs:Array TypeId}{d:Bool}(h:P.underlying t=some (.func c rs d))(f:Fn)(a b:Array Value):(binOp .eql t (.func f a b) .nilFunc).run P w= .ok (.bool false) w:=by
 simp only[binOp];simp[Op.equal,Op.maxDepth,GD w 9999 h f a b]
theorem Oa {P:Program}(w:World){t:TypeId}{a rs:Array TypeId}{b:Bool}(h:P.underlying t=some (.func a rs b)):(binOp .eql t .nilFunc .nilFunc).run P w= .ok (.bool true) w:=by
 simp only[binOp];simp[Op.equal,Op.maxDepth,DE w 9999 h]
def iC (way:Int):Bool:=decide (1≤way∧way≤5)
theorem zi {way:Int}(h:iC way=true):way=1∨way=2∨way=3∨way=4∨way=5:=by
 have:=of_decide_eq_true h;omega
theorem XI (x y:Int):Instr.sameNow (.int .i64) (yi x) (yi y)=some (decide (x=y)):=by
 simp[Instr.sameNow]
 by_cases h:x=y<;>simp[h]
theorem KT (B x y L:Nat)(a:2≤B)(h:x≤y)(b:(Dg.dg B y).length≤L):(Dg.dg B x).length≤L:=Nat.le_trans (aH B x y a h) b
theorem ZG {x L:Nat}(h:(Dg.dg 65536 x).length≤L):(Dg.dg 65536 (x+1)).length≤L+1:=by
 refine Dg.dg_len_le 65536 _ _ (by omega) ?_;have a:=Dg.vl_lt 65536 (Dg.dg 65536 x) (Dg.small_dg _ _ (by omega));rw[Dg.vl_dg _ _ (by omega)] at a;have b:65536^ (Dg.dg 65536 x).length≤65536^L:=Nat.pow_le_pow_right (by omega) h;have d:(65536:Nat)^ (L+1)=65536^L*65536:=Nat.pow_succ ..;have e:0< (65536:Nat)^L:=Nat.pow_pos (by omega);generalize(65536:Nat)^L=c at*;omega
theorem UI {d k L:Nat}(h:d≤2^k)(a:k+1≤16*L):(Dg.dg 65536 d).length≤L:=by
 refine Dg.dg_len_le 65536 _ _ (by omega) (Nat.lt_of_le_of_lt h ?_);rw[show(65536:Nat)=2^16 from by decide,←Nat.pow_mul]
 exact Nat.pow_lt_pow_right (by omega) (by omega)
def PwL (w:World)(K:Nat)(nv ov tv:Value)(wr:World):Prop:=
 ∃k o t:Nat,nv=yi (k:Int)∧k≤6100∧Rd wr .i64 ov (Dg.dg 65536 o)∧Rd wr .i64 tv (Dg.dg 65536 t)∧0<o∧0<t∧o*t^k=10^K∧yB w wr
theorem rd_ten {w:World}{q:Nat}(h:au w q 3 [yi 10]):Rd w .i64 (.slice (some ⟨q,0,none⟩) 1 1) (Dg.dg 65536 10):=by
 rw[show Dg.dg 65536 10=[10] by decide]
 exact⟨_,1,rfl,Nat.le_refl _,by unfold maxLen;omega,fun _=>⟨q,0,rfl,fun i a=>by
  obtain rfl:i=0:=by simpa using a
  exact h.c 0 rfl⟩⟩
theorem rd_onE {w:World}{q:Nat}(h:au w q 3 [yi 1]):Rd w .i64 (.slice (some ⟨q,0,none⟩) 1 1) (Dg.dg 65536 1):=by
 rw[show Dg.dg 65536 1=[1] by decide]
 exact⟨_,1,rfl,Nat.le_refl _,by unfold maxLen;omega,fun _=>⟨q,0,rfl,fun i a=>by
  obtain rfl:i=0:=by simpa using a
  exact h.c 0 rfl⟩⟩
def DgW (w:World)(p6 p7:Nat)(n d:Nat)(wr:World):Prop:=
 yB w wr∧ ∃v u:Value,au wr p6 26 [v]∧au wr p7 26 [u]∧Rd wr .i64 v (Dg.dg 65536 n)∧Rd wr .i64 u (Dg.dg 65536 d)
def DgA (w:World)(p6 p7:Nat)(n d:Nat)(_:Int)(pv:Value)(wr:World):Prop:= ∃p:Int,pv=yi p∧ -6000≤p∧p≤6000∧DgW w p6 p7 n d wr
def DgB (w:World)(p6 p7:Nat)(n d:Nat)(P:Int)(pv:Value)(wr:World):Prop:= ∃p:Int,pv=yi p∧ -6000≤p∧p≤P∧DgW w p6 p7 n d wr
theorem rd_two {w:World}{q:Nat}(h:au w q 3 [yi 2]):Rd w .i64 (.slice (some ⟨q,0,none⟩) 1 1) (Dg.dg 65536 2):=by
 rw[show Dg.dg 65536 2=[2] by decide]
 exact⟨_,1,rfl,Nat.le_refl _,by unfold maxLen;omega,fun _=>⟨q,0,rfl,fun i a=>by
  obtain rfl:i=0:=by simpa using a
  exact h.c 0 rfl⟩⟩
theorem aaT {n L j:Nat}(h:n<4294967296^L):(Dg.dg 4294967296 (n^j)).length≤L*j+1:=by
 refine Dg.dg_len_le 4294967296 _ _ (by omega) ?_;rw[Nat.pow_succ,Nat.pow_mul];have a:n^j≤(4294967296^L)^j:=Nat.pow_le_pow_left (by omega) j;have b:0< (4294967296^L)^j:=Nat.pow_pos (Nat.pow_pos (by omega));omega
def aex (w:World)(n k bl:Nat)(pv iv:Value)(wr:World):Prop:=
 ∃j:Nat,j≤bl∧iv=yi ((j:Int)-1)∧Own wr w.heap.size 105 .u32 pv (Dg.dg 4294967296 (n^ (k/2^j)))∧yB w wr
theorem XO (x y r:Nat)(g:x<9223372036854775808)(e:y<256):bits .or .u64 (IntKind.u64.wrap ((x:Int)*2)) (IntKind.u64.wrap (bits .and .u8 ((y:Int)/2^ (7-r)) 1))=((2*x+y/2^ (7-r) % 2:Nat):Int):=by
 have c:(y:Int)/2^ (7-r)=((y/2^ (7-r):Nat):Int):=by simp
 have d:y/2^ (7-r)<256:=Nat.lt_of_le_of_lt (Nat.div_le_self _ _) e;have a:=u8_and_nat (y/2^ (7-r)) 1 d (by omega);rw[Nat.and_one_is_mod] at a;rw[c,show 1=((1:Nat):Int) from rfl,a]
 have f:=Nat.mod_lt (y/2^ (7-r)) (show 0<2 by omega)
 generalize y/2^ (7-r) % 2=b at*;rw[IntKind.wrap_u64,IntKind.wrap_u64,show((x:Int)*2) % 18446744073709551616=((2*x:Nat):Int) from by omega,show(b:Int) % 18446744073709551616=(b:Int) from by omega]
 rw[u64_or_nat _ _ (by omega) (by omega),nat_join 1 _ _ (by omega) (by omega)]
def iS (f:Nat):Nat→Nat→List Nat→List Nat
 |0,_,zs=>zs
 |c+1,x,zs=>iS f c (x/2) (zs.set ((f+c)/8) (zs.getD ((f+c)/8) 0|||x % 2*2^ (7-(f+c) % 8)))
theorem Io {B:Nat}{zs:List Nat}(h:Dg.Small B zs)(i x:Nat)(b:x<B):Dg.Small B (zs.set i x):=by
 intro k
 by_cases a:i<zs.length
 ·rw[Dg.getD_set _ _ _ _ a]
  by_cases e:i=k
  ·rw[if_pos e];exact b
  ·rw[if_neg e];exact h k
 ·rw[List.set_eq_of_length_le (by omega)]
  exact h k
theorem il (f:Nat): ∀(c x:Nat) (zs:List Nat),(iS f c x zs).length=zs.length
 |0,_,_=>rfl
 |c+1,x,zs=>by rw[iS,il f c];exact List.length_set
theorem SK (f n:Nat):f&&& 2^n=if f.testBit n then 2^n else 0:=by
 apply Nat.eq_of_testBit_eq;intro i;rw[Nat.testBit_and,Nat.testBit_two_pow]
 by_cases a:n=i
 ·subst a
  cases h:f.testBit n
  ·simp
  ·simp
 ·cases h:f.testBit n
  ·simp[a]
  ·simp[a]
theorem Nq (x:Nat):Dg.vl 4294967296 [x % 4294967296,x/4294967296]=x:=by
 simp only[Dg.vl];omega
theorem TZ (x a:Nat)(c:x<4294967296)(b:a<4294967296):bits .or .u64 ((x:Int)*4294967296) a=((a+4294967296*x:Nat):Int):=by
 rw[show x*4294967296=((4294967296*x:Nat):Int) from by omega]
 rw[u64_or_nat _ _ (by omega) (by omega),nat_join 32 _ _ (by omega) (by omega)]
 congr 1
 omega
theorem XF (p:Value)(xs:List Nat)(w:World)(s:Rd w .u32 p xs)(o:Dg.Small 4294967296 xs)(G:xs.length≤2):
  yC 159 #[p] w fun z w'=>z= .returned (.int .u64 ((Dg.vl 4294967296 xs:Nat):Int))∧w'=w:=by
 obtain⟨y,A,rfl,-,-,l⟩:=s
 go_enter func159,ntmps159
 go_wp2
 go_loop [3,4] (fun v g=> ∃j x:Nat,j≤xs.length∧g=yi ((j:Int)-1)∧v= .int .u64 (x:Int)∧Hid (x=Dg.vl 4294967296 (xs.drop j))) (fun _ g=>(intOf g+1).toNat)
 case atStart=>exact⟨xs.length,0,Nat.le_refl _,by go_num,rfl,by rw[List.drop_of_length_le (Nat.le_refl _)];rfl⟩
 case round=>
  obtain⟨j,x,F,rfl,rfl,d⟩:=hrel
  by_cases B:0<j
  ·obtain⟨i,rfl⟩: ∃i,j=i+1:=⟨j-1,by omega⟩
   rw[show((i+1:Nat):Int)-1=(i:Int) from by omega]
   obtain⟨b,H,rfl,m⟩:=l (by omega);have t:=m i (by omega);have n:=o i;have f:=d.out;have u:x<4294967296:=by
    have e:=Dg.vl_lt 4294967296 (xs.drop (i+1)) (fun k=>by
     rw[List.getD_eq_getElem?_getD,List.getElem?_drop,←List.getD_eq_getElem?_getD];exact o _)
    rw[←f,List.length_drop] at e;have C:(4294967296:Nat)^ (xs.length-(i+1))≤4294967296^1:=Nat.pow_le_pow_right (by omega) (by omega);omega
   have c:Dg.vl 4294967296 (xs.drop i)=xs.getD i 0+4294967296*x:=by
    rw[f,List.drop_eq_getElem_cons (show i<xs.length by omega),Dg.vl]
    simp[List.getD_eq_getElem?_getD,show i<xs.length by omega]
   obtain⟨a,h⟩: ∃a,xs.getD i 0=a:=⟨_,rfl⟩;rw[h] at t n c;have E:i<xs.length:=by omega
   have r:Hid _:=c;clear h c f m l d
   go_wp2
   have c:=r.out;refine⟨⟨i,a+4294967296*x,by omega,rfl, ?_,c.symm⟩, ?_⟩
   ·rw[TZ x a u n]
   ·simp only[intOf]
    omega
  ·have D: ¬((0:Int)≤(j:Int)-1):=by omega
   have q:Hid (j=0):=(by omega:j=0)
   go_wp2
   go_ret
   have e:=q.out;subst e;have:=d.out;rw[List.drop_zero] at this;rw[←this];exact⟨rfl,rfl⟩
theorem xD {w:World}{q:Nat}(h:w.cell? ⟨q,0,none⟩=some (.int .u32 1)):Rd w .u32 (.slice (some ⟨q,0,none⟩) 1 1) [1]:=
 ⟨_,1,rfl,Nat.le_refl _,by unfold maxLen;omega,fun _=>⟨q,0,rfl,fun i a=>by
  obtain rfl:i=0:=by simpa using a
  exact h⟩⟩
def gsI:Nat→Int
 |1=>104|2=>971|3=>16320|4=>57|5=>49|6=>103|7=>71|8=>970|_=>0
theorem rd_one1 {w:World}{q:Nat}(h:w.cell? ⟨q,0,none⟩=some (.int .u32 1)):Rd w .u32 (.slice (some ⟨q,0,none⟩) 1 1) (Dg.dg 4294967296 1):=xD h
def RtR (w:World)(ng:Bool)(a b:Nat)(e:Int)(z:Ending)(w':World):Prop:=
 ∃v u,z= .returned (yrV ng v u e)∧Rd w' .u32 v (Dg.dg 4294967296 a)∧Rd w' .u32 u (Dg.dg 4294967296 b)∧yB w w'
def NbR (w:World)(n:Nat)(l:Bool)(z:Ending)(w':World):Prop:= ∃v,z= .returned (.tuple #[v,.bool l])∧Rd w' .u32 v (Dg.dg 4294967296 n)∧yB w w'
def DcR (w:World)(s:Bool)(h:Nat)(c p:Int)(z:Ending)(w':World):Prop:= ∃v,z= .returned (.agg #[.bool s,v,yi c,yi p])∧Rd w' .u32 v (Dg.dg 4294967296 h)∧yB w w'
def lJ (r:Nat):Nat→Nat→Int→Nat×Int
 |0,d,p=>(d,p)
 |n+1,d,p=>if d % r=0 then lJ r n (d/r) (p+1) else(d,p)
def iT (w:World)(c:Int)(ng:Bool)(m:Nat)(p:Int)(z:Ending)(w':World):Prop:=
 ∃v,z= .returned (yvV c ng v p)∧Rd w' .u32 v (Dg.dg 4294967296 m)∧yB w w'
theorem kg {P:Program}{f:Func}{a b t:Nat}{j k:TypeId}{c:Array Value}{w:World}{d e:Nat}{l m u:Value}(p:f.results= #[.cell a j,.cell b k,.tmp t])(g:c.getD a undef= .pointer (some ⟨d,0,none⟩))(h:c.getD b undef= .pointer (some ⟨e,0,none⟩))(i:c.getD t undef=u)(n:(loadVar j ⟨d,0,none⟩).run P w= .ok l w)(o:(loadVar k ⟨e,0,none⟩).run P w= .ok m w):(results f c).run P w= .ok (.tuple #[l,m,u]) w:=by
 rw[Array.getD_eq_getD_getElem?] at g h i;unfold results;simp[p,g,h,i,asAddr,n,o]
def eP (w:World)(c:Int)(ng:Bool)(m:Nat)(p:Int)(er:Int)(z:Ending)(w':World):Prop:=
 ∃v,z= .returned (.tuple #[yvV c ng v p,yi er])∧Rd w' .u32 v (Dg.dg 4294967296 m)∧yB w w'
def acy (w:World)(t:ak)(z:Ending)(w':World):Prop:=
 ∃v,z= .returned (ydV t.s v t.e)∧Rd w' .u32 v (Dg.dg 4294967296 t.n)∧Far w.heap.size v∧yB w w'
def Ys (w:World)(c:Int)(ng:Bool)(m:Nat)(p:Int)(t:ak)(er:Int)(z:Ending)(w':World):Prop:=
 ∃v x,z= .returned (.tuple #[yvV c ng v p,ydV t.s x t.e,yi er])∧Rd w' .u32 v (Dg.dg 4294967296 m)∧Rd w' .u32 x (Dg.dg 4294967296 t.n)∧Far w.heap.size x∧yB w w'
def RVg (w:World)(c:Int)(g:Bool)(t:ak)(z:Ending)(w':World):Prop:=
 ∃s,z= .returned (yoV c g t.s s t.e)∧Rd w' .i64 s (Dg.dg 65536 t.n)∧Far w.heap.size s∧yB w w'
def RVG (w:World)(c:Int)(g:Bool)(t:ak)(fl:Int)(z:Ending)(w':World):Prop:=
 ∃s,z= .returned (.tuple #[yoV c g t.s s t.e,yi fl])∧Rd w' .i64 s (Dg.dg 65536 t.n)∧Far w.heap.size s∧yB w w'
theorem jZ (n k L j:Nat)(h:(Dg.dg 65536 n).length≤L)(l:k≤16*j):(Dg.dg 65536 (n*2^k)).length≤L+j:=by
 apply Dg.dg_len_le 65536 _ _ (by omega);have a:=Dg.vl_lt 65536 (Dg.dg 65536 n) (Dg.small_dg _ _ (by omega));rw[Dg.vl_dg _ _ (by omega)] at a;have f:65536^ (Dg.dg 65536 n).length≤65536^L:=Nat.pow_le_pow_right (by omega) h;have b:2^k≤65536^j:=by
  rw[show(65536:Nat)=2^16 from rfl,←Nat.pow_mul]
  exact Nat.pow_le_pow_right (by omega) (by omega)
 rw[Nat.pow_add];have e:0<65536^j:=Nat.pow_pos (by omega);generalize 65536^j=c at*;generalize 65536^L=d at*;have g:n*2^k≤n*c:=Nat.mul_le_mul_left _ b;have i:n*c<d*c:=Nat.mul_lt_mul_of_pos_right (by omega) e;omega
theorem og (x y L:Nat)(c:(Dg.dg 65536 x).length≤L)(d:(Dg.dg 65536 y).length≤L):(Dg.dg 65536 (x+y)).length≤L+1:=by
 apply Dg.dg_len_le 65536 _ _ (by omega);have a:=Dg.vl_lt 65536 (Dg.dg 65536 x) (Dg.small_dg _ _ (by omega));have b:=Dg.vl_lt 65536 (Dg.dg 65536 y) (Dg.small_dg _ _ (by omega));rw[Dg.vl_dg _ _ (by omega)] at a b;have e:65536^ (Dg.dg 65536 x).length≤65536^L:=Nat.pow_le_pow_right (by omega) c;have f:65536^ (Dg.dg 65536 y).length≤65536^L:=Nat.pow_le_pow_right (by omega) d;rw[Nat.pow_succ];omega
theorem len_zero (n:Nat):(((Dg.dg 65536 n).length:Int)==0)=decide (n=0):=by
 have a:=Dg.dg_nil_iff 65536 n (by omega)
 by_cases h:n=0
 ·rw[decide_eq_true h,a.2 h];rfl
 ·rw[decide_eq_false h];simp;exact fun e=>h (a.1 e)
def D7 (w:World)(h:Bool)(d:Nat)(k:Int)(e:Ending)(w':World):Prop:=
 ∃u,e= .returned (.tuple #[.agg #[u,yi k],.bool h])∧Own w' w.heap.size 105 .u32 u (Dg.dg 4294967296 d)∧yB w w'
theorem G0 (b:Bool)(x:Option Addr)(y z:Nat)(e:Int)(W:World):(Instr.field 191 (ydV b (.slice x y z) e) 0).run Tryz.prog W= .ok (ydV b (.slice x y z) e) W:=by kernel_rfl
theorem Ju (b:Bool)(x:Option Addr)(y z:Nat)(e:Int)(W:World):(Instr.field 41 (ydV b (.slice x y z) e) 2).run Tryz.prog W= .ok (yi e) W:=by kernel_rfl
def DM (w:World)(h:Bool)(d:Nat)(k c:Int)(e:Ending)(w':World):Prop:=
 ∃u,e= .returned (.tuple #[.agg #[u,yi k],.bool h,yi c])∧Own w' w.heap.size 105 .u32 u (Dg.dg 4294967296 d)∧yB w w'
theorem jq {d k L:Nat}(h:d<2^k)(a:k≤32*L):(Dg.dg 4294967296 d).length≤L:=by
 refine Dg.dg_len_le 4294967296 _ _ (by omega) (Nat.lt_of_lt_of_le h ?_);rw[show(4294967296:Nat)=2^32 from by decide,←Nat.pow_mul]
 exact Nat.pow_le_pow_right (by omega) a
theorem Lp (y b t u:Nat)(a:b<2):(y|||b*2^t).testBit u=(y.testBit u||(decide (b=1)&&decide (t=u))):=by
 rw[Nat.testBit_or]
 rcases(show b=0∨b=1 by omega) with rfl|rfl
 ·simp
 ·rw[Nat.one_mul,Nat.testBit_two_pow]
  simp
theorem JL {f n:Nat}(h:f<2^n):f|||2^n=f+2^n:=by
 have:=Nat.two_pow_add_eq_or_of_lt h 1;rw[Nat.mul_one] at this;rw[Nat.or_comm,←this,Nat.add_comm]
theorem aaQ {f n:Nat}(c:2^n≤f)(a:f<2^ (n+1)):f|||2^n=f:=by
 obtain⟨r,rfl⟩: ∃r,f=r+2^n:=⟨f-2^n,by omega⟩;have b:r<2^n:=by rw[Nat.pow_succ] at a;omega
 rw[←JL b,Nat.or_assoc,Nat.or_self]
theorem LT {d n:Nat}(a:2^n≤d)(b:d<2^ (n+1)):d % 2^n=d-2^n:=by
 rw[Nat.pow_succ] at b;rw[Nat.mod_eq_sub_mod a,Nat.mod_eq_of_lt (by omega)]
theorem YZ {f n:Nat}(h:f<2^n):f|||2^n=f+2^n:=by
 rw[Nat.or_comm,nat_join n (2^n) f (Nat.mod_self _) h];omega
theorem adg {f n:Nat}(b:2^n≤f)(a:f<2^ (n+1)):f|||2^n=f:=by
 rw[Nat.pow_succ] at a;have e:f=2^n||| (f-2^n):=by
  rw[nat_join n (2^n) (f-2^n) (Nat.mod_self _) (by omega)];omega
 rw[e,Nat.or_comm,←Nat.or_assoc,Nat.or_self]
theorem mk_size (l:List UInt8):(⟨l.toArray⟩:ByteArray).size=l.length:=List.size_toArray
def ZB6 (w:World)(b:Nat):Prop:=b<w.heap.size∧ ∃ty,w.heap[b]? =some (.cells #[.bool false,yN,yi 0,.bool false,yN,yi 0] ty (0,0))
def Xy (n m:Nat)(ds:List Nat)(j g:Nat):Prop:=Dg.Small 10 ds∧j≤4∧g<10^ (4-j)∧n=Dg.vl 10 ds+10^ds.length*(g+10^ (4-j)*m)
theorem So (w:World)(base e g:Nat)(b:base≤w.heap.size):Own (w.alloc (.cells #[.int .u8 (48+(g:Int) % 10)] e)) base e .u8 (.slice (some ⟨w.heap.size,0,none⟩) 1 1) [48+g % 10]:=by
 have:=World.ownsRow_lit (e:=e) (size:=1) (base:=base) w #[.int .u8 (48+(g:Int) % 10)] 1 b (by unfold maxLen;omega) rfl;have a:(48+(g:Int) % 10)=((48+g % 10:Nat):Int):=by omega
 rw[a] at this⊢;exact this
def dqN (x:ak):Nat:=x.n*2^x.e.toNat
def dqD (x:ak):Nat:=2^ (-x.e).toNat
theorem dqN_in {x:ak}{a c:Nat}(h:a=64)(i:c=16564)(b:x.n<2^a)(d: -16500≤x.e)(g:x.e≤16500):dqN x<2^c∧dqD x≤2^c∧0<dqD x:=by
 obtain⟨f,j⟩: ∃f,f=16500:=⟨_,rfl⟩;refine⟨?_, ?_,Nat.pow_pos (by omega)⟩
 ·have:2^c=2^a*2^f:=by rw[←Nat.pow_add];congr 1;omega
  rw[this];exact Nat.mul_lt_mul_of_lt_of_le b (Nat.pow_le_pow_right (by omega) (by omega)) (Nat.pow_pos (by omega))
 ·exact Nat.pow_le_pow_right (by omega) (by omega)
theorem head_cons {r:List UInt8}{b:UInt8}(h:r.head? =some b):r=b::r.tail:=by
 cases r with
 |nil=>cases h
 |cons c r=>cases h;rfl
def RqE (w:World)(ng:Bool)(a b:Nat)(e er:Int)(z:Ending)(w':World):Prop:=
 ∃v u,z= .returned (.tuple #[yrV ng v u e,yi er])∧Rd w' .i64 v (Dg.dg 65536 a)∧Rd w' .i64 u (Dg.dg 65536 b)∧yB w w'
theorem str_snoc (d:List UInt8)(b:UInt8):(⟨d.toArray⟩:ByteArray)++⟨#[b]⟩=⟨(d++[b]).toArray⟩:=by
 apply ByteArray.ext;rw[ByteArray.data_append];simp
theorem results_tmp4 {b:Func}{t u v x:Tmp}(h:b.results= #[.tmp t,.tmp u,.tmp v,.tmp x])(a:Array Value)(P:Program)(w:World):
  (results b a).run P w= .ok (.tuple #[a.getD t undef,a.getD u undef,a.getD v undef,a.getD x undef]) w:=by
 simp[results,h]
theorem head_is (b c:UInt8)(r:List UInt8):(((b.toNat:Nat):Int)==((c.toNat:Nat):Int))=decide ((b::r).head? =some c):=by
 rw[List.head?_cons]
 by_cases e:b=c
 ·subst e
  rw[decide_eq_true rfl];exact beq_self_eq_true _
 ·rw[decide_eq_false (fun h=>e (by injection h))]
  rw[beq_eq_false_iff_ne];intro h;exact e (UInt8.toNat_inj.1 (by omega))
def rqS:Nat→Nat×Nat→Nat×Nat
 |0,z=>z
 |k+1,z=>rqS k (if z.1 % 5=0∧z.2=1 then(z.1/5,1) else(z.1,z.2*5))
theorem rqS_down {k n d:Nat}{Z:Nat×Nat}(h:rqS (k+1) (n,d)=Z)(a:n % 5=0)(b:d=1):rqS k (n/5,1)=Z:=by
 rw[←h]
 show _=rqS k (if n % 5=0∧d=1 then _ else _)
 rw[if_pos ⟨a,b⟩]
theorem rqS_up {k n d:Nat}{Z:Nat×Nat}(h:rqS (k+1) (n,d)=Z)(a: ¬(n % 5=0∧d=1)):rqS k (n,d*5)=Z:=by
 rw[←h]
 show _=rqS k (if n % 5=0∧d=1 then _ else _)
 rw[if_neg a]
def RqW (w:World)(b2 b9:Nat)(ng:Bool)(e:Int)(v u:Value)(n d:Nat)(wr:World):Prop:=
 yB w wr∧au wr b2 72 (yrL false yN yN 0)∧au wr b9 72 (yrL ng v u e)∧Rd wr .i64 v (Dg.dg 65536 n)∧Rd wr .i64 u (Dg.dg 65536 d)
def RqA (w:World)(b2 b9:Nat)(ng:Bool)(e p:Int)(Y:Nat)(pv:Value)(wr:World):Prop:=
 ∃(q:Int) (n:Nat) (v u:Value),pv=yi q∧n*5^q.toNat=Y∧(-q).toNat=(-p).toNat∧(-6000≤q∧q≤6000)∧RqW w b2 b9 ng e v u n 1 wr
def RqB (w:World)(b2 b9:Nat)(ng:Bool)(e:Int)(Z:Nat×Nat)(B:Nat)(pv:Value)(wr:World):Prop:=
 ∃(k n d:Nat) (v u:Value),pv=yi (-(k:Int))∧rqS k (n,d)=Z∧n≤B∧d*5^k≤B∧k≤6000∧RqW w b2 b9 ng e v u n d wr
end Go.Proofs.YtlhkndcmbpcpgaaGreatDoor
