/-
  Texts laid together: Pa8, Ps1, Ps2, Bl1, Bl6, Bm1, Bs1, Inv, BlN, BlM, Bm4, Rk3.
-/
import Derived.OrdersHeld
import Derived.Test.YtnhackdjplppjaaGreatDoorSd02
set_option maxRecDepth 100000
namespace Go.Proofs.YtnhackdjplppjaaGreatDoor
open Go.RowKit
def rootV (k:Nat) (cx:Int) (gx:Bool) (x:Trip):Int×Bool×Trip×Int:=
 if cx=1 then(1,gx,x,0) else if gx=true then noV k 16 else if cx=3 then(3,false,x,0) else numV (rootT x 128) false
def sqrF (n:Int) (a:ByteArray):Int×Bool×Trip×Int:=rootV n.toNat ((decC n a:Nat):Int) (decG n a) (opT n a)
theorem rootS_le (x:Trip):rootS x 128≤257:=by unfold rootS;split<;>omega
theorem raised_lt {x:Trip} (hx:Small64 x): ∃A,x.n*2^rootS x 128<2^A∧A≤321:=by
 refine⟨64+rootS x 128, ?_,by have:=rootS_le x;omega⟩;rw[Nat.pow_add];exact Nat.mul_lt_mul_of_pos_right hx.1 (two_pos _)
theorem root_le_self {a x:Nat} (h:x*x≤a):x≤a:=by
 rcases Nat.eq_zero_or_pos x with h0|h0
 ·omega
 ·exact Nat.le_trans (Nat.le_mul_of_pos_left x h0) h
theorem rootG_le (a:Nat): ∀m,rootG a 2 m≤a
 |0=>Nat.zero_le _
 |m+1=>by
  unfold rootG
  by_cases c:(m+1)^2≤a
  ·rw[if_pos c]
   rw[Nat.pow_two] at c;exact root_le_self c
  ·rw[if_neg c]
   exact rootG_le a m
theorem root_near {x:Trip} (hx:Small64 x):Near (rootT x 128):=by
 obtain⟨A,hA,hl⟩:=raised_lt hx;obtain⟨x1,x2,x3⟩:=hx;have hS:=rootS_le x;have hr:rootOf (x.n*2^rootS x 128) 2<2^A:=Nat.lt_of_le_of_lt (rootG_le (x.n*2^rootS x 128) (x.n*2^rootS x 128)) hA;have h2:(rootT x 128).n<2^ (A+1):=by
  show rootOf (x.n*2^rootS x 128) 2*2+(if _ then 1 else 0)<2^ (A+1)
  rw[Nat.pow_succ]
  split<;>omega
 have h3:=bitLen_le_of _ _ h2;have he:(rootT x 128).e=(x.e-(rootS x 128:Int))/2-1:=rfl;exact⟨by omega,by omega⟩
theorem droot2_any (k:Nat) (hk:1≤k∧k≤8) (wy cx:Int) (gx:Bool) (x:Trip) (xo:Option Addr) (xc:Nat) (w:World) (rx:rdT w x xo xc) (sx:Small64 x):
  Calls Tryz.prog 73 #[dsk k wy,opV cx gx x xo xc] w (resV w (rootV k cx gx x)):=by
 unfold rootV
 by_cases h1:cx=1
 ·subst h1
  rw[if_pos rfl];exact droot_1 _ _ _ _ _ _ _ _ _ _ _ _ w rx
 rw[if_neg h1]
 cases gx
 ·rw[if_neg (by decide)]
  by_cases h3:cx=3
  ·subst h3
   rw[if_pos rfl];exact droot_3 _ _ _ _ _ _ _ _ _ _ _ w rx
  ·rw[if_neg h3]
   have hL:=two_len sx.1 (L:=1200) (by omega);exact droot_num _ _ _ _ _ _ _ _ _ _ _ _ _ _ _ _ w (ne1 h1) (ne3 h3) (fun w1 b=>droot_any _ x 128 w1 ⟨_,rfl,rx.later b⟩ (by omega) (by have:=sx.2;omega) (by have:=sx.2;omega) (by omega) (by obtain⟨A,hA,hl⟩:=raised_lt sx;exact two_len hA (by omega))) (fun uo uc w1 h=>numberOf_any (rootT x 128) false uo uc w1 h)
 ·rw[if_pos rfl]
  exact droot_neg _ _ _ _ _ _ _ _ _ _ _ _ _ w (ne1 h1) (fun w1=>noth_any k hk wy 16 w1)
theorem rootV_near {k:Nat} {cx:Int} {gx:Bool} {x:Trip} (hn:Near (rootT x 128)) (h:(rootV k cx gx x).1=2):(rootV k cx gx x).2.2.1.n≠0∧Near (rootV k cx gx x).2.2.1:=by
 unfold rootV at h⊢
 by_cases h1:cx=1
 ·rw[if_pos h1] at h
  exact absurd h (show¬(1:Int)=2 by decide)
 rw[if_neg h1] at h⊢
 cases gx
 ·rw[if_neg (by decide)] at h⊢
  by_cases h3:cx=3
  ·rw[if_pos h3] at h
   exact absurd h (show¬(3:Int)=2 by decide)
  ·rw[if_neg h3] at h⊢
   exact num_near hn h
 ·rw[if_pos rfl] at h
  exact(no_near h).elim
theorem sqrt_any (n way:Int) (a:ByteArray) (w:World) (hT:Tab w):Calls Tryz.prog 30 #[yi n,.string a,yi way] w (ans3 (recT n way [a] (sqrF n a)) w):=by
 refine sqrt_W n way _ _ a _ w (fun pb w1 b1 hl=> ?_)
 refine reckon_any n way [a] _ _ pb w1 (by simp) (by simp) hl (enter_of Tryz.func72 (by kernel_rfl) rfl) (hT.later b1) (fun k hk hn he hN=> ?_)
 subst hn;unfold sqrF;rw[Int.toNat_natCast];obtain⟨sa,-,-⟩:=op_small hk (errL_zero he a (by simp));refine⟨fun h=>rootV_near (root_near sa) h,fun g cap w2 b2 h=> ?_⟩
 obtain⟨xo,xc,r0,k0⟩:=h.each 0 a rfl;exact sqrt1_W _ _ _ _ _ _ _ _ _ _ _ _ _ _ _ _ _ _ _ w2 r0 (fun w3 b3=>droot2_any k hk way _ _ _ _ _ w3 (k0.later b3) sa)
end Go.Proofs.YtnhackdjplppjaaGreatDoor
namespace Go.Proofs.YtnhackdjplppjaaGreatDoor
open Go.RowKit
set_option maxHeartbeats 3200000 in
theorem lclass_ok (n c:Int) (g:Bool) (s:ByteArray) (w:World)
  (HC: ∀w1,Calls Tryz.prog 94 #[yi n,.string s] w1 fun z w'=>z= .returned (.tuple #[yi c,.bool g,yi 0])∧Below w1.heap.size w1 w'):
  Calls Tryz.prog 41 #[yi n,.string s] w fun z w'=>z= .returned (yi c)∧Below w.heap.size w w':=by
 replace HC:Hid _:=HC
 go_enter Tryz.func41,Tryz.ntmps41
 have b0:=Below.refl w.heap.size w
 go_wp2_with fail
 refine(HC.out _).mono ?_;rintro zz w1 ⟨rfl,bb2⟩;have b3:=below_trans b0 bb2;clear b0 bb2 HC
 go_wp2
 go_ret
 exact⟨rfl,b3⟩
set_option maxHeartbeats 3200000 in
theorem oneOf_W (n e:Int) (st:ByteArray) (w:World)
  (HE: ∀q w1,Below w.heap.size w w1→LocE w1 q 141 [.int .u32 1]→Calls Tryz.prog 44 #[yi n,yvV 2 false (.slice (some ⟨q,0,none⟩) 1 1) 0] w1 fun z w'=>z= .returned (.tuple #[.string st,yi e])∧Below w1.heap.size w1 w'):
  Calls Tryz.prog 42 #[yi n] w fun z w'=>z= .returned (.tuple #[.string st,yi e])∧Below w.heap.size w w':=by
 replace HE:Hid _:=HE
 go_enter Tryz.func42,Tryz.ntmps42
 have b0:=Below.refl w.heap.size w;have al1:=below_alloc w (.cells #[.int .u32 1] 141);have q2:=locE_new w [.int .u32 1] 141;have b3:=below_trans b0 al1
 go_wp2_with fail
 refine(HE.out _ _ b3 q2).mono ?_;rintro zz w4 ⟨rfl,bb5⟩;have b6:=below_trans b3 bb5;clear q2 b3 bb5 HE b0 al1
 go_wp2
 go_ret2
 exact⟨rfl,b6⟩
end Go.Proofs.YtnhackdjplppjaaGreatDoor
namespace Go.Proofs.YtnhackdjplppjaaGreatDoor
open Go.RowKit
theorem enc_noth {k:Nat} (hk:1≤k∧k≤8):encE (k:Int) (notC (famC (k:Int))) false [] 0=0:=by
 rcases eight hk with rfl|rfl|rfl|rfl|rfl|rfl|rfl|rfl<;>kernel_rfl
theorem enc_nil {k:Nat} (hk:1≤k∧k≤8) (g:Bool):encE (k:Int) 1 (g&&decide (famC (k:Int)=1)) [] 0=0:=by
 cases g<;>rcases eight hk with rfl|rfl|rfl|rfl|rfl|rfl|rfl|rfl<;>kernel_rfl
theorem encT_ok {k:Nat} {c:Int} {g:Bool} {m:Nat} {p fl:Int} (h:encE (k:Int) c g (Dg.dg 4294967296 m) p=0):encT k c g m p fl=(encS (k:Int) c g (Dg.dg 4294967296 m) p,fl,0):=if_pos h
theorem ans_none {k:Nat} (hk:1≤k∧k≤8) (way fl:Int): ∃s,ansT k way (notC (famC (k:Int))) false ⟨false,0,0⟩ fl=(s,fl,0):=by
 unfold ansT;rw[if_neg (show¬notC (famC (k:Int))=2 from fun h=>no_near (k:=k) (fl:=0) h)]
 by_cases h1:notC (famC (k:Int))=1
 ·rw[if_pos h1,Bool.false_and]
  have:=enc_noth hk;rw[h1] at this;exact⟨_,encT_ok this⟩
 ·rw[if_neg h1]
  exact⟨_,encT_ok (enc_noth hk)⟩
theorem ans_zero {k:Nat} (hk:1≤k∧k≤8) (way:Int) (g:Bool) (t:Trip) (fl:Int): ∃s,ansT k way 1 g t fl=(s,fl,0)∧patC (k:Int) s=0∧decC (k:Int) s=1:=by
 unfold ansT;rw[if_neg (by decide),if_pos rfl];have h:=enc_nil hk g;refine⟨encS (k:Int) 1 (g&&decide (famC (k:Int)=1)) [] 0,encT_ok h, ?_⟩;obtain⟨e1,e2,-⟩:=enc_dec hk (Dg.small_nil _ (by omega)) h;have hf:famC (k:Int)≠0:=by rcases fam_cases hk with h|h|h<;>omega
 have hp:patC (k:Int) (encS (k:Int) 1 (g&&decide (famC (k:Int)=1)) [] 0)=0:=by
  unfold patC;rw[if_neg hf,Int.toNat_natCast,if_pos e1]
 refine⟨hp, ?_⟩;unfold decC;rw[if_pos hp,Int.toNat_natCast];omega
theorem self_over {t:Trip} (h:t.n≠0):overT t t 128=⟨false,2^128*2,-129⟩:=by
 have hS:overS t t 128=128:=by unfold overS;omega
 unfold overT endlessT;rw[hS,Nat.mul_mod_right,Nat.mul_div_cancel_left _ (Nat.pos_of_ne_zero h)];have:(t.s != t.s)=false:=by cases t.s<;>rfl
 rw[this]
 congr 1
 omega
theorem one_place {k:Nat} (hk:1≤k∧k≤8) (way:Int):encT k (setV k way (plcT k way ⟨false,2^128*2,-129⟩)).1 (setV k way (plcT k way ⟨false,2^128*2,-129⟩)).2.1 (setV k way (plcT k way ⟨false,2^128*2,-129⟩)).2.2.1 (setV k way (plcT k way ⟨false,2^128*2,-129⟩)).2.2.2.1 (bits .or .i64 0 (setV k way (plcT k way ⟨false,2^128*2,-129⟩)).2.2.2.2)=(encS (k:Int) 2 false [1] 0,0,0)∧encE (k:Int) 2 false [1] 0=0:=by
 have h: ∃d p,plcT k way ⟨false,2^128*2,-129⟩=⟨false,d,p,true,false,false⟩∧d≠0∧encE (k:Int) 2 false (Dg.dg 4294967296 d) p=0∧encS (k:Int) 2 false (Dg.dg 4294967296 d) p=encS (k:Int) 2 false [1] 0∧encE (k:Int) 2 false [1] 0=0:=by
  rcases eight hk with rfl|rfl|rfl|rfl|rfl|rfl|rfl|rfl
  ·exact⟨8388608,-23,by kernel_rfl,by decide,by kernel_rfl,by kernel_rfl,by kernel_rfl⟩
  ·exact⟨4503599627370496,-52,by kernel_rfl,by decide,by kernel_rfl,by kernel_rfl,by kernel_rfl⟩
  ·exact⟨9223372036854775808,-63,by kernel_rfl,by decide,by kernel_rfl,by kernel_rfl,by kernel_rfl⟩
  ·exact⟨1048576,-5,by kernel_rfl,by decide,by kernel_rfl,by kernel_rfl,by kernel_rfl⟩
  ·exact⟨4503599627370496,-13,by kernel_rfl,by decide,by kernel_rfl,by kernel_rfl,by kernel_rfl⟩
  ·exact⟨8388608,-23,by kernel_rfl,by decide,by kernel_rfl,by kernel_rfl,by kernel_rfl⟩
  ·exact⟨36028797018963968,-55,by kernel_rfl,by decide,by kernel_rfl,by kernel_rfl,by kernel_rfl⟩
  ·exact⟨4503599627370496,-52,by kernel_rfl,by decide,by kernel_rfl,by kernel_rfl,by kernel_rfl⟩
 obtain⟨d,p,h1,h2,h3,h4,h5⟩:=h;refine⟨?_,h5⟩;rw[h1];have hs:setV k way ⟨false,d,p,true,false,false⟩=(2,false,d,p,0):=by
  unfold setV;rw[if_neg (fun c=>by cases c),if_neg (fun c=>by cases c.1),if_neg h2,if_pos rfl]
 rw[hs]
 show encT k 2 false d p (bits .or .i64 0 0)=_
 rw[encT_ok h3,h4];rfl
theorem lawclass_any (n:Int) (s:ByteArray) (w:World) (h:patC n s=0):Calls Tryz.prog 41 #[yi n,.string s] w fun z w'=>z= .returned (yi ((decC n s:Nat):Int))∧Below w.heap.size w w':=
 lclass_ok n _ _ s w (fun w1=>by have:=class_any n s w1;rw[h] at this;exact this)
theorem oneOf_any (k:Nat) (hk:1≤k∧k≤8) (w:World) (hT:Tab w):Calls Tryz.prog 42 #[yi (k:Int)] w fun z w'=>z= .returned (.tuple #[.string (encS (k:Int) 2 false [1] 0),yi 0])∧Below w.heap.size w w':=
 oneOf_W (k:Int) 0 _ w (fun q w1 b hl=>by
  have:=encode_any (k:Int) 2 false (some ⟨q,0,none⟩) 1 [1] 0 w1 (rd_one (hl.cell 0 rfl)) (Dg.small_cons.2 ⟨by omega,Dg.small_nil _ (by omega)⟩) (hT.later b);rw[(one_place hk 1).2] at this;exact this)
end Go.Proofs.YtnhackdjplppjaaGreatDoor
namespace Go.Proofs.YtnhackdjplppjaaGreatDoor
open Go.RowKit
def Loc6 (w:World) (b:Nat) (v0 v1 v2 v3 v4 v5:Value):Prop:=
 b<w.heap.size∧(w.cell? ⟨b,0,none⟩=some v0∧w.cell? ⟨b,1,none⟩=some v1∧w.cell? ⟨b,2,none⟩=some v2∧w.cell? ⟨b,3,none⟩=some v3∧w.cell? ⟨b,4,none⟩=some v4∧w.cell? ⟨b,5,none⟩=some v5)∧
  (w.frozen? ⟨b,0,none⟩=false∧w.frozen? ⟨b,1,none⟩=false∧w.frozen? ⟨b,2,none⟩=false∧w.frozen? ⟨b,3,none⟩=false∧w.frozen? ⟨b,4,none⟩=false∧w.frozen? ⟨b,5,none⟩=false)
theorem Loc6.later {w w':World} {b:Nat} {v0 v1 v2 v3 v4 v5:Value} (h:Loc6 w b v0 v1 v2 v3 v4 v5) (hb:Below w.heap.size w w'):Loc6 w' b v0 v1 v2 v3 v4 v5:=by
 obtain⟨hl,⟨c0,c1,c2,c3,c4,c5⟩,f0,f1,f2,f3,f4,f5⟩:=h;refine⟨Nat.lt_of_lt_of_le hl hb.size,⟨cell_later hb c0,cell_later hb c1,cell_later hb c2,cell_later hb c3,cell_later hb c4,cell_later hb c5⟩, ?_, ?_, ?_, ?_, ?_, ?_⟩
 all_goals rw[hb.frozen (by exact hl)];assumption
end Go.Proofs.YtnhackdjplppjaaGreatDoor
namespace Go.Proofs.YtnhackdjplppjaaGreatDoor
open Go.RowKit
def ZB6 (w:World) (b:Nat):Prop:=b<w.heap.size∧ ∃ty,w.heap[b]? =some (.cells #[.bool false,.slice none 0 0,yi 0,.bool false,.slice none 0 0,yi 0] ty (0,0))
theorem ZB6.later {w w':World} {b:Nat} (h:ZB6 w b) (hb:Below w.heap.size w w'):ZB6 w' b:=by
 obtain⟨hl,ty,hh⟩:=h;exact⟨Nat.lt_of_lt_of_le hl hb.size,ty,(hb.block b hl).trans hh⟩
theorem ZB6.rd {w:World} {b:Nat} {v:Value} {zs:List Nat} (h:ZB6 w b) (hr:Rd w .i64 v zs) (hn:Dg.Norm zs) (x0 x1 x2 x3 x4 x5:Value):
  Rd ((((((w.setCell ⟨b,0,none⟩ x0).setCell ⟨b,1,none⟩ x1).setCell ⟨b,2,none⟩ x2).setCell ⟨b,3,none⟩ x3).setCell ⟨b,4,none⟩ x4).setCell ⟨b,5,none⟩ x5) .i64 v zs:=by
 obtain⟨hl,ty,hh⟩:=h;obtain⟨ao,cap,rfl,h1,h2,h3⟩:=hr;refine⟨ao,cap,rfl,h1,h2,fun hp=> ?_⟩
 obtain⟨c,off,rfl,hc⟩:=h3 hp;refine⟨c,off,rfl,fun i hi=> ?_⟩
 have hne:c≠b:=by
  intro e;subst e;have k1:=hc (zs.length-1) (by omega);have hz:=hn (List.length_pos_iff.1 hp);unfold World.cell? at k1;simp only[hh] at k1;obtain⟨o,ho⟩: ∃o,off+(zs.length-1)=o:=⟨_,rfl⟩;rw[ho] at k1;generalize zs.getD (zs.length-1) 0=d at*
  match o,k1 with
  |0,k1=>simp at k1
  |1,k1=>simp at k1
  |2,k1=>simp at k1;omega
  |3,k1=>simp at k1
  |4,k1=>simp at k1
  |5,k1=>simp at k1;omega
  |o+6,k1=>simp at k1
 rw[World.cell?_setCell_other (h:=by simp),World.cell?_setCell_other (h:=by simp),World.cell?_setCell_other (h:=by simp),World.cell?_setCell_other (h:=by simp),World.cell?_setCell_other (h:=by simp),World.cell?_setCell_other (h:=by simp)];exact hc i hi
end Go.Proofs.YtnhackdjplppjaaGreatDoor
namespace Go.Proofs.YtnhackdjplppjaaGreatDoor
def cmpT (a b:Trip):Int:=signT (plusT a (negT b))
def hiI (x:Nat→Trip):Nat→Nat
 |0=>0
 |i+1=>if 0<cmpT (x (i+1)) (x (hiI x i)) then i+1 else hiI x i
end Go.Proofs.YtnhackdjplppjaaGreatDoor
namespace Go.Proofs.YtnhackdjplppjaaGreatDoor
open Go.RowKit
theorem Loc6.apart3 {w:World} {b c:Nat} {v0 v1 v2 v3 v4 v5:Value} (h:Loc6 w b v0 v1 v2 v3 v4 v5) (hne:c≠b) (x0 x1 x2:Value):
  Loc6 (((w.setCell ⟨c,0,none⟩ x0).setCell ⟨c,1,none⟩ x1).setCell ⟨c,2,none⟩ x2) b v0 v1 v2 v3 v4 v5:=by
 obtain⟨hl,⟨c0,c1,c2,c3,c4,c5⟩,f0,f1,f2,f3,f4,f5⟩:=h;refine⟨by simpa using hl,⟨?_, ?_, ?_, ?_, ?_, ?_⟩,by simpa using f0,by simpa using f1,by simpa using f2,by simpa using f3,by simpa using f4,by simpa using f5⟩
 all_goals (rw[World.cell?_setCell_other (h:=by simp),World.cell?_setCell_other (h:=by simp),World.cell?_setCell_other (h:=by simp)];assumption)
end Go.Proofs.YtnhackdjplppjaaGreatDoor
namespace Go.Proofs.YtnhackdjplppjaaGreatDoor
open Go.RowKit
def left (listed:Array Bool):Nat:=(listed.toList.filter (fun b=> !b)).length
end Go.Proofs.YtnhackdjplppjaaGreatDoor
namespace Go.Proofs.YtnhackdjplppjaaGreatDoor
open Go.RowKit
def NewL (W:World) (base:Nat) (v:Value):Prop:= ∃p,v= .pointer (some ⟨p,0,none⟩)∧base≤p∧Loc W p (.bool false) (.slice none 0 0) (yi 0)
theorem NewL.later {W W':World} {base:Nat} {v:Value} (h:NewL W base v) (hb:Below W.heap.size W W'):NewL W' base v:=by
 obtain⟨p,h1,h2,h3⟩:=h;exact⟨p,h1,h2,h3.later hb⟩
end Go.Proofs.YtnhackdjplppjaaGreatDoor
namespace Go.Proofs.YtnhackdjplppjaaGreatDoor
open Go.RowKit
def New6 (W:World) (base:Nat) (v:Value):Prop:= ∃p,v= .pointer (some ⟨p,0,none⟩)∧base≤p∧Loc6 W p (.bool false) (.slice none 0 0) (yi 0) (.bool false) (.slice none 0 0) (yi 0)∧ZB6 W p
def NewZ (W:World) (base:Nat) (v:Value):Prop:= ∃p,v= .pointer (some ⟨p,0,none⟩)∧base≤p∧Loc W p (.bool false) (.slice none 0 0) (yi 0)∧ZB W p
theorem New6.later {W W':World} {base:Nat} {v:Value} (h:New6 W base v) (hb:Below W.heap.size W W'):New6 W' base v:=by
 obtain⟨p,h1,h2,h3,h4⟩:=h;exact⟨p,h1,h2,h3.later hb,h4.later hb⟩
theorem NewZ.later {W W':World} {base:Nat} {v:Value} (h:NewZ W base v) (hb:Below W.heap.size W W'):NewZ W' base v:=by
 obtain⟨p,h1,h2,h3,h4⟩:=h;exact⟨p,h1,h2,h3.later hb,h4.later hb⟩
theorem ZB.off {w w':World} {q b:Nat} (h:ZB w q) (hg:w.grownBy w' (some b)) (hne:q≠b):ZB w' q:=by
 obtain⟨hl,ty,hh⟩:=h;exact⟨Nat.lt_of_lt_of_le hl hg.size,ty,(hg.block q hl (by intro e;cases e;exact hne rfl)).trans hh⟩
theorem ZB6.off {w w':World} {q b:Nat} (h:ZB6 w q) (hg:w.grownBy w' (some b)) (hne:q≠b):ZB6 w' q:=by
 obtain⟨hl,ty,hh⟩:=h;exact⟨Nat.lt_of_lt_of_le hl hg.size,ty,(hg.block q hl (by intro e;cases e;exact hne rfl)).trans hh⟩
def RB6 (W:World) (v:Value) (x y:Trip):Prop:= ∃p q,v= .agg #[.bool x.s,p,yi x.e,.bool y.s,q,yi y.e]∧Rd W .i64 p (Dg.dg 65536 x.n)∧Rd W .i64 q (Dg.dg 65536 y.n)
theorem RB6.later {W W':World} {v:Value} {x y:Trip} (h:RB6 W v x y) (hb:Below W.heap.size W W'):RB6 W' v x y:=by
 obtain⟨p,q,h1,h2,h3⟩:=h;exact⟨p,q,h1,h2.later hb,h3.later hb⟩
end Go.Proofs.YtnhackdjplppjaaGreatDoor
namespace Go.Proofs.YtnhackdjplppjaaGreatDoor
open Go.RowKit
theorem bitLen_pos {p:Nat} (hp:p≠0):1≤bitLen p:=by
 have h:=(bitLen_spec p).1
 rcases Nat.eq_zero_or_pos (bitLen p) with h0|h0
 ·rw[h0] at h
  omega
 ·exact h0
theorem quot_big {p q S B:Nat} (hp:p≠0) (hq:0<q) (hB:1≤B) (hS:B+bitLen q≤bitLen p+S):2^B≤2*(p*2^S/q):=by
 have h1:=(bitLen_spec p).2 hp;have h2:=(bitLen_spec q).1;have hb:=bitLen_pos hp;have h3:2^ (B-1)≤p*2^S/q:=by
  rw[Nat.le_div_iff_mul_le hq];have h6:2^ (B-1)*q≤2^ (B-1)*2^bitLen q:=Nat.mul_le_mul_left _ (Nat.le_of_lt h2);rw[←Nat.pow_add] at h6;have h4:2^ (B-1+bitLen q)≤2^ (bitLen p-1+S):=Nat.pow_le_pow_right (by omega) (by omega);rw[Nat.pow_add 2 (bitLen p-1)] at h4;have h5:2^ (bitLen p-1)*2^S≤p*2^S:=Nat.mul_le_mul_right _ h1;omega
 have h7:2^B=2*2^ (B-1):=by
  rw[←Nat.pow_succ']
  congr 1
  omega
 omega
end Go.Proofs.YtnhackdjplppjaaGreatDoor
namespace Go.Proofs.YtnhackdjplppjaaGreatDoor
theorem over_big {a b:Trip} (h0:a.n≠0) (hb:b.n≠0):2^128≤2*(a.n*2^overS a b 128/b.n):=quot_big h0 (by omega) (by omega) (by unfold overS;omega)
theorem over_round {R D L G:Int} {gr s:Bool} {way:Int} {a b:Trip} (h0:a.n≠0) (hb:b.n≠0) (hD:1≤D) (hw:widthN R*D.toNat≤64):
  (overT a b 128).n≠0∧roundT R D L G gr s (overT a b 128).n 1 (overT a b 128).e way=roundT R D L G gr s a.n b.n (a.e-b.e) way:=by
 have hl:=like_endless a.n b.n (overS a b 128) (a.e-b.e) (a.s != b.s) _ hb rfl;have hg:=over_big h0 hb;have hp:=two_pos 128;have e1:(overT a b 128).n=a.n*2^overS a b 128/b.n*2+(if decide (0<a.n*2^overS a b 128 % b.n)=true then 1 else 0):=rfl
 have h2:2^128≤(overT a b 128).n:=by rw[e1];omega
 have hn:(overT a b 128).n≠0:=by omega
 refine⟨hn, ?_⟩;refine round_like hn (by omega) h0 hb hD hw hl.symm ?_;have h3:128<bitLen (overT a b 128).n:=by
  rcases Nat.lt_or_ge 128 (bitLen (overT a b 128).n) with g|g
  ·exact g
  ·have:=bit_lt g
   omega
 have h4:=topQ_one hn (overT a b 128).e;have h5:(overT a b 128).e=a.e-b.e-(overS a b 128:Int)-1:=rfl
 show a.e-b.e-(overS a b 128:Int)+64≤topQ (overT a b 128).n 1 (overT a b 128).e
 rw[h4,h5];omega
end Go.Proofs.YtnhackdjplppjaaGreatDoor
