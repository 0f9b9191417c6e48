/-
  Texts laid together: Bl6, Bm1, Bs1, Inv, BlN, BlM, Bm4, Rk3.
-/
import Derived.OrdersHeld
import Derived.Test.YtnhackdjplppjaaGreatDoorUe02
namespace Go.Proofs.YtnhackdjplppjaaGreatDoor
open Go.RowKit
def ZB6 (w:World)(b:Nat):Prop:=b<w.heap.size∧ ∃ty,w.heap[b]? =some (.cells #[.bool false,.slice none 0 0,yi 0,.bool false,.slice none 0 0,yi 0] ty (0,0))
theorem ZB6.l {w w':World}{b:Nat}(h:ZB6 w b)(hb:yB w w'):ZB6 w' b:=by
 obtain⟨hl,ty,hh⟩:=h;exact⟨Nat.lt_of_lt_of_le hl hb.size,ty,(hb.block b hl).trans hh⟩
theorem ZB6.rd {w:World}{b:Nat}{v:Value}{zs:List Nat}(h:ZB6 w b)(hr:Rd w .i64 v zs)(hn:Dg.Norm zs)(x0 x1 x2 x3 x4 x5:Value):
  Rd ((((((w.setCell ⟨b,0,none⟩ x0).setCell ⟨b,1,none⟩ x1).setCell ⟨b,2,none⟩ x2).setCell ⟨b,3,none⟩ x3).setCell ⟨b,4,none⟩ x4).setCell ⟨b,5,none⟩ x5) .i64 v zs:=by
 obtain⟨hl,ty,hh⟩:=h;obtain⟨ao,cap,rfl,h1,h2,h3⟩:=hr;refine⟨ao,cap,rfl,h1,h2,fun hp=> ?_⟩
 obtain⟨c,off,rfl,hc⟩:=h3 hp;refine⟨c,off,rfl,fun i hi=> ?_⟩
 have hne:c≠b:=by
  intro e;subst e;have k1:=hc (zs.length-1) (by omega);have hz:=hn (List.length_pos_iff.1 hp);unfold World.cell? at k1;simp only[hh] at k1;obtain⟨o,ho⟩: ∃o,off+(zs.length-1)=o:=⟨_,rfl⟩;rw[ho] at k1;generalize zs.getD (zs.length-1) 0=d at*
  match o,k1 with
  |0,k1=>simp at k1
  |1,k1=>simp at k1
  |2,k1=>simp at k1;omega
  |3,k1=>simp at k1
  |4,k1=>simp at k1
  |5,k1=>simp at k1;omega
  |o+6,k1=>simp at k1
 rw[World.cell?_setCell_other (h:=by simp),World.cell?_setCell_other (h:=by simp),World.cell?_setCell_other (h:=by simp),World.cell?_setCell_other (h:=by simp),World.cell?_setCell_other (h:=by simp),World.cell?_setCell_other (h:=by simp)];exact hc i hi
def bJ (a b:ak):Int:=dJ (aG a (dV b))
def hiI (x:Nat→ak):Nat→Nat
 |0=>0
 |i+1=>if 0<bJ (x (i+1)) (x (hiI x i)) then i+1 else hiI x i
theorem mL.apart3 {w:World}{b c:Nat}{v0 v1 v2 v3 v4 v5:Value}(h:mL w b v0 v1 v2 v3 v4 v5)(hne:c≠b)(x0 x1 x2:Value):
  mL (((w.setCell ⟨c,0,none⟩ x0).setCell ⟨c,1,none⟩ x1).setCell ⟨c,2,none⟩ x2) b v0 v1 v2 v3 v4 v5:=by
 obtain⟨hl,⟨c0,c1,c2,c3,c4,c5⟩,f0,f1,f2,f3,f4,f5⟩:=h;refine⟨by simpa using hl,⟨?_, ?_, ?_, ?_, ?_, ?_⟩,by simpa using f0,by simpa using f1,by simpa using f2,by simpa using f3,by simpa using f4,by simpa using f5⟩
 all_goals (rw[World.cell?_setCell_other (h:=by simp),World.cell?_setCell_other (h:=by simp),World.cell?_setCell_other (h:=by simp)];assumption)
def left (listed:Array Bool):Nat:=(listed.toList.filter (fun b=> !b)).length
def Ag (W:World)(base:Nat)(v:Value):Prop:= ∃p,v= .pointer (some ⟨p,0,none⟩)∧base≤p∧Loc W p (.bool false) (.slice none 0 0) (yi 0)
theorem Ag.l {W W':World}{base:Nat}{v:Value}(h:Ag W base v)(hb:yB W W'):Ag W' base v:=by
 obtain⟨p,h1,h2,h3⟩:=h;exact⟨p,h1,h2,h3.l hb⟩
def BT (W:World)(base:Nat)(v:Value):Prop:= ∃p,v= .pointer (some ⟨p,0,none⟩)∧base≤p∧mL W p (.bool false) (.slice none 0 0) (yi 0) (.bool false) (.slice none 0 0) (yi 0)∧ZB6 W p
def V4 (W:World)(base:Nat)(v:Value):Prop:= ∃p,v= .pointer (some ⟨p,0,none⟩)∧base≤p∧Loc W p (.bool false) (.slice none 0 0) (yi 0)∧ZB W p
theorem BT.l {W W':World}{base:Nat}{v:Value}(h:BT W base v)(hb:yB W W'):BT W' base v:=by
 obtain⟨p,h1,h2,h3,h4⟩:=h;exact⟨p,h1,h2,h3.l hb,h4.l hb⟩
theorem V4.l {W W':World}{base:Nat}{v:Value}(h:V4 W base v)(hb:yB W W'):V4 W' base v:=by
 obtain⟨p,h1,h2,h3,h4⟩:=h;exact⟨p,h1,h2,h3.l hb,h4.l hb⟩
theorem ZB.off {w w':World}{q b:Nat}(h:ZB w q)(hg:w.grownBy w' (some b))(hne:q≠b):ZB w' q:=by
 obtain⟨hl,ty,hh⟩:=h;exact⟨Nat.lt_of_lt_of_le hl hg.size,ty,(hg.block q hl (by intro e;cases e;exact hne rfl)).trans hh⟩
theorem ZB6.off {w w':World}{q b:Nat}(h:ZB6 w q)(hg:w.grownBy w' (some b))(hne:q≠b):ZB6 w' q:=by
 obtain⟨hl,ty,hh⟩:=h;exact⟨Nat.lt_of_lt_of_le hl hg.size,ty,(hg.block q hl (by intro e;cases e;exact hne rfl)).trans hh⟩
def RB6 (W:World)(v:Value)(x y:ak):Prop:= ∃p q,v= .agg #[.bool x.s,p,yi x.e,.bool y.s,q,yi y.e]∧Rd W .i64 p (Dg.dg 65536 x.n)∧Rd W .i64 q (Dg.dg 65536 y.n)
theorem RB6.l {W W':World}{v:Value}{x y:ak}(h:RB6 W v x y)(hb:yB W W'):RB6 W' v x y:=by
 obtain⟨p,q,h1,h2,h3⟩:=h;exact⟨p,q,h1,h2.l hb,h3.l hb⟩
theorem Gq {p:Nat}(hp:p≠0):1≤bitLen p:=by
 have h:=(bitLen_spec p).1
 rcases Nat.eq_zero_or_pos (bitLen p) with h0|h0
 ·rw[h0] at h
  omega
 ·exact h0
theorem BK {p q S B:Nat}(hp:p≠0)(hq:0<q)(hB:1≤B)(hS:B+bitLen q≤bitLen p+S):2^B≤2*(p*2^S/q):=by
 have h1:=(bitLen_spec p).2 hp;have h2:=(bitLen_spec q).1;have hb:=Gq hp;have h3:2^ (B-1)≤p*2^S/q:=by
  rw[Nat.le_div_iff_mul_le hq];have h6:2^ (B-1)*q≤2^ (B-1)*2^bitLen q:=Nat.mul_le_mul_left _ (Nat.le_of_lt h2);rw[←Nat.pow_add] at h6;have h4:2^ (B-1+bitLen q)≤2^ (bitLen p-1+S):=Nat.pow_le_pow_right (by omega) (by omega);rw[Nat.pow_add 2 (bitLen p-1)] at h4;have h5:2^ (bitLen p-1)*2^S≤p*2^S:=Nat.mul_le_mul_right _ h1;omega
 have h7:2^B=2*2^ (B-1):=by
  rw[←Nat.pow_succ']
  congr 1
  omega
 omega
theorem Wk {a b:ak}(h0:a.n≠0)(hb:b.n≠0):2^128≤2*(a.n*2^gV a b 128/b.n):=BK h0 (by omega) (by omega) (by unfold gV;omega)
theorem D8 {R D L G:Int}{gr s:Bool}{way:Int}{a b:ak}(h0:a.n≠0)(hb:b.n≠0)(hD:1≤D)(hw:ai R*D.toNat≤64):
  (cK a b 128).n≠0∧cI R D L G gr s (cK a b 128).n 1 (cK a b 128).e way=cI R D L G gr s a.n b.n (a.e-b.e) way:=by
 have hl:=vP a.n b.n (gV a b 128) (a.e-b.e) (a.s != b.s) _ hb rfl;have hg:=Wk h0 hb;have hp:=bG 128;have e1:(cK a b 128).n=a.n*2^gV a b 128/b.n*2+(if decide (0<a.n*2^gV a b 128 % b.n)=true then 1 else 0):=rfl
 have h2:2^128≤(cK a b 128).n:=by rw[e1];omega
 have hn:(cK a b 128).n≠0:=by omega
 refine⟨hn, ?_⟩;refine AC hn (by omega) h0 hb hD hw hl.symm ?_;have h3:128<bitLen (cK a b 128).n:=by
  rcases Nat.lt_or_ge 128 (bitLen (cK a b 128).n) with g|g
  ·exact g
  ·have:=wZ g
   omega
 have h4:=lU hn (cK a b 128).e;have h5:(cK a b 128).e=a.e-b.e-(gV a b 128:Int)-1:=rfl
 show a.e-b.e-(gV a b 128:Int)+64≤dY (cK a b 128).n 1 (cK a b 128).e
 rw[h4,h5];omega
end Go.Proofs.YtnhackdjplppjaaGreatDoor
