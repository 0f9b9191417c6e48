/-
  Texts laid together: Dz, Ab1, Div1, Dy2, Dy7, Bl1, Bm1, Bs1, Bs2, Co15, Dn1, BlM, Gk3.
-/
import Derived.Test.YtiakgfmlpdfhdaaDoorSv01
import Derived.Test.YtiakgfmlpdfhdaaDoorSv03
import Derived.Test.YtiakgfmlpdfhdaaDoorSv05
namespace Go.Proofs.YtiakgfmlpdfhdaaDoor
open Go.RowKit
theorem eS {K:Nat}{a b:ak}(ha: -(K:Int)≤a.e)(hb: -(K:Int)≤b.e): -(K:Int)≤(aG a b).e:=by
 unfold aG;simp only
 split
 ·simp only;omega
 ·split<;>(simp only;omega)
theorem kr {K:Nat}{a b:ak}(ha: -(K:Int)≤a.e)(hb: -(K:Int)≤b.e):V (K+K) (aK a b)=V K a*V K b:=by
 unfold V aK;simp only;rw[Ny];have:(a.e+b.e+((K+K:Nat):Int)).toNat=(a.e+K).toNat+(b.e+K).toNat:=by omega
 rw[this,Nat.pow_add,Int.natCast_mul];rw[Int.mul_assoc,Int.mul_assoc]
 congr 1
 rw[←Int.mul_assoc,←Int.mul_assoc,Int.mul_comm (sz b.s b.n)]
abbrev yOL (c:Int)(g:Bool)(t:ak)(o:Option Addr)(k:Nat):List Value:=[.int .i64 c,.bool g,.bool t.s,.slice o (Dg.dg 4294967296 t.n).length k,.int .i64 t.e]
abbrev yOV (c:Int)(g:Bool)(t:ak)(o:Option Addr)(k:Nat):Value:= .agg #[.int .i64 c,.bool g,.bool t.s,.slice o (Dg.dg 4294967296 t.n).length k,.int .i64 t.e]
abbrev yOA (c:Int)(g:Bool)(t:ak)(o:Option Addr)(k:Nat):Array Value:= #[.int .i64 c,.bool g,.bool t.s,.slice o (Dg.dg 4294967296 t.n).length k,.int .i64 t.e]
abbrev yDL (t:ak)(o:Option Addr)(k:Nat):List Value:=[.bool t.s,.slice o (Dg.dg 4294967296 t.n).length k,.int .i64 t.e]
abbrev yDV (t:ak)(o:Option Addr)(k:Nat):Value:= .agg #[.bool t.s,.slice o (Dg.dg 4294967296 t.n).length k,.int .i64 t.e]
abbrev yDA (t:ak)(o:Option Addr)(k:Nat):Array Value:= #[.bool t.s,.slice o (Dg.dg 4294967296 t.n).length k,.int .i64 t.e]
theorem Nw {P:Program}{w:World}{base e:Nat}{k:IntKind}{g n m cap:Nat}{ao:Option Addr}{ds zs:List Nat}(dT sT ty:Nat)(hu:P.underlying dT=some (.slice e))(hsz:(P.info? e).map (·.size)=some 1)
  (ho:Own w base e k (.slice (some ⟨g,0,none⟩) n n) ds) (hr:Rd w k (.slice ao m cap) zs) (hle:zs.length≤ds.length):
  ∃w1,(Builtin.copy_ #[dT,sT] ty #[.slice (some ⟨g,0,none⟩) n n,.slice ao m cap]).run P w= .ok (yi m) w1∧Own w1 base e k (.slice (some ⟨g,0,none⟩) n n) (zs++ds.drop zs.length)∧w.grownBy w1 (some g):=by
 have hn:=ho.len;have hm:=wn hr;subst hn hm;have hh:=ho.heap;have hbl:=ho.block;have hml:ds.length≤maxLen:=by
  rcases ho.2 with⟨hv,_⟩| ⟨g',cap',cur,hv,hb,hh,hnc,hcm,hcs,htake⟩
  ·simp at hv
  ·omega
 by_cases h0:zs.length=0
 ·obtain rfl:zs=[]:=List.eq_nil_of_length_eq_zero h0
  refine⟨w,run_copy_none (P:=P) w dT sT ty e _ _ _ _ _ _ hu hsz (by simp),by simpa using ho,⟨rfl,rfl,rfl,Nat.le_refl _,fun _ _ _=>rfl⟩⟩
 ·obtain⟨-,-,hc⟩:=iQ hr
  obtain⟨b,off,rfl,hcell⟩:=hc (by omega);have hrun:=run_copy_row (P:=P) w dT sT ty e g 0 ds.length ds.length ⟨b,off,none⟩ zs.length cap _ e (zs.map (fun n:Nat=>Value.int k n)) hu hsz hh (by rw[List.length_map];exact(Nat.min_eq_left hle).symm)
   (by
    intro j u hj;have hjl:j<zs.length:=by have:=(List.getElem?_eq_some_iff.1 hj).1;simpa using this
    rw[j9 k zs j hjl] at hj;rw[rO,hcell j hjl];exact hj)
   (by simpa using hle) (by intro u hu;simp at hu;obtain⟨a,_,rfl⟩:=hu;rfl)
  refine⟨w.setRow g (zs.map (fun n:Nat=>Value.int k n)++(ds.map (fun n:Nat=>Value.int k n)).drop zs.length).toArray,by rw[hrun];simp[goInt], ?_,⟨rfl,rfl,rfl,by simp[World.setRow],fun j _ hj=>setRow_other w g j _ (fun e=>hj (by rw[e]))⟩⟩
  have hlen:(zs++ds.drop zs.length).length=ds.length:=by simp;omega
  have:=pr (w:=w.setRow g (zs.map (fun n:Nat=>Value.int k n)++(ds.map (fun n:Nat=>Value.int k n)).drop zs.length).toArray) (base:=base) (e:=e) (k:=k) (g:=g) (zs:=zs++ds.drop zs.length)
   (by rw[Nv w g _ _ e hh];simp[List.map_drop]) hbl.1 (by omega)
  rw[hlen] at this
  simpa using this
theorem Own.apart3 {w:World}{base e b:Nat}{k:IntKind}{v:Value}{zs:List Nat}(h:Own w base e k v zs)(hb:b<base)(x0 x1 x2:Value):
  Own (((w.setCell ⟨b,0,none⟩ x0).setCell ⟨b,1,none⟩ x1).setCell ⟨b,2,none⟩ x2) base e k v zs:=
 ((h.apart (bI w b 0 x0) hb).apart (bI _ b 1 x1) hb).apart (bI _ b 2 x2) hb
theorem RZ (x y L:Nat)(hx:(Dg.dg 4294967296 x).length≤L)(hy:(Dg.dg 4294967296 y).length≤L):(Dg.dg 4294967296 (x+y)).length≤L+1:=by
 apply Dg.dg_len_le 4294967296 _ _ (by omega);have h1:=Dg.vl_lt 4294967296 (Dg.dg 4294967296 x) (Dg.small_dg _ _ (by omega));have h2:=Dg.vl_lt 4294967296 (Dg.dg 4294967296 y) (Dg.small_dg _ _ (by omega));rw[Dg.vl_dg _ _ (by omega)] at h1 h2;have h3:4294967296^ (Dg.dg 4294967296 x).length≤4294967296^L:=Nat.pow_le_pow_right (by omega) hx;have h4:4294967296^ (Dg.dg 4294967296 y).length≤4294967296^L:=Nat.pow_le_pow_right (by omega) hy;rw[Nat.pow_succ];omega
def cu (s:Bool)(xs:List Nat)(e:Int)(t:Bool)(ys:List Nat)(f:Int):Int:=
 if dQ xs e ys f=0 then(if 0<dJ (aG ⟨s,Dg.vl 4294967296 xs,e⟩ (dV ⟨t,Dg.vl 4294967296 ys,f⟩)) then 4 else 0) else dQ xs e ys f
theorem oY {K:Nat}{a b:ak}(ha: -(K:Int)≤a.e)(hb: -(K:Int)≤b.e):bJ a b=sgn (V K a-V K b):=by
 have h1:V K (aG a (dV b))=V K a-V K b:=by rw[dH ha (by exact hb),pC];omega
 rw[←h1,Di];rfl
theorem uO {K:Nat}{a b:ak}(ha: -(K:Int)≤a.e)(hb: -(K:Int)≤b.e):bJ a b<0↔V K a<V K b:=by
 rw[oY ha hb];unfold sgn
 split
 ·omega
 ·split<;>omega
theorem ol {K:Nat}{a b:ak}(ha: -(K:Int)≤a.e)(hb: -(K:Int)≤b.e):0<bJ a b↔V K b<V K a:=by
 rw[oY ha hb];unfold sgn
 split
 ·omega
 ·split<;>omega
theorem adV (a b:ak):bJ a b= -1∨bJ a b=0∨bJ a b=1:=by
 unfold bJ dJ
 split
 ·omega
 ·split<;>omega
def loT (x:Nat→ak)(i:Nat):ak:=x (loI x i)
def hiT (x:Nat→ak)(i:Nat):ak:=x (hiI x i)
theorem DN {x:Nat→ak}{i:Nat}(h:bJ (x (i+1)) (x (loI x i))<0):loI x (i+1)=i+1:=if_pos h
theorem DO {x:Nat→ak}{i:Nat}(h: ¬bJ (x (i+1)) (x (loI x i))<0):loI x (i+1)=loI x i:=if_neg h
theorem uP {x:Nat→ak}{i:Nat}(h:0<bJ (x (i+1)) (x (hiI x i))):hiI x (i+1)=i+1:=if_pos h
theorem uQ {x:Nat→ak}{i:Nat}(h: ¬0<bJ (x (i+1)) (x (hiI x i))):hiI x (i+1)=hiI x i:=if_neg h
theorem Po (x:Nat→ak)(i:Nat): ∃j,j≤i∧loT x i=x j:=⟨_,tB x i,rfl⟩
theorem Pp (x:Nat→ak)(i:Nat): ∃j,j≤i∧hiT x i=x j:=⟨_,wN x i,rfl⟩
theorem kP (x:Nat→ak)(i:Nat)(P:ak→Prop)(h: ∀j,j≤i→P (x j)):P (loT x i):=by
 obtain⟨j,h1,h2⟩:=Po x i;rw[h2];exact h j h1
theorem kQ (x:Nat→ak)(i:Nat)(P:ak→Prop)(h: ∀j,j≤i→P (x j)):P (hiT x i):=by
 obtain⟨j,h1,h2⟩:=Pp x i;rw[h2];exact h j h1
theorem Al {K:Nat}(x:Nat→ak)(i:Nat)(h: ∀j,j≤i→ -(K:Int)≤(x j).e): ∀j,j≤i→V K (loT x i)≤V K (x j):=by
 induction i with
 |zero=>
  intro j hj;have:j=0:=by omega
  subst this;exact Int.le_refl _
 |succ i ih=>
  intro j hj;have h0:=h (i+1) (Nat.le_refl _);have h1: -(K:Int)≤(loT x i).e:=kP x i (fun t=> -(K:Int)≤t.e) (fun j hj=>h j (by omega))
  have ih:=ih (fun j hj=>h j (by omega))
  have hc:=uO h0 h1
  by_cases hlt:bJ (x (i+1)) (loT x i)<0
  ·have he:loT x (i+1)=x (i+1):=congrArg x (DN hlt)
   rw[he];have:=hc.1 hlt
   by_cases hji:j=i+1
   ·subst hji;exact Int.le_refl _
   ·have:=ih j (by omega);omega
  ·have he:loT x (i+1)=loT x i:=congrArg x (DO hlt)
   rw[he]
   by_cases hji:j=i+1
   ·subst hji
    by_cases hv:V K (x (i+1))<V K (loT x i)
    ·exact absurd (hc.2 hv) hlt
    ·omega
   ·exact ih j (by omega)
theorem Ao {K:Nat}(x:Nat→ak)(i:Nat)(h: ∀j,j≤i→ -(K:Int)≤(x j).e): ∀j,j≤i→V K (x j)≤V K (hiT x i):=by
 induction i with
 |zero=>
  intro j hj;have:j=0:=by omega
  subst this;exact Int.le_refl _
 |succ i ih=>
  intro j hj;have h0:=h (i+1) (Nat.le_refl _);have h1: -(K:Int)≤(hiT x i).e:=kQ x i (fun t=> -(K:Int)≤t.e) (fun j hj=>h j (by omega))
  have ih:=ih (fun j hj=>h j (by omega))
  have hc:=ol h0 h1
  by_cases hlt:0<bJ (x (i+1)) (hiT x i)
  ·have he:hiT x (i+1)=x (i+1):=congrArg x (uP hlt)
   rw[he];have:=hc.1 hlt
   by_cases hji:j=i+1
   ·subst hji;exact Int.le_refl _
   ·have:=ih j (by omega);omega
  ·have he:hiT x (i+1)=hiT x i:=congrArg x (uQ hlt)
   rw[he]
   by_cases hji:j=i+1
   ·subst hji
    by_cases hv:V K (hiT x i)<V K (x (i+1))
    ·exact absurd (hc.2 hv) hlt
    ·omega
   ·exact ih j (by omega)
theorem mL.apart3 {w:World}{b c:Nat}{v0 v1 v2 v3 v4 v5:Value}(h:mL w b v0 v1 v2 v3 v4 v5)(hne:c≠b)(x0 x1 x2:Value):
  mL (((w.setCell ⟨c,0,none⟩ x0).setCell ⟨c,1,none⟩ x1).setCell ⟨c,2,none⟩ x2) b v0 v1 v2 v3 v4 v5:=by
 obtain⟨hl,⟨c0,c1,c2,c3,c4,c5⟩,f0,f1,f2,f3,f4,f5⟩:=h;refine⟨by simpa using hl,⟨?_, ?_, ?_, ?_, ?_, ?_⟩,by simpa using f0,by simpa using f1,by simpa using f2,by simpa using f3,by simpa using f4,by simpa using f5⟩
 all_goals (rw[World.cell?_setCell_other (h:=by simp),World.cell?_setCell_other (h:=by simp),World.cell?_setCell_other (h:=by simp)];assumption)
def Yu (wr:World)(p:Nat)(x:Nat→ak)(ao:Nat→Option Addr)(ca:Nat→Nat)(l h:Nat):Prop:=
 mL wr p (.bool (x l).s) (.slice (ao l) (Dg.dg 4294967296 (x l).n).length (ca l)) (yi (x l).e) (.bool (x h).s) (.slice (ao h) (Dg.dg 4294967296 (x h).n).length (ca h)) (yi (x h).e)
theorem Own.apart6 {w:World}{base e b:Nat}{k:IntKind}{v:Value}{zs:List Nat}(h:Own w base e k v zs)(hb:b<base)(x0 x1 x2 x3 x4 x5:Value):
  Own ((((((w.setCell ⟨b,0,none⟩ x0).setCell ⟨b,1,none⟩ x1).setCell ⟨b,2,none⟩ x2).setCell ⟨b,3,none⟩ x3).setCell ⟨b,4,none⟩ x4).setCell ⟨b,5,none⟩ x5) base e k v zs:=
 (((((h.apart (bI w b 0 x0) hb).apart (bI _ b 1 x1) hb).apart (bI _ b 2 x2) hb).apart (bI _ b 3 x3) hb).apart (bI _ b 4 x4) hb).apart (bI _ b 5 x5) hb
theorem Nq (x:Nat):Dg.vl 4294967296 [x % 4294967296,x/4294967296]=x:=by
 simp only[Dg.vl];omega
theorem Nr {x y:Nat}(h:x≤y):bitLen x≤bitLen y:=bF x _ (Nat.lt_of_le_of_lt h (bitLen_spec y).1)
theorem ada (k:Nat):tz (2^k)=k:=F8 (m:=0) (by simp)
def RB6 (W:World)(v:Value)(x y:ak):Prop:= ∃p q,v= .agg #[.bool x.s,p,yi x.e,.bool y.s,q,yi y.e]∧Rd W .i64 p (Dg.dg 65536 x.n)∧Rd W .i64 q (Dg.dg 65536 y.n)
theorem jq {d k L:Nat}(h:d<2^k)(hk:k≤32*L):(Dg.dg 4294967296 d).length≤L:=by
 refine Dg.dg_len_le 4294967296 _ _ (by omega) (Nat.lt_of_lt_of_le h ?_);rw[show(4294967296:Nat)=2^32 from by decide,←Nat.pow_mul]
 exact Nat.pow_le_pow_right (by omega) hk
end Go.Proofs.YtiakgfmlpdfhdaaDoor
