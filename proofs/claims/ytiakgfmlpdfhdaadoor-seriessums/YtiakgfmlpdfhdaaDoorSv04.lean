/-
  Texts laid together: Dz, Leaf, Div1, DivBy, Dy5, Dy6, Dk1, Ex, Co1, Co9, Co6, Cr4, Bl6, Bs1, Long0, Long1, Co11, Ref7, Bm3, Inv, Bl12, Gr2, Co17, Co18, Rk1, Cv0.
-/
import Derived.WalkKit
import Derived.WalkSpells
import Derived.Deep.QuietTactic
import Derived.BigQuiet
import Derived.Lib.TrailingZeros
import Derived.Test.YtiakgfmlpdfhdaaDoorChecked
import Derived.Handy
import Derived.Laws.CopyOwn
import Derived.BigRegion
import Derived.Deep.LoopGhost
import Derived.Deep.RegionLaw
import Derived.WalkSmall
import Derived.OpenShut
import Derived.Laws.MathBits
import Derived.Lib.BitFns
import Derived.Lib.Walk
import Derived.Lib.Small
import Derived.Shelf.Spec.TrailingZeros
import Derived.Deep.RegionHeld3
import Derived.Laws.ResultCell
import Derived.Deep.MidRow
import Derived.Deep.Cut
import Derived.Laws.IdiomStrings
import Derived.OrdersHeld
import Derived.Deep.RegionWith
import Derived.ChangeMaps4
import Derived.Deep.DeepCutAuto
import Derived.Laws.OwnMore
import Derived.Deep.AppendLies
import Derived.Deep.CutBlock
import Derived.Maps.AppendAt
namespace Go.Proofs.YtiakgfmlpdfhdaaDoor
open Go.RowKit
def sz (s:Bool)(n:Nat):Int:=if s then-(n:Int) else n
theorem lI {n t m:Nat}(h:n=2^t*(2*m+1)):n/2^t=2*m+1:=by
 rw[h,Nat.mul_div_cancel_left _ (Nat.pow_pos (by omega))]
theorem Y5 (s:Bool)(n k:Nat):sz s n*(k:Int)=sz s (n*k):=by
 unfold sz
 cases s<;>simp[Int.neg_mul]
theorem QI {s t:Bool}{n m:Nat}(h:sz s n=sz t m)(hn:n≠0):s=t∧n=m:=by
 unfold sz at h
 cases s<;>cases t<;>simp at h<;>first|exact⟨rfl,by omega⟩| (exfalso;omega)
theorem Y6 (s t:Bool)(x y:Nat):sz s x+sz t y=if s=t then sz s (x+y) else if x<y then sz t (y-x) else sz s (x-y):=by
 unfold sz
 cases s<;>cases t<;>simp<;>(try split)<;>omega
theorem Ny (s t:Bool)(x y:Nat):sz (s != t) (x*y)=sz s x*sz t y:=by
 unfold sz
 cases s<;>cases t<;>simp[Int.neg_mul,Int.mul_neg]
def sgn (z:Int):Int:=if z=0 then 0 else if z<0 then-1 else 1
def chk (zs:List Nat):Int:=if 0<zs.length∧zs.getD (zs.length-1) 0=0 then 1 else if 1200<zs.length then 2 else 0
theorem Oq {zs:List Nat}(h:0<zs.length)(hz:zs.getD (zs.length-1) 0=0):chk zs=1:=by unfold chk;rw[if_pos ⟨h,hz⟩]
theorem Ot {zs:List Nat}(hz:zs.getD (zs.length-1) 0≠0)(h:1200<zs.length):chk zs=2:=by unfold chk;rw[if_neg (fun c=>hz c.2),if_pos h]
theorem ZT {zs:List Nat}(hz:zs.getD (zs.length-1) 0≠0)(h: ¬1200<zs.length):chk zs=0:=by unfold chk;rw[if_neg (fun c=>hz c.2),if_neg h]
theorem I6 {t y:Nat}{hi lo:Nat}(h1:hi<y)(h2:lo<4294967296)(ht:t=hi*4294967296+lo):t/y<4294967296:=by
 rw[Nat.div_lt_iff_lt_mul (by omega)];have:(hi+1)*4294967296≤y*4294967296:=Nat.mul_le_mul_right _ h1;rw[Nat.mul_comm 4294967296 y];omega
theorem AU (l:List Nat)(k:Nat)(h:k<l.length):l.drop k=l.getD k 0::l.drop (k+1):=by
 rw[List.drop_eq_getElem_cons h];simp[List.getD_eq_getElem?_getD,h]
def aS (xs:List Nat)(e:Int):Int:=if chk xs=0 then(if e< -20000∨20000<e then 3 else 0) else chk xs
def dQ (xs:List Nat)(e:Int)(ys:List Nat)(f:Int):Int:=if aS xs e=0 then aS ys f else aS xs e
theorem bL {xs:List Nat}{e:Int}(h:aS xs e=0):chk xs=0∧ -20000≤e∧e≤20000:=by
 unfold aS at h
 by_cases h1:chk xs=0
 ·rw[if_pos h1] at h
  by_cases h2:e< -20000∨20000<e
  ·rw[if_pos h2] at h;omega
  ·exact⟨h1,by omega,by omega⟩
 ·rw[if_neg h1] at h;exact absurd h h1
theorem iN {xs ys:List Nat}{e f:Int}(h:dQ xs e ys f=0):aS xs e=0∧aS ys f=0:=by
 unfold dQ at h
 by_cases h1:aS xs e=0
 ·rw[if_pos h1] at h;exact⟨h1,h⟩
 ·rw[if_neg h1] at h;exact absurd h h1
theorem Ad (q k:Nat)(h:q≠0):bitLen (2^k*q)=k+bitLen q:=by
 have hd:2^k*q/2^k=q:=Nat.mul_div_cancel_left q (Nat.pow_pos (by omega));have:=bitLen_shift (2^k*q) k (by rw[hd];exact h)
 rwa [hd] at this
theorem fy {P:Program}{o:Oper}{a:Act}{w:World}(t:TypeId)(x:Operand)(ho:o.op= .load t x)(b i:Nat)(hx:a.eval x= .pointer (some ⟨b,i,none⟩))(cs:List Value)(d:TypeDesc)(hr:w.rangeAt b i cs)(hu:P.underlying t=some d)(hd:d.isRow=true)(hi:(P.info? t).map (·.size)=some cs.length):(execOp a.eval o).run P w= .ok (.value (.agg cs.toArray)) w:=by
 unfold execOp;simp only[ho,hx];have:=run_loadAt_mid (P:=P) w b i t cs d hr hu hd hi;simp[this]
def dK (n:Int):Int:=if n<1∨8<n then 0 else if n≤3 then 1 else if n≤5 then 2 else 3
def szN:Nat→Nat
 |1=>4|2=>8|3=>10|4=>4|5=>8|6=>4|7=>8|8=>8|_=>0
def exN:Nat→Nat
 |1=>8|2=>11|3=>15|4=>7|5=>7|6=>8|7=>8|8=>11|_=>0
def dgN:Nat→Nat
 |1=>24|2=>53|3=>64|4=>6|5=>14|6=>24|7=>56|8=>53|_=>0
def rdN:Nat→Nat
 |4=>16|5=>16|_=>2
def lsI:Nat→Int
 |1=> -149|2=> -1074|3=> -16445|4=> -70|5=> -78|6=> -151|7=> -183|8=> -1076|_=>0
def frN (k:Nat):Nat:=8*szN k-1-exN k
def kp (k:Nat):Nat:=2^exN k-1
theorem O7 (w:World)(b o:Nat)(v:Value)(g i:Nat):(w.setCell ⟨b,o,none⟩ v).frozen? ⟨g,i,none⟩=w.frozen? ⟨g,i,none⟩:=
 World.frozen?_setCells b [v] o w ⟨g,i,none⟩
def jr (s:ByteArray):List Nat:=s.data.toList.map (fun b=>b.toNat)
def fU (zs:List Nat)(i:Nat):Nat:=zs.getD (i/8) 0/2^ (7-i % 8) % 2
def eH (zs:List Nat)(f:Nat):Nat→Nat
 |0=>0
 |n+1=>2*eH zs f n+fU zs (f+n)
def wdI (R:Int):Int:=if R=16 then 4 else 1
theorem aW {B b:Nat}{w w1:World}(h:Below B w w1)(hb:B≤b)(x0 x1 x2 x3 x4 x5:Value):Below B w ((((((w1.setCell ⟨b,0,none⟩ x0).setCell ⟨b,1,none⟩ x1).setCell ⟨b,2,none⟩ x2).setCell ⟨b,3,none⟩ x3).setCell ⟨b,4,none⟩ x4).setCell ⟨b,5,none⟩ x5):=
 ((((((h.setCell (p:=⟨b,0,none⟩) hb x0).setCell (p:=⟨b,1,none⟩) hb x1).setCell (p:=⟨b,2,none⟩) hb x2).setCell (p:=⟨b,3,none⟩) hb x3).setCell (p:=⟨b,4,none⟩) hb x4).setCell (p:=⟨b,5,none⟩) hb x5)
theorem Dd {B b:Nat}{w w1:World}(h:Below B w w1)(hb:B≤b)(x0 x1 x2:Value):Below B w (((w1.setCell ⟨b,3,none⟩ x0).setCell ⟨b,4,none⟩ x1).setCell ⟨b,5,none⟩ x2):=
 (((h.setCell (p:=⟨b,3,none⟩) hb x0).setCell (p:=⟨b,4,none⟩) hb x1).setCell (p:=⟨b,5,none⟩) hb x2)
theorem adr {B X D i n:Nat}(hB:0<B)(hn:1≤n)(hX:X<D*B^ (i+1)):X/B^ (i+n)≤D/B^ (n-1):=by
 have e:i+n=(i+1)+(n-1):=by omega
 rw[e,Nat.pow_add,←Nat.div_div_eq_div_mul];apply Nat.div_le_div_right;have:=(Nat.div_lt_iff_lt_mul (Nat.pow_pos hB)).2 hX;omega
theorem aeU (B X m:Nat)(hB:0<B)(hX:X<B^ (m+3)):((X/B^ (m+2) % B)*B+X/B^ (m+1) % B)*B+X/B^m % B=X/B^m:=by
 have h1:X/B^ (m+1)=X/B^m/B:=by rw[Nat.pow_succ,Nat.div_div_eq_div_mul]
 have h2:X/B^ (m+2)=X/B^m/B/B:=by rw[show m+2=m+1+1 from rfl,Nat.pow_succ,←Nat.div_div_eq_div_mul,h1]
 have h3:X/B^ (m+2)<B:=by
  rw[Nat.div_lt_iff_lt_mul (Nat.pow_pos hB)];have:B^ (m+3)=B*B^ (m+2):=by rw[show m+3=m+2+1 from rfl,Nat.pow_succ,Nat.mul_comm]
  omega
 rw[Nat.mod_eq_of_lt h3,h2,h1];generalize X/B^m=u;have a1:=Nat.div_add_mod (u/B) B;have a2:=Nat.div_add_mod u B;rw[Nat.mul_comm (u/B/B) B,a1,Nat.mul_comm,a2]
theorem two (B D m:Nat)(hB:0<B)(hD:D<B^ (m+2)):(D/B^ (m+1) % B)*B+D/B^m % B=D/B^m:=by
 have h1:D/B^ (m+1)=D/B^m/B:=by rw[Nat.pow_succ,Nat.div_div_eq_div_mul]
 have h3:D/B^ (m+1)<B:=by
  rw[Nat.div_lt_iff_lt_mul (Nat.pow_pos hB)];have:B^ (m+2)=B*B^ (m+1):=by rw[show m+2=m+1+1 from rfl,Nat.pow_succ,Nat.mul_comm]
  omega
 rw[Nat.mod_eq_of_lt h3,h1];have a2:=Nat.div_add_mod (D/B^m) B;rw[Nat.mul_comm,a2]
theorem SF (x:Nat){E:Nat}(h:0<E):x< (x/E+1)*E:=by
 have h1:=Nat.div_add_mod x E;have h2:=Nat.mod_lt x h;rw[Nat.add_mul,Nat.one_mul,Nat.mul_comm];generalize x % E=r at*;omega
theorem EP (n j:Nat):(List.replicate n 0).getD j 0=0:=by
 by_cases h:j<n
 ·simp[List.getD_eq_getElem?_getD,h]
 ·simp[List.getD_eq_getElem?_getD,h]
def dh (k:Nat)(ng:Bool)(e f:Nat):Nat:=
 if k≤3 then(if e=0 then(if f=0 then 1 else 2) else if e=kp k then(if f=(if k=3 then 2^63 else 0) then 3 else 4) else if k=3∧f<2^63 then 4 else 2)
 else if k≤5 then(if f=0 then 1 else 2)
 else if e=0 then(if ng then 5 else 1) else 2
theorem M8 {t d r x:Nat}(h1:r<d)(h2:x<65536)(ht:t=65536*r+x):t/d<65536:=by
 rw[Nat.div_lt_iff_lt_mul (by omega)];have:(r+1)*65536≤d*65536:=Nat.mul_le_mul_right _ h1;rw[Nat.mul_comm 65536 d];omega
theorem Ak {m F E q b:Nat}(hm:m<2^b)(hq:2^b≤2*q)(h1:q*2^E<m*2^F)(h2:m*2^F< (q+1)*2^E):False:=by
 rcases Nat.lt_or_ge F E with h|h
 ·obtain⟨d,hd⟩: ∃d,E=F+1+d:=⟨E-F-1,by omega⟩
  subst hd;have hF:0<2^F:=Nat.pow_pos (by omega);have hd:1≤2^d:=Nat.pow_pos (by omega);have h3:m*2^F<2*q*2^F:=Nat.mul_lt_mul_of_pos_right (by omega) hF;have h4:2*q*2^F*1≤2*q*2^F*2^d:=Nat.mul_le_mul_left _ hd;have e:q*2^ (F+1+d)=2*q*2^F*2^d:=by
   rw[Nat.pow_add,Nat.pow_succ]
   ac_rfl
  omega
 ·obtain⟨d,hd⟩: ∃d,F=d+E:=⟨F-E,by omega⟩
  subst hd;rw[Nat.pow_add,←Nat.mul_assoc] at h1 h2;have h3:=Nat.lt_of_mul_lt_mul_right h1;have h4:=Nat.lt_of_mul_lt_mul_right h2;omega
def left (listed:Array Bool):Nat:=(listed.toList.filter (fun b=> !b)).length
theorem zJ {P:Program}{f:FuncId}{fn:Func}{c:Code}(hf:P.funcs[f]? =some fn)(hname:(fn.name== "runtime.NumGoroutine")=false)(hb:fn.body=some c)(args:Array Value)(W:World):
  Sem.run P (callFunc f args) W= .ok (.enter f args) W:=by
 have h1:fn.name≠ "runtime.NumGoroutine" :=by simpa using hname
 simp[callFunc,hf,h1,hb]
def eZ (N:Nat)(n:Int):Nat:=if n<0 then N else N*2^n.toNat
def dX (M:Nat)(n:Int):Nat:=if n<0 then M*2^ (-n).toNat else M
def kt (k:Nat)(ng:Bool)(e f:Nat):Bool:=if dh k ng e f≤3 then ng else false
def dF (n:Int)(s:ByteArray):Int:=if dK n=0 then 6 else if s.size=szN n.toNat then 0 else 1
def ut (J:Int)(N1 M1:Nat)(E1:Int)(N2 M2:Nat)(E2:Int):Prop:=
 ∀j,J≤j→eZ N1 (E1-j)/dX M1 (E1-j)=eZ N2 (E2-j)/dX M2 (E2-j)∧(eZ N1 (E1-j) % dX M1 (E1-j)=0↔eZ N2 (E2-j) % dX M2 (E2-j)=0)
theorem ut.symm {J:Int}{N1 M1 N2 M2:Nat}{E1 E2:Int}(h:ut J N1 M1 E1 N2 M2 E2):ut J N2 M2 E2 N1 M1 E1:=fun j hj=>⟨(h j hj).1.symm,(h j hj).2.symm⟩
theorem wp_yield {P:Program}{op:Oper}{a:Act}{w:World}{K:Act→World→Prop}{Q:Exit→Act→World→Prop}(v:Value)(hv:(execOp a.eval op).run P w= .ok (.value v) w)(h:K (a.put op.dst v) w):op.wp P a w K Q:=by
 unfold Oper.wp;rw[hv];exact h
end Go.Proofs.YtiakgfmlpdfhdaaDoor
