/-
  Texts laid together: Mem, Dz, Leaf, Div1, DivBy, Add, Minus, Cmp, Shift, Ref5, Dy1, Ex, Dy3, Dy4, Sm1, Se3, Knuth, Ref7, IntoM, Into0, Into1, Wy.
-/
import Derived.WalkKit
import Derived.WalkSpells
import Derived.Deep.QuietTactic
import Derived.BigQuiet
import Derived.Lib.TrailingZeros
import Derived.Test.YtiakgfmlpdfhdaaGreatDoorChecked
import Derived.Handy
import Derived.Laws.CopyOwn
import Derived.BigRegion
import Derived.Deep.LoopGhost
import Derived.Deep.RegionLaw
import Derived.WalkSmall
import Derived.OpenShut
import Derived.Laws.MathBits
import Derived.Lib.BitFns
import Derived.Lib.Walk
import Derived.Lib.Small
import Derived.Shelf.Spec.TrailingZeros
import Derived.Deep.RegionHeld3
import Derived.Deep.MidRow
import Derived.Laws.ResultCell
import Derived.Deep.Cut
import Derived.Laws.IdiomStrings
import Derived.Deep.RegionWith
import Derived.Laws.OwnMore
import Derived.Deep.AppendLies
namespace Go.Proofs.YtiakgfmlpdfhdaaGreatDoor
open Go.RowKit
theorem aL {w w1:World}{B:Nat}(h:Below B w w1)(n:Nat):Below B w (w1.drewN n):=⟨h.os,h.tape,h.output,h.size,h.block⟩
structure ak where
 s:Bool
 n:Nat
 e:Int
def tz (n:Nat):Nat:=Lib.ctzFrom n n
theorem fO {n:Nat}(h:n≠0): ∃m,n=2^tz n*(2*m+1):=by
 obtain⟨m,hm,_⟩:=Lib.ctzFrom_spec n n (by omega) Nat.lt_two_pow_self;exact⟨m,hm⟩
theorem Dh {t u m k:Nat}(h:2^t*(2*m+1)=2^u*(2*k+1)):t=u∧m=k:=by
 induction t generalizing u with
 |zero=>
  cases u with
  |zero=>simp at h;exact⟨rfl,by omega⟩
  |succ u=>rw[Nat.pow_succ,Nat.mul_comm _ 2,Nat.mul_assoc] at h;omega
 |succ t ih=>
  cases u with
  |zero=>rw[Nat.pow_succ,Nat.mul_comm _ 2,Nat.mul_assoc] at h;omega
  |succ u=>
   rw[Nat.pow_succ,Nat.mul_comm _ 2,Nat.mul_assoc,Nat.pow_succ,Nat.mul_comm (2^u) 2,Nat.mul_assoc] at h;have:=ih (u:=u) (by omega);exact⟨by omega,this.2⟩
theorem F8 {n t m:Nat}(h:n=2^t*(2*m+1)):tz n=t:=by
 have hn:n≠0:=by
  rw[h];exact Nat.ne_of_gt (Nat.mul_pos (Nat.pow_pos (by omega)) (by omega))
 obtain⟨k,hk⟩:=fO hn;exact(Dh (hk.symm.trans h)).1
def bare (a:ak):ak:=if a.n=0 then⟨false,0,0⟩ else⟨a.s,a.n/2^tz a.n,a.e+tz a.n⟩
def aG (a b:ak):ak:=
 let e:=min a.e b.e
 let x:=a.n*2^ (a.e-e).toNat
 let y:=b.n*2^ (b.e-e).toNat
 if a.s=b.s then⟨a.s,x+y,e⟩ else if x<y then⟨b.s,y-x,e⟩ else⟨a.s,x-y,e⟩
def dV (a:ak):ak:=⟨!a.s,a.n,a.e⟩
def dm (a b:Int):Int:=if a<b then-1 else if b<a then 1 else 0
theorem KJ (hi lo:Nat)(h1:hi<4294967296)(h2:lo<4294967296):bits .or .u64 ((hi:Int)*4294967296) lo=((hi*4294967296+lo:Nat):Int):=by
 have e:((hi:Int)*4294967296)=((hi*4294967296:Nat):Int):=by omega
 rw[e,u64_or_nat _ _ (by omega) (by omega)];have:=nat_join 32 (hi*4294967296) lo (by omega) (by omega);rw[this]
theorem rO (b off j:Nat):(⟨b,off,none⟩:Addr).add j=⟨b,off+j,none⟩:=by
 simp only[Addr.add]
 split
 ·rename_i h;subst h;rfl
 ·rfl
theorem j9 (k:IntKind)(zs:List Nat)(j:Nat)(hj:j<zs.length):(zs.map (fun n:Nat=>Value.int k (n:Int)))[j]? =some (.int k ((zs.getD j 0:Nat):Int)):=by
 rw[List.getElem?_map,List.getElem?_eq_getElem hj];simp[List.getD_eq_getElem?_getD,hj]
theorem ib (w:World)(g:Option Nat):w.grownBy w g:=⟨rfl,rfl,rfl,Nat.le_refl _,fun _ _ _=>rfl⟩
theorem bI (w:World)(g j:Nat)(u:Value):w.grownBy (w.setCell ⟨g,j,none⟩ u) (some g):=
 ⟨rfl,rfl,rfl,by simp[World.setCell],fun k _ hk=>Below.heap_setCell w ⟨g,j,none⟩ u k (fun e=>hk (by rw[e]))⟩
theorem AU (l:List Nat)(k:Nat)(h:k<l.length):l.drop k=l.getD k 0::l.drop (k+1):=by
 rw[List.drop_eq_getElem_cons h];simp[List.getD_eq_getElem?_getD,h]
def brw (x y c:Nat):Nat:=if x<y+c then 1 else 0
theorem DT (v:Nat)(h:v<4294967296):v.testBit 31=decide (2147483648≤v):=by
 rw[Nat.testBit_eq_decide_div_mod_eq]
 by_cases e:2147483648≤v
 ·rw[decide_eq_true e,decide_eq_true (by omega)]
 ·rw[decide_eq_false e,decide_eq_false (by omega)]
theorem abU (v:Nat)(h:v<4294967296):v/2147483648=(v.testBit 31).toNat:=by
 rw[DT v h]
 by_cases e:2147483648≤v
 ·rw[decide_eq_true e,Bool.toNat_true];omega
 ·rw[decide_eq_false e,Bool.toNat_false];omega
theorem QS (x y c d:Nat)(hx:x<4294967296)(hy:y<4294967296)(hc:c≤1)(hd:d=(x+4294967296-y-c) % 4294967296):
  (((4294967295^^^x)&&& y)||| ((4294967295^^^ (x^^^y))&&& d))/2147483648=brw x y c:=by
 have hdl:d<4294967296:=by omega
 have h1:(4294967295^^^x)<2^32:=Nat.xor_lt_two_pow (by omega) (by omega);have h2:(x^^^y)<2^32:=Nat.xor_lt_two_pow (by omega) (by omega);have h3:(4294967295^^^ (x^^^y))<2^32:=Nat.xor_lt_two_pow (by omega) h2;have h4:((4294967295^^^x)&&& y)<2^32:=Nat.and_lt_two_pow _ (by omega);have h5:((4294967295^^^ (x^^^y))&&& d)<2^32:=Nat.and_lt_two_pow _ (by omega);have h6:=Nat.or_lt_two_pow h4 h5;rw[abU _ (by omega)];have hM:Nat.testBit 4294967295 31=true:=by decide
 simp only[Nat.testBit_or,Nat.testBit_and,Nat.testBit_xor,hM,DT x hx,DT y hy,DT d hdl];unfold brw
 by_cases a1:2147483648≤x<;>by_cases a2:2147483648≤y<;>by_cases a3:2147483648≤d<;>by_cases a4:x<y+c<;>simp[a1,a2,a3,a4]<;>omega
theorem NE (x y c:Nat)(hx:x<4294967296)(hy:y<4294967296)(hc:c≤1):
  bits .or .u32 (bits .and .u32 (bits .xor .u32 IntKind.u32.max x) y) (bits .and .u32 (bits .xor .u32 IntKind.u32.max (bits .xor .u32 x y)) (((x:Int)-(y:Int)-(c:Int)) % 4294967296))/2147483648=((brw x y c:Nat):Int):=by
 have hM:IntKind.u32.max=((4294967295:Nat):Int):=by decide
 have hd:((x:Int)-(y:Int)-(c:Int)) % 4294967296=(((x+4294967296-y-c) % 4294967296:Nat):Int):=by omega
 have hdl:(x+4294967296-y-c) % 4294967296<4294967296:=Nat.mod_lt _ (by omega);have h1:(4294967295^^^x)<2^32:=Nat.xor_lt_two_pow (by omega) (by omega);have h2:(x^^^y)<2^32:=Nat.xor_lt_two_pow (by omega) (by omega);have h3:(4294967295^^^ (x^^^y))<2^32:=Nat.xor_lt_two_pow (by omega) h2;have h4:((4294967295^^^x)&&& y)<2^32:=Nat.and_lt_two_pow _ (by omega);have h5:((4294967295^^^ (x^^^y))&&& ((x+4294967296-y-c) % 4294967296))<2^32:=Nat.and_lt_two_pow _ (by omega);rw[hM,hd,u32_xor_nat _ _ (by omega) (by omega),u32_xor_nat _ _ (by omega) (by omega),u32_xor_nat _ _ (by omega) (by omega),u32_and_nat _ _ (by omega) (by omega),u32_and_nat _ _ (by omega) (by omega),u32_or_nat _ _ (by omega) (by omega)];rw[←QS x y c _ hx hy hc rfl];exact(Int.natCast_ediv _ _).symm
theorem RN (x y c:Nat):brw x y c≤1:=by unfold brw;split<;>omega
theorem gX {a b:Int}(h:a<b):dm a b= -1:=by unfold dm;rw[if_pos h]
theorem sO {a b:Int}(h:b<a):dm a b=1:=by unfold dm;rw[if_neg (by omega),if_pos h]
theorem Bh (a:Int):dm a a=0:=by unfold dm;rw[if_neg (by omega),if_neg (by omega)]
theorem Y7 (u x pt:Nat)(hpt:pt<32)(hu:u<2^pt):bits .or .u32 u ((x:Int)*2^pt % 4294967296)=((u+x*2^pt % 4294967296:Nat):Int):=by
 have hp:2^pt≤2^31:=Nat.pow_le_pow_right (by omega) (by omega);have e:(x:Int)*2^pt % 4294967296=((x*2^pt % 4294967296:Nat):Int):=by
  rw[Int.natCast_emod,Int.natCast_mul,Int.natCast_pow];rfl
 rw[e,u32_or_nat _ _ (by omega) (Nat.mod_lt _ (by omega)),Nat.or_comm];have hz:x*2^pt % 4294967296 % 2^pt=0:=by
  have hd:2^pt∣4294967296:=⟨2^ (32-pt),by rw[←Nat.pow_add,show pt+(32-pt)=32 from by omega]⟩
  rw[Nat.mod_mod_of_dvd _ hd];exact Nat.mul_mod_left _ _
 rw[nat_join pt _ _ hz hu];omega
theorem Vg (x pt:Nat)(hpt:pt<32):(x:Int)/2^ (32-pt)=((x*2^pt/4294967296:Nat):Int):=by
 have e:x*2^pt/4294967296=x/2^ (32-pt):=by
  have:(4294967296:Nat)=2^ (32-pt)*2^pt:=by rw[←Nat.pow_add,show 32-pt+pt=32 from by omega]
  rw[this,Nat.mul_div_mul_right _ _ (Nat.pow_pos (by omega))]
 rw[e,Int.natCast_ediv,Int.natCast_pow];rfl
def low (P Q:Nat):List Nat→List Nat
 | []=>[]
 |y::l=>(y/P+l.headD 0 % P*Q)::low P Q l
theorem mA (P Q:Nat)(l:List Nat):(low P Q l).length=l.length:=by
 induction l with
 |nil=>rfl
 |cons y l ih=>simp[low,ih]
theorem Gb (P Q:Nat)(l:List Nat): ∀j,j<l.length→(low P Q l).getD j 0=l.getD j 0/P+l.getD (j+1) 0 % P*Q:=by
 induction l with
 |nil=>intro j h;simp at h
 |cons y l ih=>
  intro j h
  cases j with
  |zero=>cases l<;>simp[low]
  |succ j=>simpa[low] using ih j (by simpa using h)
theorem I7 {P Q x y:Nat}(hPQ:P*Q=4294967296)(hx:x<4294967296):x/P<Q∧x/P+y % P*Q<4294967296:=by
 have hP:0<P:=by
  rcases Nat.eq_zero_or_pos P with e|e
  ·subst e;simp at hPQ
  ·exact e
 have h1:x/P<Q:=by rw[Nat.div_lt_iff_lt_mul hP,Nat.mul_comm,hPQ];exact hx
 have h2:(y % P+1)*Q≤P*Q:=Nat.mul_le_mul_right _ (Nat.mod_lt _ hP);rw[Nat.add_mul,hPQ] at h2;exact⟨h1,by omega⟩
theorem adm (x y pt:Nat)(hpt:pt<32)(hx:x<4294967296):bits .or .u32 ((x:Int)/2^pt) ((y:Int)*2^ (32-pt) % 4294967296)=((x/2^pt+y % 2^pt*2^ (32-pt):Nat):Int):=by
 have hPQ:2^pt*2^ (32-pt)=4294967296:=by rw[←Nat.pow_add,show pt+(32-pt)=32 from by omega]
 have hd:=I7 (y:=y) hPQ hx;have e1:(x:Int)/2^pt=((x/2^pt:Nat):Int):=by rw[Int.natCast_ediv,Int.natCast_pow];rfl
 have e2:(y:Int)*2^ (32-pt) % 4294967296=((y*2^ (32-pt) % 4294967296:Nat):Int):=by rw[Int.natCast_emod,Int.natCast_mul,Int.natCast_pow];rfl
 have e3:y*2^ (32-pt) % 4294967296=y % 2^pt*2^ (32-pt):=by rw[←hPQ,Nat.mul_mod_mul_right]
 rw[e1,e2,e3,u32_or_nat _ _ (by omega) (by omega),Nat.or_comm,nat_join (32-pt) _ _ (Nat.mul_mod_left _ _) hd.1];omega
theorem ui (l:List Nat)(a j:Nat):(l.drop a).getD j 0=l.getD (a+j) 0:=by
 simp[List.getD_eq_getElem?_getD,List.getElem?_drop]
def abK (xs ds:List Nat)(wh P Q k:Nat):Prop:=
 ds.length=xs.length-wh∧ ∀j,ds.getD j 0=if j<k then xs.getD (wh+j) 0/P+xs.getD (wh+j+1) 0 % P*Q else 0
def shN (N:Nat)(n:Int):Nat:=if n<0 then N/2^ (-n).toNat else N*2^n.toNat
theorem C8 {x y:Nat}(hx:x<65536)(hy:y<65536):x*y≤4294836225:=by
 have:=Nat.mul_le_mul (Nat.le_sub_one_of_lt hx) (Nat.le_sub_one_of_lt hy)
 simpa using this
theorem Ql (p c x y:Nat):((p:Int)+(c:Int)+(x:Int)*(y:Int)) % 65536=(((p+c+x*y) % 65536:Nat):Int):=by
 rw[←Int.natCast_mul];omega
theorem Qm (p c x y:Nat):((p:Int)+(c:Int)+(x:Int)*(y:Int))/65536=(((p+c+x*y)/65536:Nat):Int):=by
 rw[←Int.natCast_mul];omega
theorem abX {a b:Int}(h:b≤a):decide (dm a b<0)=false:=by
 unfold dm;rw[if_neg (by omega)]
 by_cases h2:b<a
 ·rw[if_pos h2];rfl
 ·rw[if_neg h2];rfl
theorem fy {P:Program}{o:Oper}{a:Act}{w:World}(t:TypeId)(x:Operand)(ho:o.op= .load t x)(b i:Nat)(hx:a.eval x= .pointer (some ⟨b,i,none⟩))(cs:List Value)(d:TypeDesc)(hr:w.rangeAt b i cs)(hu:P.underlying t=some d)(hd:d.isRow=true)(hi:(P.info? t).map (·.size)=some cs.length):(execOp a.eval o).run P w= .ok (.value (.agg cs.toArray)) w:=by
 unfold execOp;simp only[ho,hx];have:=run_loadAt_mid (P:=P) w b i t cs d hr hu hd hi;simp[this]
theorem am {B b:Nat}{w w1:World}(h:Below B w w1)(hb:B≤b)(x0 x1 x2:Value):Below B w (((w1.setCell ⟨b,0,none⟩ x0).setCell ⟨b,1,none⟩ x1).setCell ⟨b,2,none⟩ x2):=
 ((h.setCell (p:=⟨b,0,none⟩) hb x0).setCell (p:=⟨b,1,none⟩) hb x1).setCell (p:=⟨b,2,none⟩) hb x2
theorem CE (n:Nat)(i:Int)(h:0≤i):shN n i=n*2^i.toNat:=by
 unfold shN;rw[if_neg (by omega)]
def lp (nn tn:Nat):Nat→Nat→Nat→Nat→Nat→Nat×Nat×Nat
 |0,i,_,s,r=>(i,s,r)
 |f+1,i,t,s,r=>if t=0 then(i,s,r) else if tn*(i % 2)=0 then lp nn tn f (i+1) (t/nn) (s+t/(2*i+1)) r else lp nn tn f (i+1) (t/nn) s (r+t/(2*i+1))
theorem lp_zero (nn tn f i s r:Nat):lp nn tn f i 0 s r=(i,s,r):=by
 cases f<;>simp[lp]
theorem lp_up (nn tn f i t s r:Nat)(ht:t≠0)(h:tn*(i % 2)=0):lp nn tn (f+1) i t s r=lp nn tn f (i+1) (t/nn) (s+t/(2*i+1)) r:=by
 rw[lp,if_neg ht,if_pos h]
theorem lp_down (nn tn f i t s r:Nat)(ht:t≠0)(h: ¬tn*(i % 2)=0):lp nn tn (f+1) i t s r=lp nn tn f (i+1) (t/nn) s (r+t/(2*i+1)):=by
 rw[lp,if_neg ht,if_neg h]
theorem div_step {nn t f:Nat}(hn:4≤nn)(h:t<4^ (f+1)):t/nn<4^f:=by
 rw[Nat.pow_succ,Nat.mul_comm] at h;have:t/nn≤t/4:=Nat.div_le_div_left hn (by omega);have:t/4<4^f:=Nat.div_lt_of_lt_mul h;omega
def InvN (n k tn:Nat)(R:Nat×Nat×Nat)(f i t s r:Nat):Prop:=
 lp (n*n) tn f i t s r=R∧t<4^f∧i+f≤k+1∧s≤i*2^k∧t≤2^k∧(i % 2=0→r≤s)∧(i % 2=1→r+tn*(t/(2*i+1))≤s)∧(tn=0→r=0)
def invLo (R:Nat×Nat×Nat)(k:Nat):ak:=⟨(aG ⟨false,R.2.1-R.2.2,0⟩ (dV ⟨false,3+3*R.1,0⟩)).s,(aG ⟨false,R.2.1-R.2.2,0⟩ (dV ⟨false,3+3*R.1,0⟩)).n,(aG ⟨false,R.2.1-R.2.2,0⟩ (dV ⟨false,3+3*R.1,0⟩)).e-(k:Int)⟩
def invHi (R:Nat×Nat×Nat)(k:Nat):ak:=⟨(aG ⟨false,R.2.1-R.2.2,0⟩ ⟨false,3+3*R.1,0⟩).s,(aG ⟨false,R.2.1-R.2.2,0⟩ ⟨false,3+3*R.1,0⟩).n,(aG ⟨false,R.2.1-R.2.2,0⟩ ⟨false,3+3*R.1,0⟩).e-(k:Int)⟩
theorem plus_e0 (a b:ak)(ha:a.e=0)(hb:b.e=0):(aG a b).e=0:=by
 unfold aG;simp only[ha,hb]
 split
 ·rfl
 ·split<;>rfl
theorem inv_zero {n k tn:Nat}(_hn:2≤n):InvN n k tn (lp (n*n) tn (k+1) 0 (2^k/n) 0 0) (k+1) 0 (2^k/n) 0 0:=by
 have h:=Nat.div_le_self (2^k) n;refine⟨rfl, ?_,by omega,by omega,h,by omega,by omega,by omega⟩;have h1:(2:Nat)^k≤4^k:=Nat.pow_le_pow_left (by omega) k;have h2:(4:Nat)^ (k+1)=4^k*4:=Nat.pow_succ 4 k;have h3:0< (4:Nat)^k:=Nat.pow_pos (by omega);omega
theorem inv_up {n k tn:Nat}{R:Nat×Nat×Nat}{f i t s r:Nat}(hn:2≤n)(h:InvN n k tn R f i t s r)(ht:t≠0)(h0:tn*(i % 2)=0)(ht1:tn≤1):
  ∃f',f=f'+1∧InvN n k tn R f' (i+1) (t/(n*n)) (s+t/(2*i+1)) r:=by
 obtain⟨h1,h2,h3,h4,h5,h6,h7,hr⟩:=h;have hnn:4≤n*n:=Nat.mul_le_mul hn hn
 cases f with
 |zero=>exact absurd (show t=0 by simpa using h2) ht
 |succ f=>
  refine⟨f,rfl, ?_⟩;rw[lp_up _ _ _ _ _ _ _ ht h0] at h1;have d1:=Nat.div_le_self t (2*i+1);have d2:=Nat.div_le_self t (n*n);have d3:t/(n*n)/(2*(i+1)+1)≤t/(2*i+1):=by
   rw[Nat.div_div_eq_div_mul];refine Nat.div_le_div_left ?_ (by omega);have:1*(2*(i+1)+1)≤n*n*(2*(i+1)+1):=Nat.mul_le_mul_right _ (by omega);omega
  refine⟨h1,div_step hnn h2,by omega, ?_,by omega, ?_, ?_,hr⟩
  all_goals generalize t/(2*i+1)=q at*
  ·rw[Nat.add_mul];omega
  ·intro hp
   have hi:i % 2=1:=by omega
   rw[hi] at h0;have:=h7 hi;have:r=0:=hr (by omega);omega
  ·intro hp
   have:=h6 (by omega);have h9:tn*(t/(n*n)/(2*(i+1)+1))≤1*(t/(n*n)/(2*(i+1)+1)):=Nat.mul_le_mul_right _ ht1;rw[Nat.one_mul] at h9;exact Nat.le_trans (Nat.add_le_add_left (Nat.le_trans h9 d3) r) (by omega)
theorem inv_down {n k tn:Nat}{R:Nat×Nat×Nat}{f i t s r:Nat}(hn:2≤n)(h:InvN n k tn R f i t s r)(ht:t≠0)(h0:tn*(i % 2)=1):
  ∃f',f=f'+1∧InvN n k tn R f' (i+1) (t/(n*n)) s (r+t/(2*i+1)):=by
 obtain⟨h1,h2,h3,h4,h5,h6,h7,hr⟩:=h;have hnn:4≤n*n:=Nat.mul_le_mul hn hn
 cases f with
 |zero=>exact absurd (show t=0 by simpa using h2) ht
 |succ f=>
  refine⟨f,rfl, ?_⟩;rw[lp_down _ _ _ _ _ _ _ ht (by omega)] at h1;have d2:=Nat.div_le_self t (n*n);have hi:i % 2=1:=by
   rcases Nat.mod_two_eq_zero_or_one i with c|c
   ·rw[c] at h0;omega
   ·exact c
  have htn:tn=1:=by rw[hi] at h0;omega
  have h8:=h7 hi;subst htn;rw[Nat.one_mul] at h8;generalize t/(2*i+1)=q at*;exact⟨h1,div_step hnn h2,by omega,by rw[Nat.add_mul];omega,by omega,fun _=>h8,fun c=>by omega,fun c=>by omega⟩
theorem inv_end {n k tn:Nat}{R:Nat×Nat×Nat}{f i s r:Nat}(h:InvN n k tn R f i 0 s r):R=(i,s,r)∧r≤s∧i≤k+1∧s≤(k+2)*2^k:=by
 obtain⟨h1,h2,h3,h4,h5,h6,h7,hr⟩:=h;rw[lp_zero] at h1;refine⟨h1.symm, ?_,by omega,Nat.le_trans h4 (Nat.mul_le_mul_right _ (by omega))⟩
 rcases Nat.mod_two_eq_zero_or_one i with c|c
 ·exact h6 c
 ·have:=h7 c
  rw[Nat.zero_div,Nat.mul_zero] at this;exact this
def GsI (top d1 d0 p0 g r:Nat):Prop:=g*d1+r=top∧ ∀q,q*(d1*4294967296+d0)≤top*4294967296+p0→q<4294967296→q≤g
theorem S9 {top d1 d0 p0 g r:Nat}(h:GsI top d1 d0 p0 g r)(hg:0<g)(hc:4294967296≤g∨r*4294967296+p0<g*d0):GsI top d1 d0 p0 (g-1) (r+d1):=by
 obtain⟨h1,h2⟩:=h;obtain⟨k,rfl⟩: ∃k,g=k+1:=⟨g-1,by omega⟩;rw[Nat.add_sub_cancel];refine⟨by rw[Nat.add_mul] at h1;omega,fun q hq hqB=> ?_⟩
 have h3:=h2 q hq hqB
 rcases Nat.lt_or_ge k q with e|e
 ·exfalso
  have hqk:q=k+1:=by omega
  subst hqk
  rcases hc with hc|hc
  ·omega
  ·rw[←h1,Nat.mul_add] at hq
   rw[Nat.add_mul ((k+1)*d1)] at hq;rw[Nat.mul_assoc] at hq;omega
 ·exact e
theorem Z2 {top d1 d0 p0 g r:Nat}(h:GsI top d1 d0 p0 g r)(hc:g*d0≤r*4294967296+p0):g*(d1*4294967296+d0)≤top*4294967296+p0:=by
 rw[←h.1,Nat.mul_add,Nat.add_mul (g*d1),Nat.mul_assoc];omega
theorem M8 {t d r x:Nat}(h1:r<d)(h2:x<65536)(ht:t=65536*r+x):t/d<65536:=by
 rw[Nat.div_lt_iff_lt_mul (by omega)];have:(r+1)*65536≤d*65536:=Nat.mul_le_mul_right _ h1;rw[Nat.mul_comm 65536 d];omega
theorem Vm (l:List Nat)(k:Nat):(l.drop k).getD 0 0=l.getD k 0:=by
 simp[List.getD_eq_getElem?_getD]
theorem NG {b d N:Nat}(h1:N/b≤d)(h2:b*d≤N)(hb:0<b):d=N/b:=by
 have:d≤N/b:=by rw[Nat.le_div_iff_mul_le hb,Nat.mul_comm];exact h2
 omega
theorem QW {b d N:Nat}(h1:N/b≤d)(h2: ¬b*d≤N)(_hb:0<b):N/b+1≤d:=by
 rcases Nat.lt_or_ge (N/b) d with h|h
 ·exact h
 ·exfalso
  apply h2;have e:d=N/b:=by omega
  rw[e];exact Nat.mul_div_le N b
theorem kq {P:Program}{ops:Array Oper}{rest:List Oper}{o:Oper}{a:Act}{w:World}{Q:Exit→Act→World→Prop}(hgd:o.guard=none)(s x:Operand)(t:TypeId)
  (ho:o.op= .call {callee:= .builtin .append,args:= #[s,x],argTypes:= #[t,t]}) (v u v':Value) (w':World) (hs:a.eval s=v) (hx:a.eval x=u)
  (hr:(Builtin.append_ #[t,t] o.type #[v,u]).run P w= .ok v' w') (h:wpList P ops Q rest (a.put o.dst v') w'):wpList P ops Q (o::rest) a w:=by
 refine wpList_plain hgd fun K hK=> ?_
 unfold Oper.wp execOp;simp only[ho,resolve,invoke,builtin,Sem.run_bind,Sem.run_pure,Result.andThen_ok,List.map_toArray,List.map_cons,List.map_nil,hs,hx,hr];exact hK _ _ h
def sJ (rs:List Nat)(n:Nat):Nat→Nat
 |0=>0
 |j+1=>65536*sJ rs n j+rs.getD (n-j) 0
theorem Ti {a b:Int}(h:b≤a):decide (dm a b<0)=false:=by
 unfold dm;rw[if_neg (by omega)]
 by_cases h2:b<a
 ·rw[if_pos h2];rfl
 ·rw[if_neg h2];rfl
theorem Wn {a b:Int}(h:a≤b):dm a b≤0:=by
 unfold dm
 by_cases h1:a<b
 ·rw[if_pos h1];omega
 ·rw[if_neg h1,if_neg (by omega)];omega
theorem wp_yield {P:Program}{op:Oper}{a:Act}{w:World}{K:Act→World→Prop}{Q:Exit→Act→World→Prop}(v:Value)(hv:(execOp a.eval op).run P w= .ok (.value v) w)(h:K (a.put op.dst v) w):op.wp P a w K Q:=by
 unfold Oper.wp;rw[hv];exact h
end Go.Proofs.YtiakgfmlpdfhdaaGreatDoor
