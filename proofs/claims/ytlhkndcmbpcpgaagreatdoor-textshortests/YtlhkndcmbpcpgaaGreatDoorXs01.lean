/- Texts laid together. -/
import Derived.WalkKit
import Derived.WalkSpells
import Derived.OrdersHeld
import Derived.Deep.QuietTactic
import Derived.BigQuiet
import Derived.Test.YtlhkndcmbpcpgaaGreatDoorChecked
import Derived.Lib.TrailingZeros
import Derived.Handy
import Derived.Laws.CopyOwn
import Derived.BigRegion
import Derived.Deep.LoopGhost
import Derived.Deep.RegionLaw
import Derived.WalkSmall
import Derived.OpenShut
import Derived.Laws.MathBits
import Derived.Lib.BitFns
import Derived.Lib.Walk
import Derived.Lib.Small
import Derived.Shelf.Spec.TrailingZeros
import Derived.Deep.RegionHeld3
import Derived.Deep.MidRow
import Derived.Deep.Cut
set_option maxRecDepth 100000
set_option maxHeartbeats 3200000
namespace Go.Proofs.YtlhkndcmbpcpgaaGreatDoor
open _root_.Go.Proofs.Tryz
open Go.RowKit
abbrev yi (n:Int):Value:= .int .i64 n
abbrev ylL (R D L G:Int)(g:Bool)(s e f:Int)(F:Nat):List Value:=[.int .i64 R,.int .i64 D,.int .i64 L,.int .i64 G,.bool g,.int .i64 s,.int .i64 e,.int .i64 f,.func (.func F) #[] #[]]
abbrev ylV (R D L G:Int)(g:Bool)(s e f:Int)(F:Nat):Value:= .agg #[.int .i64 R,.int .i64 D,.int .i64 L,.int .i64 G,.bool g,.int .i64 s,.int .i64 e,.int .i64 f,.func (.func F) #[] #[]]
abbrev ylA (R D L G:Int)(g:Bool)(s e f:Int)(F:Nat):Array Value:= #[.int .i64 R,.int .i64 D,.int .i64 L,.int .i64 G,.bool g,.int .i64 s,.int .i64 e,.int .i64 f,.func (.func F) #[] #[]]
abbrev yzL (R D L G:Int)(g:Bool)(s e f:Int):List Value:=[.int .i64 R,.int .i64 D,.int .i64 L,.int .i64 G,.bool g,.int .i64 s,.int .i64 e,.int .i64 f,.nilFunc]
abbrev yzV (R D L G:Int)(g:Bool)(s e f:Int):Value:= .agg #[.int .i64 R,.int .i64 D,.int .i64 L,.int .i64 G,.bool g,.int .i64 s,.int .i64 e,.int .i64 f,.nilFunc]
abbrev yzA (R D L G:Int)(g:Bool)(s e f:Int):Array Value:= #[.int .i64 R,.int .i64 D,.int .i64 L,.int .i64 G,.bool g,.int .i64 s,.int .i64 e,.int .i64 f,.nilFunc]
abbrev yoL (c:Int)(g s:Bool)(v:Value)(e:Int):List Value:=[.int .i64 c,.bool g,.bool s,v,.int .i64 e]
abbrev yoV (c:Int)(g s:Bool)(v:Value)(e:Int):Value:= .agg #[.int .i64 c,.bool g,.bool s,v,.int .i64 e]
abbrev yoA (c:Int)(g s:Bool)(v:Value)(e:Int):Array Value:= #[.int .i64 c,.bool g,.bool s,v,.int .i64 e]
abbrev ykL (n w f R D L G:Int)(g:Bool):List Value:=[.int .i64 n,.int .i64 w,.int .i64 f,.int .i64 R,.int .i64 D,.int .i64 L,.int .i64 G,.bool g]
abbrev ykV (n w f R D L G:Int)(g:Bool):Value:= .agg #[.int .i64 n,.int .i64 w,.int .i64 f,.int .i64 R,.int .i64 D,.int .i64 L,.int .i64 G,.bool g]
abbrev ykA (n w f R D L G:Int)(g:Bool):Array Value:= #[.int .i64 n,.int .i64 w,.int .i64 f,.int .i64 R,.int .i64 D,.int .i64 L,.int .i64 G,.bool g]
abbrev yvL (c:Int)(g:Bool)(v:Value)(p:Int):List Value:=[.int .i64 c,.bool g,v,.int .i64 p]
abbrev yvV (c:Int)(g:Bool)(v:Value)(p:Int):Value:= .agg #[.int .i64 c,.bool g,v,.int .i64 p]
abbrev yvA (c:Int)(g:Bool)(v:Value)(p:Int):Array Value:= #[.int .i64 c,.bool g,v,.int .i64 p]
abbrev ydL (s:Bool)(v:Value)(e:Int):List Value:=[.bool s,v,.int .i64 e]
abbrev ydV (s:Bool)(v:Value)(e:Int):Value:= .agg #[.bool s,v,.int .i64 e]
abbrev ydA (s:Bool)(v:Value)(e:Int):Array Value:= #[.bool s,v,.int .i64 e]
abbrev ygL (R D L G:Int)(g:Bool):List Value:=[.int .i64 R,.int .i64 D,.int .i64 L,.int .i64 G,.bool g]
abbrev ygV (R D L G:Int)(g:Bool):Value:= .agg #[.int .i64 R,.int .i64 D,.int .i64 L,.int .i64 G,.bool g]
abbrev ygA (R D L G:Int)(g:Bool):Array Value:= #[.int .i64 R,.int .i64 D,.int .i64 L,.int .i64 G,.bool g]
abbrev yfL (g:Bool)(e f:Int):List Value:=[.bool g,.int .i64 e,.int .u64 f]
abbrev yfV (g:Bool)(e f:Int):Value:= .agg #[.bool g,.int .i64 e,.int .u64 f]
abbrev yfA (g:Bool)(e f:Int):Array Value:= #[.bool g,.int .i64 e,.int .u64 f]
abbrev ypL (s:Bool)(v:Value)(p:Int)(x o u:Bool):List Value:=[.bool s,v,.int .i64 p,.bool x,.bool o,.bool u]
abbrev ypV (s:Bool)(v:Value)(p:Int)(x o u:Bool):Value:= .agg #[.bool s,v,.int .i64 p,.bool x,.bool o,.bool u]
abbrev ypA (s:Bool)(v:Value)(p:Int)(x o u:Bool):Array Value:= #[.bool s,v,.int .i64 p,.bool x,.bool o,.bool u]
abbrev yrL (s:Bool)(v u:Value)(e:Int):List Value:=[.bool s,v,u,.int .i64 e]
abbrev yrV (s:Bool)(v u:Value)(e:Int):Value:= .agg #[.bool s,v,u,.int .i64 e]
abbrev yrA (s:Bool)(v u:Value)(e:Int):Array Value:= #[.bool s,v,u,.int .i64 e]
namespace Dg
def vl (B:Nat):List Nat→Nat
 | []=>0
 |d::l=>d+B*vl B l
def dgF (B:Nat):Nat→Nat→List Nat
 |0,_=>[]
 |f+1,n=>if n=0 then[] else n % B::dgF B f (n/B)
def dg (B n:Nat):List Nat:=dgF B n n
def Norm (l:List Nat):Prop:=l≠[]→l.getD (l.length-1) 0≠0
def Small (B:Nat)(l:List Nat):Prop:= ∀i,l.getD i 0<B
theorem div_lt_of (B n f:Nat)(b:2≤B)(h:n≤f+1)(a:n≠0):n/B≤f:=by
 have:n/B<n:=Nat.div_lt_self (by omega) (by omega);omega
theorem vl_dgF (B:Nat)(b:2≤B): ∀f n,n≤f→vl B (dgF B f n)=n:=by
 intro f
 induction f with
 |zero=>
  intro n h;have:n=0:=by omega
  subst this;rfl
 |succ f ih=>
  intro n h;unfold dgF
  by_cases a:n=0
  ·simp[a,vl]
  ·simp only[a,if_false,vl]
   rw[ih _ (div_lt_of B n f b h a)];exact Nat.mod_add_div n B
theorem vl_dg (B n:Nat)(a:2≤B):vl B (dg B n)=n:=vl_dgF B a n n (Nat.le_refl _)
theorem small_nil (B:Nat)(a:0<B):Small B []:=by intro i;simpa using a
theorem small_cons {B d:Nat}{l:List Nat}:Small B (d::l)↔d<B∧Small B l:=by
 constructor
 ·intro h
  exact⟨by simpa using h 0,fun i=>by simpa using h (i+1)⟩
 ·intro h i
  cases i with
  |zero=>simpa using h.1
  |succ i=>simpa using h.2 i
theorem small_dgF (B:Nat)(b:2≤B): ∀f n,Small B (dgF B f n):=by
 intro f
 induction f with
 |zero=>intro n;exact small_nil B (by omega)
 |succ f ih=>
  intro n;unfold dgF
  by_cases a:n=0
  ·simp only[a,if_true];exact small_nil B (by omega)
  ·simp only[a,if_false]
   exact small_cons.2 ⟨Nat.mod_lt _ (by omega),ih _⟩
theorem small_dg (B n:Nat)(a:2≤B):Small B (dg B n):=small_dgF B a n n
theorem norm_cons {d:Nat}{l:List Nat}(a:l≠[]):Norm (d::l)↔Norm l:=by
 unfold Norm
 cases l with
 |nil=>exact absurd rfl a
 |cons e m=>simp
theorem dgF_ne_nil (B f n:Nat)(h:n≤f)(a:n≠0):dgF B f n≠[]:=by
 cases f with
 |zero=>omega
 |succ f=>unfold dgF;simp[a]
theorem norm_dgF (B:Nat)(g:2≤B): ∀f n,n≤f→Norm (dgF B f n):=by
 intro f
 induction f with
 |zero=>intro n _ h;exact absurd rfl h
 |succ f ih=>
  intro n h;unfold dgF
  by_cases a:n=0
  ·simp[a,Norm]
  ·simp only[a,if_false]
   have c:=div_lt_of B n f g h a
   by_cases b:n/B=0
   ·have e:dgF B f (n/B)=[]:=by cases f<;>simp[dgF,b]
    rw[e];intro _;have:n % B=n:=Nat.mod_eq_of_lt (by
     rcases Nat.div_eq_zero_iff.1 b with d|d
     ·omega
     ·exact d)
    simpa[this] using a
   ·exact(norm_cons (dgF_ne_nil B f _ c b)).2 (ih _ c)
theorem norm_dg (B n:Nat)(a:2≤B):Norm (dg B n):=norm_dgF B a n n (Nat.le_refl _)
theorem vl_ne_zero (B:Nat)(b:0<B): ∀l,l≠[]→Norm l→vl B l≠0:=by
 intro l
 induction l with
 |nil=>intro h;exact absurd rfl h
 |cons d l ih=>
  intro _ a
  cases l with
  |nil=>have:=a (by simp);simp[vl] at this⊢;exact this
  |cons e m=>
   have c:=ih (by simp) ((norm_cons (by simp)).1 a);have:0<B*vl B (e::m):=Nat.mul_pos b (by omega)
   show d+B*vl B (e::m)≠0
   omega
theorem vl_inj (B:Nat)(q:2≤B): ∀l m,Small B l→Small B m→Norm l→Norm m→vl B l=vl B m→l=m:=by
 intro l
 induction l with
 |nil=>
  intro m _ _ _ b e
  cases m with
  |nil=>rfl
  |cons x y=>exact absurd e.symm (vl_ne_zero B (by omega) _ (by simp) b)
 |cons d l ih=>
  intro m o p g b e
  cases m with
  |nil=>exact absurd e (vl_ne_zero B (by omega) _ (by simp) g)
  |cons x y=>
   have c:=small_cons.1 o;have f:=small_cons.1 p;simp only[vl] at e;have i:d=x:=by
    have:=congrArg (· % B) e
    simpa[Nat.add_mul_mod_self_left,Nat.mod_eq_of_lt c.1,Nat.mod_eq_of_lt f.1] using this
   subst i;have j:vl B l=vl B y:=Nat.eq_of_mul_eq_mul_left (by omega:0<B) (by omega);have k:Norm l:=by
    by_cases a:l=[]
    ·subst a;intro h;exact absurd rfl h
    ·exact(norm_cons a).1 g
   have n:Norm y:=by
    by_cases a:y=[]
    ·subst a;intro h;exact absurd rfl h
    ·exact(norm_cons a).1 b
   rw[ih y c.2 f.2 k n j]
theorem dg_vl (B:Nat)(a:2≤B)(l:List Nat)(c:Small B l)(b:Norm l):dg B (vl B l)=l:=
 vl_inj B a _ _ (small_dg B _ a) c (norm_dg B _ a) b (vl_dg B _ a)
theorem eq_dg (B:Nat)(a:2≤B)(l:List Nat)(n:Nat)(c:Small B l)(b:Norm l)(e:vl B l=n):l=dg B n:=by
 rw[←e,dg_vl B a l c b]
theorem vl_append (B:Nat): ∀l m,vl B (l++m)=vl B l+B^l.length*vl B m:=by
 intro l
 induction l with
 |nil=>intro m;simp[vl]
 |cons d l ih=>
  intro m;simp only[List.cons_append,vl,ih,List.length_cons,Nat.pow_succ,Nat.mul_add];rw[Nat.mul_comm (B^l.length) B,Nat.mul_assoc];omega
theorem vl_replicate_zero (B:Nat): ∀n,vl B (List.replicate n 0)=0:=by
 intro n
 induction n with
 |zero=>rfl
 |succ n ih=>simp[List.replicate_succ,vl,ih]
theorem vl_lt (B:Nat): ∀l,Small B l→vl B l<B^l.length:=by
 intro l
 induction l with
 |nil=>intro _;simp[vl]
 |cons d l ih=>
  intro h;have a:=small_cons.1 h;have:=ih a.2;simp only[vl,List.length_cons,Nat.pow_succ];have b:B*vl B l+B≤B^l.length*B:=by
   have:B*(vl B l+1)≤B*B^l.length:=Nat.mul_le_mul_left _ this;rw[Nat.mul_comm (B^l.length) B];rw[Nat.mul_add] at this;omega
  omega
theorem vl_ge (B:Nat): ∀l,l≠[]→Norm l→B^ (l.length-1)≤vl B l:=by
 intro l
 induction l with
 |nil=>intro h;exact absurd rfl h
 |cons d l ih=>
  intro _ a
  cases l with
  |nil=>have:=a (by simp);simp[vl] at this⊢;omega
  |cons e m=>
   have b:=ih (by simp) ((norm_cons (by simp)).1 a);have:B*B^m.length≤B*vl B (e::m):=Nat.mul_le_mul_left _ (by simpa using b);simp only[List.length_cons,Nat.add_sub_cancel,Nat.pow_succ] at*
   show _≤d+B*vl B (e::m)
   rw[Nat.mul_comm (B^m.length) B];omega
theorem getD_take (l:List Nat)(n i:Nat)(h:i<n):(l.take n).getD i 0=l.getD i 0:=by
 simp[List.getD_eq_getElem?_getD,h]
theorem getD_of_le (l:List Nat)(i:Nat)(h:l.length≤i):l.getD i 0=0:=by
 simp[List.getD_eq_getElem?_getD,List.getElem?_eq_none h]
theorem take_succ' (l:List Nat)(k:Nat)(h:k<l.length):l.take (k+1)=l.take k++[l.getD k 0]:=by
 rw[List.take_succ_eq_append_getElem h];simp[List.getD_eq_getElem?_getD,h]
theorem vl_take_succ (B:Nat)(l:List Nat)(k:Nat)(h:k<l.length):vl B (l.take (k+1))=vl B (l.take k)+B^k*l.getD k 0:=by
 rw[take_succ' l k h,vl_append];simp[vl,Nat.min_eq_left (Nat.le_of_lt h)]
theorem vl_take_drop (B:Nat)(l:List Nat)(k:Nat)(h:k≤l.length):vl B l=vl B (l.take k)+B^k*vl B (l.drop k):=by
 have:=vl_append B (l.take k) (l.drop k);rw[List.take_append_drop] at this
 simpa[Nat.min_eq_left h] using this
theorem vl_zeros (B:Nat): ∀l:List Nat,(∀i,l.getD i 0=0)→vl B l=0:=by
 intro l
 induction l with
 |nil=>intro _;rfl
 |cons d l ih=>
  intro h;have a:=h 0;have b:=ih (fun i=>by simpa using h (i+1))
  simp at a;simp[vl,a,b]
theorem small_take {B:Nat}{l:List Nat}(h:Small B l)(n:Nat)(a:0<B):Small B (l.take n):=by
 intro i
 by_cases b:i<n
 ·rw[getD_take l n i b];exact h i
 ·rw[getD_of_le _ _ (by simp;omega)];exact a
theorem trim_eq (B:Nat)(b:2≤B)(l:List Nat)(n:Nat)(f:Small B l)(a:n≤l.length)(g: ∀i,n≤i→l.getD i 0=0)(c:0<n→l.getD (n-1) 0≠0):
  l.take n=dg B (vl B l):=by
 refine eq_dg B b _ _ (small_take f n (by omega)) ?_ ?_
 ·intro e
  have d:0<n:=by
   rcases Nat.eq_zero_or_pos n with h|h
   ·subst h;simp at e
   ·exact h
  have:(l.take n).length=n:=by simp[Nat.min_eq_left a]
  rw[this,getD_take l n _ (by omega)];exact c d
 ·rw[vl_take_drop B l n a]
  have:vl B (l.drop n)=0:=vl_zeros B _ (fun i=>by
   have:=g (n+i) (by omega)
   simpa[List.getD_eq_getElem?_getD,List.getElem?_drop] using this)
  rw[this];omega
theorem vl_set (B:Nat): ∀(l:List Nat) (i x:Nat),i<l.length→vl B (l.set i x)+B^i*l.getD i 0=vl B l+B^i*x:=by
 intro l
 induction l with
 |nil=>intro i x h;simp at h
 |cons d l ih=>
  intro i x h
  cases i with
  |zero=>simp[vl];omega
  |succ i=>
   have:=ih i x (by simpa using h);have a:B*(vl B (l.set i x)+B^i*l.getD i 0)=B*(vl B l+B^i*x):=by rw[this]
   simp only[List.set_cons_succ,vl,List.getD_cons_succ,Nat.pow_succ,Nat.mul_add] at*;rw[Nat.mul_comm (B^i) B,Nat.mul_assoc,Nat.mul_assoc];omega
theorem getD_set (l:List Nat)(i j x:Nat)(h:i<l.length):(l.set i x).getD j 0=if i=j then x else l.getD j 0:=by
 by_cases e:i=j
 ·subst e;simp[List.getD_eq_getElem?_getD,h]
 ·simp[List.getD_eq_getElem?_getD,List.getElem?_set_ne e,e]
theorem small_set {B:Nat}{l:List Nat}(h:Small B l)(i x:Nat)(b:x<B):Small B (l.set i x):=by
 intro j
 by_cases a:i<l.length
 ·rw[getD_set l i j x a]
  by_cases e:i=j
  ·rw[if_pos e];exact b
  ·rw[if_neg e];exact h j
 ·rw[List.set_eq_of_length_le (by omega)];exact h j
theorem small_replicate (B n:Nat)(a:0<B):Small B (List.replicate n 0):=by
 intro i;have:(List.replicate n 0).getD i 0=0:=by
  by_cases h:i<n<;>simp[List.getD_eq_getElem?_getD,h]
 rw[this];exact a
theorem vl_lt_of_len (B:Nat)(g:2≤B)(l m:List Nat)(b:Small B l)(a:Norm m)(h:l.length<m.length):vl B l<vl B m:=by
 have c:=vl_lt B l b;have d:=vl_ge B m (by intro e;subst e;simp at h) a;have f:B^l.length≤B^ (m.length-1):=Nat.pow_le_pow_right (by omega) (by omega);omega
theorem vl_split (B:Nat)(l:List Nat)(k:Nat)(h:k<l.length):vl B l=vl B (l.take k)+B^k*(l.getD k 0+B*vl B (l.drop (k+1))):=by
 rw[vl_take_drop B l k (by omega),List.drop_eq_getElem_cons h];simp[vl,List.getD_eq_getElem?_getD,h]
theorem drop_eq_of (l m:List Nat)(k:Nat)(c:l.length=m.length)(h: ∀j,k≤j→l.getD j 0=m.getD j 0):l.drop k=m.drop k:=by
 apply List.ext_getElem (by simp[c]);intro i a b;have:=h (k+i) (by omega);simp only[List.length_drop] at a b
 simpa[List.getD_eq_getElem?_getD,show k+i<l.length from by omega,show k+i<m.length from by omega] using this
theorem vl_lt_of_digit (B:Nat)(l m:List Nat)(k:Nat)(f:l.length=m.length)(e:k<l.length)(h: ∀j,k+1≤j→l.getD j 0=m.getD j 0)(g:l.getD k 0<m.getD k 0)(a:Small B l):vl B l<vl B m:=by
 rw[vl_split B l k e,vl_split B m k (by omega),drop_eq_of l m (k+1) f h];have d:0<B:=by have:=a 0;omega
 have b:=vl_lt B (l.take k) (small_take a k d);rw[List.length_take,Nat.min_eq_left (by omega)] at b;have c:B^k*(l.getD k 0+B*vl B (m.drop (k+1))+1)≤B^k*(m.getD k 0+B*vl B (m.drop (k+1))):=Nat.mul_le_mul_left _ (by omega);rw[Nat.mul_add (B^k) _ 1] at c;omega
theorem eq_of_all (l m:List Nat)(a:l.length=m.length)(h: ∀j,l.getD j 0=m.getD j 0):l=m:=by
 have:=drop_eq_of l m 0 a (fun j _=>h j)
 simpa using this
theorem dg_zero (B:Nat):dg B 0=[]:=rfl
theorem dg_nil_iff (B n:Nat)(a:2≤B):dg B n=[]↔n=0:=by
 constructor
 ·intro h;have:=vl_dg B n a;rw[h] at this;exact this.symm
 ·intro h;subst h;rfl
theorem dg_len_le (B n k:Nat)(b:2≤B)(h:n<B^k):(dg B n).length≤k:=by
 by_cases e:dg B n=[]
 ·rw[e];simp
 ·have a:=vl_ge B (dg B n) e (norm_dg B n b)
  rw[vl_dg B n b] at a;have c:=(Nat.pow_lt_pow_iff_right (by omega:1<B)).1 (Nat.lt_of_le_of_lt a h);omega
theorem norm_of_ge (B:Nat)(l:List Nat)(b:Small B l)(h:l≠[]→B^ (l.length-1)≤vl B l):Norm l:=by
 intro a e;have i:0<l.length:=List.length_pos_iff.2 a;have c:=vl_take_succ B l (l.length-1) (by omega);rw[show l.length-1+1=l.length from by omega,List.take_of_length_le (Nat.le_refl _),e] at c
 have f:0<B:=by have:=b 0;omega
 have d:=vl_lt B (l.take (l.length-1)) (small_take b _ f);rw[List.length_take,Nat.min_eq_left (by omega)] at d;have g:=h a;omega
end Dg
open Go.RowKit
abbrev yN:Value:= .slice none 0 0
abbrev yS (o:Option Addr)(n c:Nat):Value:= .slice o (Dg.dg 65536 n).length c
abbrev yT (o:Option Addr)(n c:Nat):Value:= .slice o (Dg.dg 4294967296 n).length c
abbrev yhL (a b c R D L G:Int)(g:Bool)(f:Int):List Value:=[.int .i64 a,.int .i64 b,.int .i64 c,.int .i64 R,.int .i64 D,.int .i64 L,.int .i64 G,.bool g,.int .i64 f]
abbrev yhV (a b c R D L G:Int)(g:Bool)(f:Int):Value:= .agg #[.int .i64 a,.int .i64 b,.int .i64 c,.int .i64 R,.int .i64 D,.int .i64 L,.int .i64 G,.bool g,.int .i64 f]
abbrev yhA (a b c R D L G:Int)(g:Bool)(f:Int):Array Value:= #[.int .i64 a,.int .i64 b,.int .i64 c,.int .i64 R,.int .i64 D,.int .i64 L,.int .i64 G,.bool g,.int .i64 f]
theorem tq {P:Program}{md:Region.Mode}{ops:Array Oper}{Q:Exit→Act→World→Prop}{S:World→Prop}{d:Oper}{fuel:Nat}{e:Array Bool}{a:Act}{w:World}(i:Nat)(v:Value)(k:ops[i]? =some d)(l: ∀f,S f→(execOp a.eval d).run P f= .ok (.value v) f)(j:S w)
  (h:wpAnyH P md ops Q S fuel (e.setIfInBounds i true) (a.put d.dst v) w)
  (b:(Region.noSelect ops&&(Region.free md ops e i&&((Region.ready md ops e).contains i&&Region.wanted d (yielded ops a.tmps))))=true:=by kernel_rfl)
  (g: ∀c a w,Q (.panic c) (a.put d.dst v) w→Q (.panic c) a w:=by exact fun _ _ _ h=>h):wpAnyH P md ops Q S (fuel+1) e a w:=by
 simp only[Bool.and_eq_true] at b;exact wpAnyH_take k b.1 b.2.1 b.2.2.1 g (Or.inl ⟨b.2.2.2,l⟩) j h
def Rd (w:World)(k:IntKind)(v:Value)(zs:List Nat):Prop:=
 ∃ao cap,v= .slice ao zs.length cap∧zs.length≤cap∧cap≤maxLen∧
  (0<zs.length→ ∃b off,ao=some ⟨b,off,none⟩∧ ∀i,i<zs.length→w.cell? ⟨b,off+i,none⟩=some (.int k ((zs.getD i 0:Nat):Int)))
def Own (w:World)(base e:Nat)(k:IntKind)(v:Value)(zs:List Nat):Prop:=
 w.ownsRow base e 1 v zs.length (zs.map (fun n:Nat=>Value.int k (n:Int)))
theorem Rd.l {w w':World}{k:IntKind}{v:Value}{zs:List Nat}(h:Rd w k v zs)(g:Below w.heap.size w w'):Rd w' k v zs:=by
 obtain⟨a,cap,o,c,d,e⟩:=h;refine⟨a,cap,o,c,d,fun n=> ?_⟩
 obtain⟨b,p,f,j⟩:=e n;exact⟨b,p,f,fun i m=>cell_later g (j i m)⟩
theorem aa {w a b:World}(h:Below w.heap.size w a)(k:Below a.heap.size a b):Below w.heap.size w b:=
 h.trans (k.mono h.size)
theorem Own.l {w w':World}{base e:Nat}{k:IntKind}{v:Value}{zs:List Nat}(h:Own w base e k v zs)(d:Below w.heap.size w w'):Own w' base e k v zs:=by
 obtain⟨i,a⟩:=h;refine⟨i, ?_⟩
 rcases a with a| ⟨g,cap,c,j,f,b,r⟩
 ·exact .inl a
 ·refine .inr ⟨g,cap,c,j,f, ?_,r⟩
  rw[d.block g ?_]
  ·exact b
  ·rw[Array.getElem?_eq_some_iff] at b
   exact b.1
theorem Own.len {w:World}{base e:Nat}{k:IntKind}{g n cap:Nat}{zs:List Nat}(h:Own w base e k (.slice (some ⟨g,0,none⟩) n cap) zs):n=zs.length:=by
 rcases h.2 with⟨a,_⟩| ⟨c,cap',b,a,_⟩
 ·simp at a
 ·simp at a;exact a.2.1
theorem Own.c {w:World}{base e:Nat}{k:IntKind}{g n cap:Nat}{zs:List Nat}(h:Own w base e k (.slice (some ⟨g,0,none⟩) n cap) zs)(j:Nat)(a:j<zs.length):
  w.cell? ⟨g,j,none⟩=some (.int k ((zs.getD j 0:Nat):Int)):=by
 have d:=h.len;subst d;have b:=World.ownsRow.cellAt h j (by omega);rw[b,List.getElem?_map,List.getElem?_eq_getElem a];simp[List.getD_eq_getElem?_getD,a]
theorem Own.f {w:World}{base e:Nat}{k:IntKind}{g n cap:Nat}{zs:List Nat}(h:Own w base e k (.slice (some ⟨g,0,none⟩) n cap) zs)(j:Nat):w.frozen? ⟨g,j,none⟩=false:=by
 have a:=h.len;subst a;exact World.ownsRow.frozenAt h j
theorem Own.block {w:World}{base e:Nat}{k:IntKind}{g n cap:Nat}{zs:List Nat}(h:Own w base e k (.slice (some ⟨g,0,none⟩) n cap) zs):base≤g∧g<w.heap.size:=by
 have a:=h.len;subst a;exact World.ownsRow.lt h g rfl
theorem Own.take {w:World}{base e:Nat}{k:IntKind}{g n cap:Nat}{zs:List Nat}(h:Own w base e k (.slice (some ⟨g,0,none⟩) n cap) zs)(m:Nat)(l:m≤zs.length):
  Own w base e k (.slice (some ⟨g,0,none⟩) m cap) (zs.take m):=by
 have o:=h.len;subst o;obtain⟨r,c⟩:=h;refine⟨by simp, ?_⟩
 rcases c with⟨a,_⟩| ⟨q,cap',b,a,d,j,s,f,i,p⟩
 ·simp at a
 ·simp only[Value.slice.injEq,Option.some.injEq,Addr.mk.injEq,and_true,true_and] at a
  obtain⟨rfl,rfl⟩:=a;refine .inr ⟨g,cap,b, ?_,d,j,by simp;omega,f,i, ?_⟩
  ·simp[Nat.min_eq_left l]
  ·rw[List.map_take,←p]
   simp only[Nat.mul_one,List.length_take,List.take_take]
abbrev yC (f:Nat)(l:Array Value)(w:World)(p:Ending→World→Prop):Prop:=Calls Tryz.prog f l w p
abbrev yR (w:World)(v:Value):Ending→World→Prop:=fun z w'=>z= .returned v∧Below w.heap.size w w'
abbrev yB (w v:World):Prop:=Below w.heap.size w v
abbrev yJ (f:Nat)(l:Array Value)(v:Value):Prop:= ∀w1,Calls Tryz.prog f l w1 (yR w1 v)
abbrev yH (w:World)(f:Nat)(l:Array Value)(v:Value):Prop:= ∀w1,Below w.heap.size w w1→Calls Tryz.prog f l w1 (yR w1 v)
structure ak where
 s:Bool
 n:Nat
 e:Int
def sz (s:Bool)(n:Nat):Int:=if s then-(n:Int) else n
theorem wn {w:World}{k:IntKind}{c:Option Addr}{b cap:Nat}{zs:List Nat}(h:Rd w k (.slice c b cap) zs):b=zs.length:=by
 obtain⟨d,cap',a,_⟩:=h;simp only[Value.slice.injEq] at a;exact a.2.1
theorem iQ {w:World}{k:IntKind}{a:Option Addr}{cap:Nat}{zs:List Nat}(h:Rd w k (.slice a zs.length cap) zs):
  zs.length≤cap∧cap≤9223372036854775807∧(0<zs.length→ ∃b e,a=some ⟨b,e,none⟩∧ ∀i,i<zs.length→w.cell? ⟨b,e+i,none⟩=some (.int k ((zs.getD i 0:Nat):Int))):=by
 obtain⟨j,cap',d,g,c,f⟩:=h;simp only[Value.slice.injEq,true_and] at d;obtain⟨rfl,rfl⟩:=d;unfold maxLen at c;exact⟨g,c,f⟩
def Ou (zs:List Nat)(n:Nat):Prop:=n≤zs.length∧(∀i,n≤i→zs.getD i 0=0)∧(0<n→zs.getD (n-1) 0≠0)
theorem Own.heap {w:World}{base e:Nat}{k:IntKind}{g n:Nat}{zs:List Nat}(h:Own w base e k (.slice (some ⟨g,0,none⟩) n n) zs):
  w.heap[g]? =some (.cells (zs.map (fun n:Nat=>Value.int k n)).toArray e (0,0)):=by
 have d:=h.len;subst d
 rcases h.2 with⟨a,_⟩| ⟨j,cap',i,a,l,c,o,m,b,f⟩
 ·simp at a
 ·simp only[Value.slice.injEq,Option.some.injEq,Addr.mk.injEq,and_true,true_and] at a
  obtain⟨rfl,rfl⟩:=a;rw[c,←f,List.take_of_length_le (by rw[Array.length_toList,b];omega)]
theorem Own.cap {w:World}{base e:Nat}{k:IntKind}{g n cap:Nat}{zs:List Nat}(h:Own w base e k (.slice (some ⟨g,0,none⟩) n cap) zs):n≤cap∧cap≤9223372036854775807:=by
 have c:=h.len;subst c
 rcases h.2 with⟨a,_⟩| ⟨i,cap',f,a,j,m,d,b,l,o⟩
 ·simp at a
 ·simp only[Value.slice.injEq,Option.some.injEq,Addr.mk.injEq,and_true,true_and] at a
  obtain⟨rfl,rfl⟩:=a;exact⟨d,by unfold maxLen at b;exact b⟩
theorem Tryz.infoI64:(Tryz.prog.info? 3).map (fun i=>(i.zero,i.size,i.bytes))=some (some (.int .i64 0),1,8):=by kernel_rfl
def cG (w:World)(n:Nat)(e:Ending)(w':World):Prop:=
 ∃v,e= .returned v∧Rd w' .i64 v (Dg.dg 65536 n)∧yB w w'
def Far (B:Nat)(v:Value):Prop:= ∀a n c,v= .slice (some a) n c→B≤a.block
theorem JH {w:World}{base e:Nat}{k:IntKind}{v:Value}{zs:List Nat}(h:Own w base e k v zs):Far base v:=fun a n c b=>by
 rcases h.2 with⟨d,_⟩| ⟨g,cap,i,d,f,_⟩
 ·rw[d] at b;cases b
 ·rw[d] at b
  cases b
  exact f
theorem LP {B:Nat}{b:Option Addr}{n c:Nat}(h:Far B (.slice b n c))(g e:Nat):Far B (.slice b g e):=fun a m d f=>by
 cases f
 exact h a n c rfl
theorem Rd.set_far {w:World}{k:IntKind}{v:Value}{zs:List Nat}{B g j:Nat}(h:Rd w k v zs)(n:Far B v)(q:g<B)(x:Value):Rd (w.setCell ⟨g,j,none⟩ x) k v zs:=by
 obtain⟨a,cap,rfl,d,f,l⟩:=h;refine⟨a,cap,rfl,d,f,fun c=> ?_⟩
 obtain⟨b,p,rfl,m⟩:=l c;have:=n _ _ _ rfl;refine⟨b,p,rfl,fun i o=> ?_⟩
 rw[World.cell?_setCell_other (h:=by simp;intro e;simp at this;omega)];exact m i o
def Si (w:World)(n:Nat)(e:Ending)(w':World):Prop:=
 ∃v,e= .returned v∧Rd w' .i64 v (Dg.dg 65536 n)∧Far w.heap.size v∧yB w w'
theorem Far.mono {B b:Nat}{v:Value}(h:Far B v)(d:b≤B):Far b v:=fun a n c e=>Nat.le_trans d (h a n c e)
theorem uE {w:World}{k:IntKind}{d:Option Addr}{r cap n cap':Nat}{zs:List Nat}(B:Nat)(g:2≤B)(h:Rd w k (.slice d r cap) zs)(q:Dg.Small B zs)(c:Ou zs n)(l:n≤cap')(m:cap'≤maxLen):
  Rd w k (.slice d n cap') (Dg.dg B (Dg.vl B zs)):=by
 have a:=wn h;subst a;obtain⟨t,u,f⟩:=iQ h;rw[←Dg.trim_eq B g zs n q c.1 c.2.1 c.2.2];have v:=c.1;have a:(zs.take n).length=n:=by simp;omega
 refine⟨d,cap',by rw[a],by rw[a];exact l,m,fun p=> ?_⟩
 rw[a] at p;obtain⟨b,s,j,o⟩:=f (by omega);refine⟨b,s,j,fun i e=> ?_⟩
 rw[a] at e;rw[o i (by omega),Dg.getD_take _ _ _ e]
def Tab (w:World):Prop:= ∀j,j<32→w.cell? ⟨2,j,none⟩=some (.int .u8 ((Lib.deBruijn32tab.getD j 0:Nat):Int))
theorem Tab.l {w w':World}(h:Tab w)(a:yB w w'):Tab w':=fun j b=>cell_later a (h j b)
def Dv (w:World)(v:Value)(t:ak):Prop:= ∃s,v=(ydV t.s s t.e)∧Rd w .u32 s (Dg.dg 4294967296 t.n)
theorem Dv.l {w w':World}{v:Value}{t:ak}(h:Dv w v t)(a:yB w w'):Dv w' v t:=by
 obtain⟨s,c,b⟩:=h;exact⟨s,c,b.l a⟩
def Loc (w:World)(b:Nat)(v0 v1 v2:Value):Prop:=
 b<w.heap.size∧(w.cell? ⟨b,0,none⟩=some v0∧w.cell? ⟨b,1,none⟩=some v1∧w.cell? ⟨b,2,none⟩=some v2)∧w.frozen? ⟨b,0,none⟩=false∧w.frozen? ⟨b,1,none⟩=false∧w.frozen? ⟨b,2,none⟩=false
theorem Loc.l {w w':World}{b:Nat}{f g i:Value}(h:Loc w b f g i)(c:yB w w'):Loc w' b f g i:=by
 obtain⟨e,⟨j,k,m⟩,n,o,p⟩:=h;have d:=c.block b e;refine⟨Nat.lt_of_lt_of_le e c.size,⟨cell_later c j,cell_later c k,cell_later c m⟩, ?_, ?_, ?_⟩
 ·rw[World.frozen?_of_block (w:=w) (a:=⟨b,0,none⟩) d];exact n
 ·rw[World.frozen?_of_block (w:=w) (a:=⟨b,1,none⟩) d];exact o
 ·rw[World.frozen?_of_block (w:=w) (a:=⟨b,2,none⟩) d];exact p
theorem af (w:World)(o:Obj):yB w (w.alloc o):=(Below.refl _ _).alloc (Nat.le_refl _) _
def au (w:World)(b:Nat)(ty:TypeId)(vs:List Value):Prop:=w.heap[b]? =some (.cells vs.toArray ty (0,0))
theorem au.lt {w:World}{b:Nat}{a:TypeId}{c:List Value}(h:au w b a c):b<w.heap.size:=(Array.getElem?_eq_some_iff.1 h).1
theorem au.l {w w':World}{b:Nat}{a:TypeId}{c:List Value}(h:au w b a c)(d:yB w w'):au w' b a c:=(d.block b h.lt).trans h
theorem ah (w:World)(b:List Value)(a:TypeId):au (w.alloc (.cells b.toArray a)) w.heap.size a b:=heap_alloc_new _ _
theorem au.c {w:World}{b:Nat}{e:TypeId}{a:List Value}(h:au w b e a)(i:Nat){v:Value}(d:a[i]? =some v):w.cell? ⟨b,i,none⟩=some v:=by
 unfold World.cell?;simp only;rw[h]
 simpa using d
theorem au.f {w:World}{b:Nat}{a:TypeId}{c:List Value}(h:au w b a c)(i:Nat):w.frozen? ⟨b,i,none⟩=false:=by
 unfold World.frozen?;simp only;rw[h];simp
theorem au.set {w:World}{b:Nat}{a:TypeId}{c:List Value}(h:au w b a c)(i:Nat)(x:Value):au (w.setCell ⟨b,i,none⟩ x) b a (c.set i x):=by
 have d:=h.lt;have e:w.heap[b]= .cells c.toArray a (0,0):=by simpa[au,Array.getElem?_eq_getElem d] using h
 show(w.heap.modify b _)[b]? =_
 rw[Array.getElem?_eq_getElem (by simpa using d),Array.getElem_modify_self,e];simp
theorem au.off {w:World}{b c:Nat}{a:TypeId}{d:List Value}(h:au w b a d)(f:c≠b)(i:Nat)(x:Value):au (w.setCell ⟨c,i,none⟩ x) b a d:=by
 unfold au;rw[Below.heap_setCell _ _ _ _ (fun e=>f e.symm)]
 exact h
def wF (b:Nat)(v:Value)(zs:List Nat):Prop:=0<zs.length→ ∀a n c,v= .slice (some a) n c→a.block≠b
theorem Rd.set {w:World}{k:IntKind}{v:Value}{zs:List Nat}(h:Rd w k v zs){b:Nat}(p:wF b v zs)(i:Nat)(x:Value):Rd (w.setCell ⟨b,i,none⟩ x) k v zs:=by
 obtain⟨c,cap,rfl,d,e,f⟩:=h;refine⟨c,cap,rfl,d,e,fun a=> ?_⟩
 obtain⟨g,q,rfl,l⟩:=f a;have n:=p a _ _ _ rfl;refine⟨g,q,rfl,fun j m=> ?_⟩
 have o:g≠b:=n;unfold World.cell?;simp only;rw[Below.heap_setCell _ _ _ _ o];exact l j m
structure But (b:Nat) (w w':World):Prop where
 os:w'.os=w.os
 tape:w'.tape=w.tape
 output:w'.output=w.output
 size:w'.heap.size=w.heap.size
 block: ∀k,k≠b→w'.heap[k]? =w.heap[k]?
theorem ag (w:World)(b i:Nat)(x:Value):But b w (w.setCell ⟨b,i,none⟩ x):=
 ⟨rfl,rfl,rfl,by simp[World.setCell],fun _ a=>Below.heap_setCell _ _ _ _ a⟩
theorem But.trans {b:Nat}{w c d:World}(h:But b w c)(k:But b c d):But b w d:=
 ⟨k.os.trans h.os,k.tape.trans h.tape,k.output.trans h.output,k.size.trans h.size,fun i a=>(k.block i a).trans (h.block i a)⟩
theorem But.below {b B:Nat}{a w w':World}(h:But b w w')(k:Below B a w)(d:B≤b):Below B a w':=
 ⟨h.os.trans k.os,h.tape.trans k.tape,h.output.trans k.output,by rw[h.size];exact k.size,fun i c=>(h.block i (by omega)).trans (k.block i c)⟩
theorem But.c {b:Nat}{w w':World}(h:But b w w'){a:Addr}(d:a.block≠b):w'.cell? a=w.cell? a:=by
 unfold World.cell?;rw[h.block a.block d]
theorem au.range {w:World}{b:Nat}{e:TypeId}{a:List Value}(h:au w b e a):w.rangeAt b 0 a:=fun j _ d=>by rw[Nat.zero_add];exact h.c j d
theorem aj {P:Program}{d:Func}{a t:Nat}{g:TypeId}{c:Array Value}{w:World}{b:Nat}{v u:Value}(i:d.results= #[.cell a g,.tmp t])(e:c.getD a undef= .pointer (some ⟨b,0,none⟩))(f:c.getD t undef=u)(h:(loadVar g ⟨b,0,none⟩).run P w= .ok v w):(results d c).run P w= .ok (.tuple #[v,u]) w:=by
 rw[Array.getD_eq_getD_getElem?] at e f;unfold results;simp[i,e,f,asAddr,h]
theorem nD (a b c d e f g:Int)(w:World):yC 50 #[yi a,yi b,yi c,yi d,yi e,yi f,yi g] w (yR w (yhV a b c 2 d e f (g==1) g)):=by
 go_enter func50,ntmps50
 go_wp2
 go_returns
 exact⟨rfl,af _ _⟩
theorem Ly (w:World):yC 15 #[yi 1] w (yR w (.tuple #[yhV 4 8 23 2 24 (-149) 104 true 1,.bool true])):=by
 have g:Hid (yJ 50 #[yi 4,yi 8,yi 23,yi 24,yi (-149),yi 104,yi 1] (yhV 4 8 23 2 24 (-149) 104 true 1)):=fun n=>nD _ _ _ _ _ _ _ n
 have j:=ah w (yhL 0 0 0 0 0 0 0 false 0) 56;have h:=af w (.cells (yhA 0 0 0 0 0 0 0 false 0) 56)
 go_enter func15,ntmps15
 go_wp2_with fail
 refine(g.out _).mono ?_;rintro z k ⟨rfl,e⟩;have a:=j.l e;have i:au (((((((((k.setCell ⟨w.heap.size,0,none⟩ (yi 4)).setCell ⟨w.heap.size,1,none⟩ (yi 8)).setCell ⟨w.heap.size,2,none⟩ (yi 23)).setCell ⟨w.heap.size,3,none⟩ (yi 2)).setCell ⟨w.heap.size,4,none⟩ (yi 24)).setCell ⟨w.heap.size,5,none⟩ (yi (-149))).setCell ⟨w.heap.size,6,none⟩ (yi 104)).setCell ⟨w.heap.size,7,none⟩ (.bool true)).setCell ⟨w.heap.size,8,none⟩ (yi 1)) w.heap.size 56 (yhL 4 8 23 2 24 (-149) 104 true 1):=(((((((((a.set 0 (yi 4)).set 1 (yi 8)).set 2 (yi 23)).set 3 (yi 2)).set 4 (yi 24)).set 5 (yi (-149))).set 6 (yi 104)).set 7 (.bool true)).set 8 (yi 1));have b:=(((((((((ag k w.heap.size 0 (yi 4)).trans (ag _ w.heap.size 1 (yi 8))).trans (ag _ w.heap.size 2 (yi 23))).trans (ag _ w.heap.size 3 (yi 2))).trans (ag _ w.heap.size 4 (yi 24))).trans (ag _ w.heap.size 5 (yi (-149)))).trans (ag _ w.heap.size 6 (yi 104))).trans (ag _ w.heap.size 7 (.bool true))).trans (ag _ w.heap.size 8 (yi 1))).below (aa h e) (Nat.le_refl _);have d:=run_loadVar_mid (P:=Tryz.prog) _ w.heap.size 0 56 (yhL 4 8 23 2 24 (-149) 104 true 1) _ i.range underlying56 rfl (by kernel_rfl);have m:Hid (_∧_):=⟨d,b⟩;have y:=a.c 0 rfl;have o:=a.f 0;have A:=a.c 1 rfl;have p:=a.f 1;have B:=a.c 2 rfl;have q:=a.f 2;have C:=a.c 3 rfl;have r:=a.f 3;have D:=a.c 4 rfl;have s:=a.f 4;have E:=a.c 5 rfl;have t:=a.f 5;have F:=a.c 6 rfl;have u:=a.f 6;have G:=a.c 7 rfl;have v:=a.f 7;have H:=a.c 8 rfl;have x:=a.f 8;clear d b i j a h e g
 go_wp2
 obtain⟨d,b⟩:=m.out;exact bodyPost_ret (aj results15 rfl rfl d) rfl ⟨rfl,b⟩
theorem Lz (w:World):yC 15 #[yi 2] w (yR w (.tuple #[yhV 8 11 52 2 53 (-1074) 971 true 1,.bool true])):=by
 have g:Hid (yJ 50 #[yi 8,yi 11,yi 52,yi 53,yi (-1074),yi 971,yi 1] (yhV 8 11 52 2 53 (-1074) 971 true 1)):=fun n=>nD _ _ _ _ _ _ _ n
 have j:=ah w (yhL 0 0 0 0 0 0 0 false 0) 56;have h:=af w (.cells (yhA 0 0 0 0 0 0 0 false 0) 56)
 go_enter func15,ntmps15
 go_wp2_with fail
 refine(g.out _).mono ?_;rintro z k ⟨rfl,e⟩;have a:=j.l e;have i:au (((((((((k.setCell ⟨w.heap.size,0,none⟩ (yi 8)).setCell ⟨w.heap.size,1,none⟩ (yi 11)).setCell ⟨w.heap.size,2,none⟩ (yi 52)).setCell ⟨w.heap.size,3,none⟩ (yi 2)).setCell ⟨w.heap.size,4,none⟩ (yi 53)).setCell ⟨w.heap.size,5,none⟩ (yi (-1074))).setCell ⟨w.heap.size,6,none⟩ (yi 971)).setCell ⟨w.heap.size,7,none⟩ (.bool true)).setCell ⟨w.heap.size,8,none⟩ (yi 1)) w.heap.size 56 (yhL 8 11 52 2 53 (-1074) 971 true 1):=(((((((((a.set 0 (yi 8)).set 1 (yi 11)).set 2 (yi 52)).set 3 (yi 2)).set 4 (yi 53)).set 5 (yi (-1074))).set 6 (yi 971)).set 7 (.bool true)).set 8 (yi 1));have b:=(((((((((ag k w.heap.size 0 (yi 8)).trans (ag _ w.heap.size 1 (yi 11))).trans (ag _ w.heap.size 2 (yi 52))).trans (ag _ w.heap.size 3 (yi 2))).trans (ag _ w.heap.size 4 (yi 53))).trans (ag _ w.heap.size 5 (yi (-1074)))).trans (ag _ w.heap.size 6 (yi 971))).trans (ag _ w.heap.size 7 (.bool true))).trans (ag _ w.heap.size 8 (yi 1))).below (aa h e) (Nat.le_refl _);have d:=run_loadVar_mid (P:=Tryz.prog) _ w.heap.size 0 56 (yhL 8 11 52 2 53 (-1074) 971 true 1) _ i.range underlying56 rfl (by kernel_rfl);have m:Hid (_∧_):=⟨d,b⟩;have y:=a.c 0 rfl;have o:=a.f 0;have A:=a.c 1 rfl;have p:=a.f 1;have B:=a.c 2 rfl;have q:=a.f 2;have C:=a.c 3 rfl;have r:=a.f 3;have D:=a.c 4 rfl;have s:=a.f 4;have E:=a.c 5 rfl;have t:=a.f 5;have F:=a.c 6 rfl;have u:=a.f 6;have G:=a.c 7 rfl;have v:=a.f 7;have H:=a.c 8 rfl;have x:=a.f 8;clear d b i j a h e g
 go_wp2
 obtain⟨d,b⟩:=m.out;exact bodyPost_ret (aj results15 rfl rfl d) rfl ⟨rfl,b⟩
theorem LA (w:World):yC 15 #[yi 3] w (yR w (.tuple #[yhV 10 15 64 2 64 (-16445) 16320 true 1,.bool true])):=by
 have g:Hid (yJ 50 #[yi 10,yi 15,yi 64,yi 64,yi (-16445),yi 16320,yi 1] (yhV 10 15 64 2 64 (-16445) 16320 true 1)):=fun n=>nD _ _ _ _ _ _ _ n
 have j:=ah w (yhL 0 0 0 0 0 0 0 false 0) 56;have h:=af w (.cells (yhA 0 0 0 0 0 0 0 false 0) 56)
 go_enter func15,ntmps15
 go_wp2_with fail
 refine(g.out _).mono ?_;rintro z k ⟨rfl,e⟩;have a:=j.l e;have i:au (((((((((k.setCell ⟨w.heap.size,0,none⟩ (yi 10)).setCell ⟨w.heap.size,1,none⟩ (yi 15)).setCell ⟨w.heap.size,2,none⟩ (yi 64)).setCell ⟨w.heap.size,3,none⟩ (yi 2)).setCell ⟨w.heap.size,4,none⟩ (yi 64)).setCell ⟨w.heap.size,5,none⟩ (yi (-16445))).setCell ⟨w.heap.size,6,none⟩ (yi 16320)).setCell ⟨w.heap.size,7,none⟩ (.bool true)).setCell ⟨w.heap.size,8,none⟩ (yi 1)) w.heap.size 56 (yhL 10 15 64 2 64 (-16445) 16320 true 1):=(((((((((a.set 0 (yi 10)).set 1 (yi 15)).set 2 (yi 64)).set 3 (yi 2)).set 4 (yi 64)).set 5 (yi (-16445))).set 6 (yi 16320)).set 7 (.bool true)).set 8 (yi 1));have b:=(((((((((ag k w.heap.size 0 (yi 10)).trans (ag _ w.heap.size 1 (yi 15))).trans (ag _ w.heap.size 2 (yi 64))).trans (ag _ w.heap.size 3 (yi 2))).trans (ag _ w.heap.size 4 (yi 64))).trans (ag _ w.heap.size 5 (yi (-16445)))).trans (ag _ w.heap.size 6 (yi 16320))).trans (ag _ w.heap.size 7 (.bool true))).trans (ag _ w.heap.size 8 (yi 1))).below (aa h e) (Nat.le_refl _);have d:=run_loadVar_mid (P:=Tryz.prog) _ w.heap.size 0 56 (yhL 10 15 64 2 64 (-16445) 16320 true 1) _ i.range underlying56 rfl (by kernel_rfl);have m:Hid (_∧_):=⟨d,b⟩;have y:=a.c 0 rfl;have o:=a.f 0;have A:=a.c 1 rfl;have p:=a.f 1;have B:=a.c 2 rfl;have q:=a.f 2;have C:=a.c 3 rfl;have r:=a.f 3;have D:=a.c 4 rfl;have s:=a.f 4;have E:=a.c 5 rfl;have t:=a.f 5;have F:=a.c 6 rfl;have u:=a.f 6;have G:=a.c 7 rfl;have v:=a.f 7;have H:=a.c 8 rfl;have x:=a.f 8;clear d b i j a h e g
 go_wp2
 obtain⟨d,b⟩:=m.out;exact bodyPost_ret (aj results15 rfl rfl d) rfl ⟨rfl,b⟩
theorem LE (w:World):yC 15 #[yi 6] w (yR w (.tuple #[yhV 4 8 23 2 24 (-151) 103 false 3,.bool true])):=by
 have g:Hid (yJ 50 #[yi 4,yi 8,yi 23,yi 24,yi (-151),yi 103,yi 3] (yhV 4 8 23 2 24 (-151) 103 false 3)):=fun n=>nD _ _ _ _ _ _ _ n
 have j:=ah w (yhL 0 0 0 0 0 0 0 false 0) 56;have h:=af w (.cells (yhA 0 0 0 0 0 0 0 false 0) 56)
 go_enter func15,ntmps15
 go_wp2_with fail
 refine(g.out _).mono ?_;rintro z k ⟨rfl,e⟩;have a:=j.l e;have i:au (((((((((k.setCell ⟨w.heap.size,0,none⟩ (yi 4)).setCell ⟨w.heap.size,1,none⟩ (yi 8)).setCell ⟨w.heap.size,2,none⟩ (yi 23)).setCell ⟨w.heap.size,3,none⟩ (yi 2)).setCell ⟨w.heap.size,4,none⟩ (yi 24)).setCell ⟨w.heap.size,5,none⟩ (yi (-151))).setCell ⟨w.heap.size,6,none⟩ (yi 103)).setCell ⟨w.heap.size,7,none⟩ (.bool false)).setCell ⟨w.heap.size,8,none⟩ (yi 3)) w.heap.size 56 (yhL 4 8 23 2 24 (-151) 103 false 3):=(((((((((a.set 0 (yi 4)).set 1 (yi 8)).set 2 (yi 23)).set 3 (yi 2)).set 4 (yi 24)).set 5 (yi (-151))).set 6 (yi 103)).set 7 (.bool false)).set 8 (yi 3));have b:=(((((((((ag k w.heap.size 0 (yi 4)).trans (ag _ w.heap.size 1 (yi 8))).trans (ag _ w.heap.size 2 (yi 23))).trans (ag _ w.heap.size 3 (yi 2))).trans (ag _ w.heap.size 4 (yi 24))).trans (ag _ w.heap.size 5 (yi (-151)))).trans (ag _ w.heap.size 6 (yi 103))).trans (ag _ w.heap.size 7 (.bool false))).trans (ag _ w.heap.size 8 (yi 3))).below (aa h e) (Nat.le_refl _);have d:=run_loadVar_mid (P:=Tryz.prog) _ w.heap.size 0 56 (yhL 4 8 23 2 24 (-151) 103 false 3) _ i.range underlying56 rfl (by kernel_rfl);have m:Hid (_∧_):=⟨d,b⟩;have y:=a.c 0 rfl;have o:=a.f 0;have A:=a.c 1 rfl;have p:=a.f 1;have B:=a.c 2 rfl;have q:=a.f 2;have C:=a.c 3 rfl;have r:=a.f 3;have D:=a.c 4 rfl;have s:=a.f 4;have E:=a.c 5 rfl;have t:=a.f 5;have F:=a.c 6 rfl;have u:=a.f 6;have G:=a.c 7 rfl;have v:=a.f 7;have H:=a.c 8 rfl;have x:=a.f 8;clear d b i j a h e g
 go_wp2
 obtain⟨d,b⟩:=m.out;exact bodyPost_ret (aj results15 rfl rfl d) rfl ⟨rfl,b⟩
theorem LF (w:World):yC 15 #[yi 7] w (yR w (.tuple #[yhV 8 8 55 2 56 (-183) 71 false 3,.bool true])):=by
 have g:Hid (yJ 50 #[yi 8,yi 8,yi 55,yi 56,yi (-183),yi 71,yi 3] (yhV 8 8 55 2 56 (-183) 71 false 3)):=fun n=>nD _ _ _ _ _ _ _ n
 have j:=ah w (yhL 0 0 0 0 0 0 0 false 0) 56;have h:=af w (.cells (yhA 0 0 0 0 0 0 0 false 0) 56)
 go_enter func15,ntmps15
 go_wp2_with fail
 refine(g.out _).mono ?_;rintro z k ⟨rfl,e⟩;have a:=j.l e;have i:au (((((((((k.setCell ⟨w.heap.size,0,none⟩ (yi 8)).setCell ⟨w.heap.size,1,none⟩ (yi 8)).setCell ⟨w.heap.size,2,none⟩ (yi 55)).setCell ⟨w.heap.size,3,none⟩ (yi 2)).setCell ⟨w.heap.size,4,none⟩ (yi 56)).setCell ⟨w.heap.size,5,none⟩ (yi (-183))).setCell ⟨w.heap.size,6,none⟩ (yi 71)).setCell ⟨w.heap.size,7,none⟩ (.bool false)).setCell ⟨w.heap.size,8,none⟩ (yi 3)) w.heap.size 56 (yhL 8 8 55 2 56 (-183) 71 false 3):=(((((((((a.set 0 (yi 8)).set 1 (yi 8)).set 2 (yi 55)).set 3 (yi 2)).set 4 (yi 56)).set 5 (yi (-183))).set 6 (yi 71)).set 7 (.bool false)).set 8 (yi 3));have b:=(((((((((ag k w.heap.size 0 (yi 8)).trans (ag _ w.heap.size 1 (yi 8))).trans (ag _ w.heap.size 2 (yi 55))).trans (ag _ w.heap.size 3 (yi 2))).trans (ag _ w.heap.size 4 (yi 56))).trans (ag _ w.heap.size 5 (yi (-183)))).trans (ag _ w.heap.size 6 (yi 71))).trans (ag _ w.heap.size 7 (.bool false))).trans (ag _ w.heap.size 8 (yi 3))).below (aa h e) (Nat.le_refl _);have d:=run_loadVar_mid (P:=Tryz.prog) _ w.heap.size 0 56 (yhL 8 8 55 2 56 (-183) 71 false 3) _ i.range underlying56 rfl (by kernel_rfl);have m:Hid (_∧_):=⟨d,b⟩;have y:=a.c 0 rfl;have o:=a.f 0;have A:=a.c 1 rfl;have p:=a.f 1;have B:=a.c 2 rfl;have q:=a.f 2;have C:=a.c 3 rfl;have r:=a.f 3;have D:=a.c 4 rfl;have s:=a.f 4;have E:=a.c 5 rfl;have t:=a.f 5;have F:=a.c 6 rfl;have u:=a.f 6;have G:=a.c 7 rfl;have v:=a.f 7;have H:=a.c 8 rfl;have x:=a.f 8;clear d b i j a h e g
 go_wp2
 obtain⟨d,b⟩:=m.out;exact bodyPost_ret (aj results15 rfl rfl d) rfl ⟨rfl,b⟩
theorem LH (w:World):yC 15 #[yi 8] w (yR w (.tuple #[yhV 8 11 52 2 53 (-1076) 970 false 3,.bool true])):=by
 have g:Hid (yJ 50 #[yi 8,yi 11,yi 52,yi 53,yi (-1076),yi 970,yi 3] (yhV 8 11 52 2 53 (-1076) 970 false 3)):=fun n=>nD _ _ _ _ _ _ _ n
 have j:=ah w (yhL 0 0 0 0 0 0 0 false 0) 56;have h:=af w (.cells (yhA 0 0 0 0 0 0 0 false 0) 56)
 go_enter func15,ntmps15
 go_wp2_with fail
 refine(g.out _).mono ?_;rintro z k ⟨rfl,e⟩;have a:=j.l e;have i:au (((((((((k.setCell ⟨w.heap.size,0,none⟩ (yi 8)).setCell ⟨w.heap.size,1,none⟩ (yi 11)).setCell ⟨w.heap.size,2,none⟩ (yi 52)).setCell ⟨w.heap.size,3,none⟩ (yi 2)).setCell ⟨w.heap.size,4,none⟩ (yi 53)).setCell ⟨w.heap.size,5,none⟩ (yi (-1076))).setCell ⟨w.heap.size,6,none⟩ (yi 970)).setCell ⟨w.heap.size,7,none⟩ (.bool false)).setCell ⟨w.heap.size,8,none⟩ (yi 3)) w.heap.size 56 (yhL 8 11 52 2 53 (-1076) 970 false 3):=(((((((((a.set 0 (yi 8)).set 1 (yi 11)).set 2 (yi 52)).set 3 (yi 2)).set 4 (yi 53)).set 5 (yi (-1076))).set 6 (yi 970)).set 7 (.bool false)).set 8 (yi 3));have b:=(((((((((ag k w.heap.size 0 (yi 8)).trans (ag _ w.heap.size 1 (yi 11))).trans (ag _ w.heap.size 2 (yi 52))).trans (ag _ w.heap.size 3 (yi 2))).trans (ag _ w.heap.size 4 (yi 53))).trans (ag _ w.heap.size 5 (yi (-1076)))).trans (ag _ w.heap.size 6 (yi 970))).trans (ag _ w.heap.size 7 (.bool false))).trans (ag _ w.heap.size 8 (yi 3))).below (aa h e) (Nat.le_refl _);have d:=run_loadVar_mid (P:=Tryz.prog) _ w.heap.size 0 56 (yhL 8 11 52 2 53 (-1076) 970 false 3) _ i.range underlying56 rfl (by kernel_rfl);have m:Hid (_∧_):=⟨d,b⟩;have y:=a.c 0 rfl;have o:=a.f 0;have A:=a.c 1 rfl;have p:=a.f 1;have B:=a.c 2 rfl;have q:=a.f 2;have C:=a.c 3 rfl;have r:=a.f 3;have D:=a.c 4 rfl;have s:=a.f 4;have E:=a.c 5 rfl;have t:=a.f 5;have F:=a.c 6 rfl;have u:=a.f 6;have G:=a.c 7 rfl;have v:=a.f 7;have H:=a.c 8 rfl;have x:=a.f 8;clear d b i j a h e g
 go_wp2
 obtain⟨d,b⟩:=m.out;exact bodyPost_ret (aj results15 rfl rfl d) rfl ⟨rfl,b⟩
end Go.Proofs.YtlhkndcmbpcpgaaGreatDoor
