/- Texts laid together. -/
import Derived.WalkKit
import Derived.WalkSpells
import Derived.OrdersHeld
import Derived.Deep.QuietTactic
import Derived.BigQuiet
import Derived.Test.YthhiidikgchdeabGreatDoorChecked
import Derived.Handy
set_option maxRecDepth 100000
namespace Go.Proofs.YthhiidikgchdeabGreatDoor
open _root_.Go.Proofs.Tryz
open Go.RowKit
abbrev yi (n:Int):Value:= .int .i64 n
abbrev ylL (R D L G:Int)(g:Bool)(s e f:Int)(F:Nat):List Value:=[.int .i64 R,.int .i64 D,.int .i64 L,.int .i64 G,.bool g,.int .i64 s,.int .i64 e,.int .i64 f,.func (.func F) #[] #[]]
abbrev ylV (R D L G:Int)(g:Bool)(s e f:Int)(F:Nat):Value:= .agg #[.int .i64 R,.int .i64 D,.int .i64 L,.int .i64 G,.bool g,.int .i64 s,.int .i64 e,.int .i64 f,.func (.func F) #[] #[]]
abbrev ylA (R D L G:Int)(g:Bool)(s e f:Int)(F:Nat):Array Value:= #[.int .i64 R,.int .i64 D,.int .i64 L,.int .i64 G,.bool g,.int .i64 s,.int .i64 e,.int .i64 f,.func (.func F) #[] #[]]
abbrev yzL (R D L G:Int)(g:Bool)(s e f:Int):List Value:=[.int .i64 R,.int .i64 D,.int .i64 L,.int .i64 G,.bool g,.int .i64 s,.int .i64 e,.int .i64 f,.nilFunc]
abbrev yzV (R D L G:Int)(g:Bool)(s e f:Int):Value:= .agg #[.int .i64 R,.int .i64 D,.int .i64 L,.int .i64 G,.bool g,.int .i64 s,.int .i64 e,.int .i64 f,.nilFunc]
abbrev yzA (R D L G:Int)(g:Bool)(s e f:Int):Array Value:= #[.int .i64 R,.int .i64 D,.int .i64 L,.int .i64 G,.bool g,.int .i64 s,.int .i64 e,.int .i64 f,.nilFunc]
abbrev yoL (c:Int)(g s:Bool)(v:Value)(e:Int):List Value:=[.int .i64 c,.bool g,.bool s,v,.int .i64 e]
abbrev yoV (c:Int)(g s:Bool)(v:Value)(e:Int):Value:= .agg #[.int .i64 c,.bool g,.bool s,v,.int .i64 e]
abbrev yoA (c:Int)(g s:Bool)(v:Value)(e:Int):Array Value:= #[.int .i64 c,.bool g,.bool s,v,.int .i64 e]
abbrev ykL (n w f R D L G:Int)(g:Bool):List Value:=[.int .i64 n,.int .i64 w,.int .i64 f,.int .i64 R,.int .i64 D,.int .i64 L,.int .i64 G,.bool g]
abbrev ykV (n w f R D L G:Int)(g:Bool):Value:= .agg #[.int .i64 n,.int .i64 w,.int .i64 f,.int .i64 R,.int .i64 D,.int .i64 L,.int .i64 G,.bool g]
abbrev ykA (n w f R D L G:Int)(g:Bool):Array Value:= #[.int .i64 n,.int .i64 w,.int .i64 f,.int .i64 R,.int .i64 D,.int .i64 L,.int .i64 G,.bool g]
abbrev yvL (c:Int)(g:Bool)(v:Value)(p:Int):List Value:=[.int .i64 c,.bool g,v,.int .i64 p]
abbrev yvV (c:Int)(g:Bool)(v:Value)(p:Int):Value:= .agg #[.int .i64 c,.bool g,v,.int .i64 p]
abbrev yvA (c:Int)(g:Bool)(v:Value)(p:Int):Array Value:= #[.int .i64 c,.bool g,v,.int .i64 p]
abbrev ydL (s:Bool)(v:Value)(e:Int):List Value:=[.bool s,v,.int .i64 e]
abbrev ydV (s:Bool)(v:Value)(e:Int):Value:= .agg #[.bool s,v,.int .i64 e]
abbrev ydA (s:Bool)(v:Value)(e:Int):Array Value:= #[.bool s,v,.int .i64 e]
abbrev ygL (R D L G:Int)(g:Bool):List Value:=[.int .i64 R,.int .i64 D,.int .i64 L,.int .i64 G,.bool g]
abbrev ygV (R D L G:Int)(g:Bool):Value:= .agg #[.int .i64 R,.int .i64 D,.int .i64 L,.int .i64 G,.bool g]
abbrev ygA (R D L G:Int)(g:Bool):Array Value:= #[.int .i64 R,.int .i64 D,.int .i64 L,.int .i64 G,.bool g]
abbrev yfL (g:Bool)(e f:Int):List Value:=[.bool g,.int .i64 e,.int .u64 f]
abbrev yfV (g:Bool)(e f:Int):Value:= .agg #[.bool g,.int .i64 e,.int .u64 f]
abbrev yfA (g:Bool)(e f:Int):Array Value:= #[.bool g,.int .i64 e,.int .u64 f]
abbrev ypL (s:Bool)(v:Value)(p:Int)(x o u:Bool):List Value:=[.bool s,v,.int .i64 p,.bool x,.bool o,.bool u]
abbrev ypV (s:Bool)(v:Value)(p:Int)(x o u:Bool):Value:= .agg #[.bool s,v,.int .i64 p,.bool x,.bool o,.bool u]
abbrev ypA (s:Bool)(v:Value)(p:Int)(x o u:Bool):Array Value:= #[.bool s,v,.int .i64 p,.bool x,.bool o,.bool u]
abbrev yrL (s:Bool)(v u:Value)(e:Int):List Value:=[.bool s,v,u,.int .i64 e]
abbrev yrV (s:Bool)(v u:Value)(e:Int):Value:= .agg #[.bool s,v,u,.int .i64 e]
abbrev yrA (s:Bool)(v u:Value)(e:Int):Array Value:= #[.bool s,v,u,.int .i64 e]
namespace Dg
def vl (B:Nat):List Nat→Nat
 | []=>0
 |d::l=>d+B*vl B l
def dgF (B:Nat):Nat→Nat→List Nat
 |0,_=>[]
 |f+1,n=>if n=0 then[] else n % B::dgF B f (n/B)
def dg (B n:Nat):List Nat:=dgF B n n
def Norm (l:List Nat):Prop:=l≠[]→l.getD (l.length-1) 0≠0
def Small (B:Nat)(l:List Nat):Prop:= ∀i,l.getD i 0<B
theorem div_lt_of (B n f:Nat)(b:2≤B)(h:n≤f+1)(a:n≠0):n/B≤f:=by
 have:n/B<n:=Nat.div_lt_self (by omega) (by omega);omega
theorem vl_dgF (B:Nat)(b:2≤B): ∀f n,n≤f→vl B (dgF B f n)=n:=by
 intro f
 induction f with
 |zero=>
  intro n h;have:n=0:=by omega
  subst this;rfl
 |succ f ih=>
  intro n h;unfold dgF
  by_cases a:n=0
  ·simp[a,vl]
  ·simp only[a,if_false,vl]
   rw[ih _ (div_lt_of B n f b h a)];exact Nat.mod_add_div n B
theorem vl_dg (B n:Nat)(a:2≤B):vl B (dg B n)=n:=vl_dgF B a n n (Nat.le_refl _)
theorem small_nil (B:Nat)(a:0<B):Small B []:=by intro i;simpa using a
theorem small_cons {B d:Nat}{l:List Nat}:Small B (d::l)↔d<B∧Small B l:=by
 constructor
 ·intro h
  exact⟨by simpa using h 0,fun i=>by simpa using h (i+1)⟩
 ·intro h i
  cases i with
  |zero=>simpa using h.1
  |succ i=>simpa using h.2 i
theorem small_dgF (B:Nat)(b:2≤B): ∀f n,Small B (dgF B f n):=by
 intro f
 induction f with
 |zero=>intro n;exact small_nil B (by omega)
 |succ f ih=>
  intro n;unfold dgF
  by_cases a:n=0
  ·simp only[a,if_true];exact small_nil B (by omega)
  ·simp only[a,if_false]
   exact small_cons.2 ⟨Nat.mod_lt _ (by omega),ih _⟩
theorem small_dg (B n:Nat)(a:2≤B):Small B (dg B n):=small_dgF B a n n
theorem norm_cons {d:Nat}{l:List Nat}(a:l≠[]):Norm (d::l)↔Norm l:=by
 unfold Norm
 cases l with
 |nil=>exact absurd rfl a
 |cons e m=>simp
theorem dgF_ne_nil (B f n:Nat)(h:n≤f)(a:n≠0):dgF B f n≠[]:=by
 cases f with
 |zero=>omega
 |succ f=>unfold dgF;simp[a]
theorem norm_dgF (B:Nat)(g:2≤B): ∀f n,n≤f→Norm (dgF B f n):=by
 intro f
 induction f with
 |zero=>intro n _ h;exact absurd rfl h
 |succ f ih=>
  intro n h;unfold dgF
  by_cases a:n=0
  ·simp[a,Norm]
  ·simp only[a,if_false]
   have c:=div_lt_of B n f g h a
   by_cases b:n/B=0
   ·have e:dgF B f (n/B)=[]:=by cases f<;>simp[dgF,b]
    rw[e];intro _;have:n % B=n:=Nat.mod_eq_of_lt (by
     rcases Nat.div_eq_zero_iff.1 b with d|d
     ·omega
     ·exact d)
    simpa[this] using a
   ·exact(norm_cons (dgF_ne_nil B f _ c b)).2 (ih _ c)
theorem norm_dg (B n:Nat)(a:2≤B):Norm (dg B n):=norm_dgF B a n n (Nat.le_refl _)
theorem vl_ne_zero (B:Nat)(b:0<B): ∀l,l≠[]→Norm l→vl B l≠0:=by
 intro l
 induction l with
 |nil=>intro h;exact absurd rfl h
 |cons d l ih=>
  intro _ a
  cases l with
  |nil=>have:=a (by simp);simp[vl] at this⊢;exact this
  |cons e m=>
   have c:=ih (by simp) ((norm_cons (by simp)).1 a);have:0<B*vl B (e::m):=Nat.mul_pos b (by omega)
   show d+B*vl B (e::m)≠0
   omega
theorem vl_inj (B:Nat)(q:2≤B): ∀l m,Small B l→Small B m→Norm l→Norm m→vl B l=vl B m→l=m:=by
 intro l
 induction l with
 |nil=>
  intro m _ _ _ b e
  cases m with
  |nil=>rfl
  |cons x y=>exact absurd e.symm (vl_ne_zero B (by omega) _ (by simp) b)
 |cons d l ih=>
  intro m o p g b e
  cases m with
  |nil=>exact absurd e (vl_ne_zero B (by omega) _ (by simp) g)
  |cons x y=>
   have c:=small_cons.1 o;have f:=small_cons.1 p;simp only[vl] at e;have i:d=x:=by
    have:=congrArg (· % B) e
    simpa[Nat.add_mul_mod_self_left,Nat.mod_eq_of_lt c.1,Nat.mod_eq_of_lt f.1] using this
   subst i;have j:vl B l=vl B y:=Nat.eq_of_mul_eq_mul_left (by omega:0<B) (by omega);have k:Norm l:=by
    by_cases a:l=[]
    ·subst a;intro h;exact absurd rfl h
    ·exact(norm_cons a).1 g
   have n:Norm y:=by
    by_cases a:y=[]
    ·subst a;intro h;exact absurd rfl h
    ·exact(norm_cons a).1 b
   rw[ih y c.2 f.2 k n j]
theorem dg_vl (B:Nat)(a:2≤B)(l:List Nat)(c:Small B l)(b:Norm l):dg B (vl B l)=l:=
 vl_inj B a _ _ (small_dg B _ a) c (norm_dg B _ a) b (vl_dg B _ a)
theorem eq_dg (B:Nat)(a:2≤B)(l:List Nat)(n:Nat)(c:Small B l)(b:Norm l)(e:vl B l=n):l=dg B n:=by
 rw[←e,dg_vl B a l c b]
theorem vl_append (B:Nat): ∀l m,vl B (l++m)=vl B l+B^l.length*vl B m:=by
 intro l
 induction l with
 |nil=>intro m;simp[vl]
 |cons d l ih=>
  intro m;simp only[List.cons_append,vl,ih,List.length_cons,Nat.pow_succ,Nat.mul_add];rw[Nat.mul_comm (B^l.length) B,Nat.mul_assoc];omega
theorem vl_replicate_zero (B:Nat): ∀n,vl B (List.replicate n 0)=0:=by
 intro n
 induction n with
 |zero=>rfl
 |succ n ih=>simp[List.replicate_succ,vl,ih]
theorem vl_lt (B:Nat): ∀l,Small B l→vl B l<B^l.length:=by
 intro l
 induction l with
 |nil=>intro _;simp[vl]
 |cons d l ih=>
  intro h;have a:=small_cons.1 h;have:=ih a.2;simp only[vl,List.length_cons,Nat.pow_succ];have b:B*vl B l+B≤B^l.length*B:=by
   have:B*(vl B l+1)≤B*B^l.length:=Nat.mul_le_mul_left _ this;rw[Nat.mul_comm (B^l.length) B];rw[Nat.mul_add] at this;omega
  omega
theorem vl_ge (B:Nat): ∀l,l≠[]→Norm l→B^ (l.length-1)≤vl B l:=by
 intro l
 induction l with
 |nil=>intro h;exact absurd rfl h
 |cons d l ih=>
  intro _ a
  cases l with
  |nil=>have:=a (by simp);simp[vl] at this⊢;omega
  |cons e m=>
   have b:=ih (by simp) ((norm_cons (by simp)).1 a);have:B*B^m.length≤B*vl B (e::m):=Nat.mul_le_mul_left _ (by simpa using b);simp only[List.length_cons,Nat.add_sub_cancel,Nat.pow_succ] at*
   show _≤d+B*vl B (e::m)
   rw[Nat.mul_comm (B^m.length) B];omega
theorem getD_take (l:List Nat)(n i:Nat)(h:i<n):(l.take n).getD i 0=l.getD i 0:=by
 simp[List.getD_eq_getElem?_getD,h]
theorem getD_of_le (l:List Nat)(i:Nat)(h:l.length≤i):l.getD i 0=0:=by
 simp[List.getD_eq_getElem?_getD,List.getElem?_eq_none h]
theorem take_succ' (l:List Nat)(k:Nat)(h:k<l.length):l.take (k+1)=l.take k++[l.getD k 0]:=by
 rw[List.take_succ_eq_append_getElem h];simp[List.getD_eq_getElem?_getD,h]
theorem vl_take_succ (B:Nat)(l:List Nat)(k:Nat)(h:k<l.length):vl B (l.take (k+1))=vl B (l.take k)+B^k*l.getD k 0:=by
 rw[take_succ' l k h,vl_append];simp[vl,Nat.min_eq_left (Nat.le_of_lt h)]
theorem vl_take_drop (B:Nat)(l:List Nat)(k:Nat)(h:k≤l.length):vl B l=vl B (l.take k)+B^k*vl B (l.drop k):=by
 have:=vl_append B (l.take k) (l.drop k);rw[List.take_append_drop] at this
 simpa[Nat.min_eq_left h] using this
theorem vl_zeros (B:Nat): ∀l:List Nat,(∀i,l.getD i 0=0)→vl B l=0:=by
 intro l
 induction l with
 |nil=>intro _;rfl
 |cons d l ih=>
  intro h;have a:=h 0;have b:=ih (fun i=>by simpa using h (i+1))
  simp at a;simp[vl,a,b]
theorem small_take {B:Nat}{l:List Nat}(h:Small B l)(n:Nat)(a:0<B):Small B (l.take n):=by
 intro i
 by_cases b:i<n
 ·rw[getD_take l n i b];exact h i
 ·rw[getD_of_le _ _ (by simp;omega)];exact a
theorem trim_eq (B:Nat)(b:2≤B)(l:List Nat)(n:Nat)(f:Small B l)(a:n≤l.length)(g: ∀i,n≤i→l.getD i 0=0)(c:0<n→l.getD (n-1) 0≠0):
  l.take n=dg B (vl B l):=by
 refine eq_dg B b _ _ (small_take f n (by omega)) ?_ ?_
 ·intro e
  have d:0<n:=by
   rcases Nat.eq_zero_or_pos n with h|h
   ·subst h;simp at e
   ·exact h
  have:(l.take n).length=n:=by simp[Nat.min_eq_left a]
  rw[this,getD_take l n _ (by omega)];exact c d
 ·rw[vl_take_drop B l n a]
  have:vl B (l.drop n)=0:=vl_zeros B _ (fun i=>by
   have:=g (n+i) (by omega)
   simpa[List.getD_eq_getElem?_getD,List.getElem?_drop] using this)
  rw[this];omega
theorem vl_set (B:Nat): ∀(l:List Nat) (i x:Nat),i<l.length→vl B (l.set i x)+B^i*l.getD i 0=vl B l+B^i*x:=by
 intro l
 induction l with
 |nil=>intro i x h;simp at h
 |cons d l ih=>
  intro i x h
  cases i with
  |zero=>simp[vl];omega
  |succ i=>
   have:=ih i x (by simpa using h);have a:B*(vl B (l.set i x)+B^i*l.getD i 0)=B*(vl B l+B^i*x):=by rw[this]
   simp only[List.set_cons_succ,vl,List.getD_cons_succ,Nat.pow_succ,Nat.mul_add] at*;rw[Nat.mul_comm (B^i) B,Nat.mul_assoc,Nat.mul_assoc];omega
theorem getD_set (l:List Nat)(i j x:Nat)(h:i<l.length):(l.set i x).getD j 0=if i=j then x else l.getD j 0:=by
 by_cases e:i=j
 ·subst e;simp[List.getD_eq_getElem?_getD,h]
 ·simp[List.getD_eq_getElem?_getD,List.getElem?_set_ne e,e]
theorem small_set {B:Nat}{l:List Nat}(h:Small B l)(i x:Nat)(b:x<B):Small B (l.set i x):=by
 intro j
 by_cases a:i<l.length
 ·rw[getD_set l i j x a]
  by_cases e:i=j
  ·rw[if_pos e];exact b
  ·rw[if_neg e];exact h j
 ·rw[List.set_eq_of_length_le (by omega)];exact h j
theorem small_replicate (B n:Nat)(a:0<B):Small B (List.replicate n 0):=by
 intro i;have:(List.replicate n 0).getD i 0=0:=by
  by_cases h:i<n<;>simp[List.getD_eq_getElem?_getD,h]
 rw[this];exact a
theorem vl_lt_of_len (B:Nat)(g:2≤B)(l m:List Nat)(b:Small B l)(a:Norm m)(h:l.length<m.length):vl B l<vl B m:=by
 have c:=vl_lt B l b;have d:=vl_ge B m (by intro e;subst e;simp at h) a;have f:B^l.length≤B^ (m.length-1):=Nat.pow_le_pow_right (by omega) (by omega);omega
theorem vl_split (B:Nat)(l:List Nat)(k:Nat)(h:k<l.length):vl B l=vl B (l.take k)+B^k*(l.getD k 0+B*vl B (l.drop (k+1))):=by
 rw[vl_take_drop B l k (by omega),List.drop_eq_getElem_cons h];simp[vl,List.getD_eq_getElem?_getD,h]
theorem drop_eq_of (l m:List Nat)(k:Nat)(c:l.length=m.length)(h: ∀j,k≤j→l.getD j 0=m.getD j 0):l.drop k=m.drop k:=by
 apply List.ext_getElem (by simp[c]);intro i a b;have:=h (k+i) (by omega);simp only[List.length_drop] at a b
 simpa[List.getD_eq_getElem?_getD,show k+i<l.length from by omega,show k+i<m.length from by omega] using this
theorem vl_lt_of_digit (B:Nat)(l m:List Nat)(k:Nat)(f:l.length=m.length)(e:k<l.length)(h: ∀j,k+1≤j→l.getD j 0=m.getD j 0)(g:l.getD k 0<m.getD k 0)(a:Small B l):vl B l<vl B m:=by
 rw[vl_split B l k e,vl_split B m k (by omega),drop_eq_of l m (k+1) f h];have d:0<B:=by have:=a 0;omega
 have b:=vl_lt B (l.take k) (small_take a k d);rw[List.length_take,Nat.min_eq_left (by omega)] at b;have c:B^k*(l.getD k 0+B*vl B (m.drop (k+1))+1)≤B^k*(m.getD k 0+B*vl B (m.drop (k+1))):=Nat.mul_le_mul_left _ (by omega);rw[Nat.mul_add (B^k) _ 1] at c;omega
theorem eq_of_all (l m:List Nat)(a:l.length=m.length)(h: ∀j,l.getD j 0=m.getD j 0):l=m:=by
 have:=drop_eq_of l m 0 a (fun j _=>h j)
 simpa using this
theorem dg_nil_iff (B n:Nat)(a:2≤B):dg B n=[]↔n=0:=by
 constructor
 ·intro h;have:=vl_dg B n a;rw[h] at this;exact this.symm
 ·intro h;subst h;rfl
theorem dg_len_le (B n k:Nat)(b:2≤B)(h:n<B^k):(dg B n).length≤k:=by
 by_cases e:dg B n=[]
 ·rw[e];simp
 ·have a:=vl_ge B (dg B n) e (norm_dg B n b)
  rw[vl_dg B n b] at a;have c:=(Nat.pow_lt_pow_iff_right (by omega:1<B)).1 (Nat.lt_of_le_of_lt a h);omega
theorem norm_of_ge (B:Nat)(l:List Nat)(b:Small B l)(h:l≠[]→B^ (l.length-1)≤vl B l):Norm l:=by
 intro a e;have i:0<l.length:=List.length_pos_iff.2 a;have c:=vl_take_succ B l (l.length-1) (by omega);rw[show l.length-1+1=l.length from by omega,List.take_of_length_le (Nat.le_refl _),e] at c
 have f:0<B:=by have:=b 0;omega
 have d:=vl_lt B (l.take (l.length-1)) (small_take b _ f);rw[List.length_take,Nat.min_eq_left (by omega)] at d;have g:=h a;omega
end Dg
open Go.RowKit
abbrev yN:Value:= .slice none 0 0
abbrev yS (o:Option Addr)(n c:Nat):Value:= .slice o (Dg.dg 65536 n).length c
abbrev yT (o:Option Addr)(n c:Nat):Value:= .slice o (Dg.dg 4294967296 n).length c
abbrev yhL (a b c R D L G:Int)(g:Bool)(f:Int):List Value:=[.int .i64 a,.int .i64 b,.int .i64 c,.int .i64 R,.int .i64 D,.int .i64 L,.int .i64 G,.bool g,.int .i64 f]
abbrev yhV (a b c R D L G:Int)(g:Bool)(f:Int):Value:= .agg #[.int .i64 a,.int .i64 b,.int .i64 c,.int .i64 R,.int .i64 D,.int .i64 L,.int .i64 G,.bool g,.int .i64 f]
abbrev yhA (a b c R D L G:Int)(g:Bool)(f:Int):Array Value:= #[.int .i64 a,.int .i64 b,.int .i64 c,.int .i64 R,.int .i64 D,.int .i64 L,.int .i64 G,.bool g,.int .i64 f]
theorem tq {P:Program}{md:Region.Mode}{ops:Array Oper}{Q:Exit→Act→World→Prop}{S:World→Prop}{d:Oper}{fuel:Nat}{e:Array Bool}{a:Act}{w:World}(i:Nat)(v:Value)(k:ops[i]? =some d)(l: ∀f,S f→(execOp a.eval d).run P f= .ok (.value v) f)(j:S w)
  (h:wpAnyH P md ops Q S fuel (e.setIfInBounds i true) (a.put d.dst v) w)
  (b:(Region.noSelect ops&&(Region.free md ops e i&&((Region.ready md ops e).contains i&&Region.wanted d (yielded ops a.tmps))))=true:=by kernel_rfl)
  (g: ∀c a w,Q (.panic c) (a.put d.dst v) w→Q (.panic c) a w:=by exact fun _ _ _ h=>h):wpAnyH P md ops Q S (fuel+1) e a w:=by
 simp only[Bool.and_eq_true] at b;exact wpAnyH_take k b.1 b.2.1 b.2.2.1 g (Or.inl ⟨b.2.2.2,l⟩) j h
def Rd (w:World)(k:IntKind)(v:Value)(zs:List Nat):Prop:=
 ∃ao cap,v= .slice ao zs.length cap∧zs.length≤cap∧cap≤maxLen∧
  (0<zs.length→ ∃b off,ao=some ⟨b,off,none⟩∧ ∀i,i<zs.length→w.cell? ⟨b,off+i,none⟩=some (.int k ((zs.getD i 0:Nat):Int)))
def Own (w:World)(base e:Nat)(k:IntKind)(v:Value)(zs:List Nat):Prop:=
 w.ownsRow base e 1 v zs.length (zs.map (fun n:Nat=>Value.int k (n:Int)))
theorem Own.rd {w:World}{base e:Nat}{k:IntKind}{v:Value}{zs:List Nat}(h:Own w base e k v zs):Rd w k v zs:=by
 obtain⟨q,j⟩:=h
 rcases j with⟨a,r⟩| ⟨g,cap,f,a,l,p,d,b,o,t⟩
 ·refine⟨none,0,by rw[a,r],by omega,by unfold maxLen;omega,fun s=>by omega⟩
 ·refine⟨_,cap,a,d,b,fun s=>⟨g,0,rfl,fun i c=> ?_⟩⟩
  have m:=World.ownsRow.cellAt (w:=w) (base:=base) (e:=e) (size:=1) (g:=g) (n:=zs.length) (cap:=cap) (xs:=zs.map (fun n:Nat=>Value.int k (n:Int))) ⟨q,.inr ⟨g,cap,f,rfl,l,p,d,b,o,t⟩⟩ i (by omega)
  rw[Nat.zero_add,m,List.getElem?_map,List.getElem?_eq_getElem c];simp[List.getD_eq_getElem?_getD,c]
theorem Own.len {w:World}{base e:Nat}{k:IntKind}{g n cap:Nat}{zs:List Nat}(h:Own w base e k (.slice (some ⟨g,0,none⟩) n cap) zs):n=zs.length:=by
 rcases h.2 with⟨a,_⟩| ⟨c,cap',b,a,_⟩
 ·simp at a
 ·simp at a;exact a.2.1
theorem Own.c {w:World}{base e:Nat}{k:IntKind}{g n cap:Nat}{zs:List Nat}(h:Own w base e k (.slice (some ⟨g,0,none⟩) n cap) zs)(j:Nat)(a:j<zs.length):
  w.cell? ⟨g,j,none⟩=some (.int k ((zs.getD j 0:Nat):Int)):=by
 have d:=h.len;subst d;have b:=World.ownsRow.cellAt h j (by omega);rw[b,List.getElem?_map,List.getElem?_eq_getElem a];simp[List.getD_eq_getElem?_getD,a]
abbrev yC (f:Nat)(l:Array Value)(w:World)(p:Ending→World→Prop):Prop:=Calls Tryz.prog f l w p
abbrev yR (w:World)(v:Value):Ending→World→Prop:=fun z w'=>z= .returned v∧Below w.heap.size w w'
abbrev yB (w v:World):Prop:=Below w.heap.size w v
abbrev yJ (f:Nat)(l:Array Value)(v:Value):Prop:= ∀w1,Calls Tryz.prog f l w1 (yR w1 v)
abbrev yH (w:World)(f:Nat)(l:Array Value)(v:Value):Prop:= ∀w1,Below w.heap.size w w1→Calls Tryz.prog f l w1 (yR w1 v)
theorem wn {w:World}{k:IntKind}{b:Option Addr}{len cap:Nat}{zs:List Nat}(h:Rd w k (.slice b len cap) zs):len=zs.length:=by
 obtain⟨c,cap',a,_⟩:=h;simp only[Value.slice.injEq] at a;exact a.2.1
theorem iQ {w:World}{k:IntKind}{a:Option Addr}{cap:Nat}{zs:List Nat}(h:Rd w k (.slice a zs.length cap) zs):
  zs.length≤cap∧cap≤9223372036854775807∧(0<zs.length→ ∃b e,a=some ⟨b,e,none⟩∧ ∀i,i<zs.length→w.cell? ⟨b,e+i,none⟩=some (.int k ((zs.getD i 0:Nat):Int))):=by
 obtain⟨j,cap',d,g,c,f⟩:=h;simp only[Value.slice.injEq,true_and] at d;obtain⟨rfl,rfl⟩:=d;unfold maxLen at c;exact⟨g,c,f⟩
def Ou (zs:List Nat)(n:Nat):Prop:=n≤zs.length∧(∀i,n≤i→zs.getD i 0=0)∧(0<n→zs.getD (n-1) 0≠0)
theorem jD (a:Option Addr)(len cap:Nat)(zs:List Nat)(w:World)(h:Rd w .u32 (.slice a len cap) zs):
  yC 101 #[.slice a len cap] w fun e w'=> ∃n,e= .returned (.slice a n cap)∧Ou zs n∧w'=w:=by
 obtain rfl:=wn h;obtain⟨s,t,j⟩:=iQ h
 go_enter func101,ntmps101
 go_wp2
 go_loop [3] (fun i=> ∃k:Nat,k≤zs.length∧i=yi k∧Hid (∀i,k≤i→zs.getD i 0=0)) (fun i=>(intOf i).toNat)
 case atStart=>exact⟨zs.length,Nat.le_refl _,rfl,fun i o=>Dg.getD_of_le _ _ o⟩
 case round=>
  obtain⟨k,q,rfl,f⟩:=hrel
  by_cases r:k=0
  ·subst r
   go_wp2
   go_ret
   exact⟨0,rfl,⟨Nat.zero_le _,f,fun h=>absurd h (by omega)⟩,rfl⟩
  ·obtain⟨b,u,rfl,l⟩:=j (by omega)
   have p:=l (k-1) (by omega);obtain⟨d,c⟩: ∃d,zs.getD (k-1) 0=d:=⟨_,rfl⟩;rw[c] at p;have g:Hid _:=c;clear c l j h
   by_cases m:d=0
   ·subst m
    go_wp2
    go_round
    case rel=>exact⟨k-1,by omega,by go_num,fun i o=>by
     by_cases e:i=k-1
     ·rw[e];exact g.out
     ·exact f i (by omega)⟩
    case measure=>simp[intOf];omega
   ·go_wp2
    go_ret
    exact⟨k,rfl,⟨q,f,fun _=>by rw[g.out];exact m⟩,rfl⟩
theorem i9 (a:Option Addr)(len cap:Nat)(zs:List Nat)(w:World)(h:Rd w .i64 (.slice a len cap) zs):
  yC 89 #[.slice a len cap] w fun e w'=> ∃n,e= .returned (.slice a n n)∧Ou zs n∧w'=w:=by
 obtain rfl:=wn h;obtain⟨s,t,j⟩:=iQ h
 go_enter func89,ntmps89
 go_wp2
 go_loop [3] (fun i=> ∃k:Nat,k≤zs.length∧i=yi k∧Hid (∀i,k≤i→zs.getD i 0=0)) (fun i=>(intOf i).toNat)
 case atStart=>exact⟨zs.length,Nat.le_refl _,rfl,fun i o=>Dg.getD_of_le _ _ o⟩
 case round=>
  obtain⟨k,q,rfl,f⟩:=hrel
  by_cases r:k=0
  ·subst r
   go_wp2
   go_ret
   exact⟨0,rfl,⟨Nat.zero_le _,f,fun h=>absurd h (by omega)⟩,rfl⟩
  ·obtain⟨b,u,rfl,l⟩:=j (by omega)
   have p:=l (k-1) (by omega);obtain⟨d,c⟩: ∃d,zs.getD (k-1) 0=d:=⟨_,rfl⟩;rw[c] at p;have g:Hid _:=c;clear c l j h
   by_cases m:d=0
   ·subst m
    go_wp2
    go_round
    case rel=>exact⟨k-1,by omega,by go_num,fun i o=>by
     by_cases e:i=k-1
     ·rw[e];exact g.out
     ·exact f i (by omega)⟩
    case measure=>simp[intOf];omega
   ·go_wp2
    go_ret
    exact⟨k,rfl,⟨q,f,fun _=>by rw[g.out];exact m⟩,rfl⟩
end Go.Proofs.YthhiidikgchdeabGreatDoor
