/-
  Texts laid together: Ab0, Math, Ab4, Mem, Ab2, Dz, Leaf, Div1, DecW, Ref1, Dy1, Dy2, Lk, Lk2, Dr1, Aw0, Co6.
-/
import Derived.WalkKit
import Derived.WalkSpells
import Derived.OrdersHeld
import Derived.Deep.QuietTactic
import Derived.BigQuiet
import Derived.Test.YtlgkfdcmokchgaaGreatDoorChecked
import Derived.Lib.TrailingZeros
import Derived.Handy
import Derived.Laws.CopyOwn
import Derived.BigRegion
import Derived.Deep.LoopGhost
import Derived.Deep.RegionLaw
import Derived.WalkSmall
import Derived.OpenShut
import Derived.Laws.MathBits
import Derived.Lib.BitFns
import Derived.Lib.Walk
import Derived.Lib.Small
import Derived.Shelf.Spec.TrailingZeros
import Derived.Deep.RegionHeld3
import Derived.Deep.MidRow
import Derived.Laws.ResultCell
import Derived.Laws.IdiomStrings
namespace Go.Proofs.YtlgkfdcmokchgaaGreatDoor
open Go.RowKit
abbrev yi (n:Int):Value:= .int .i64 n
abbrev ylL (R D L G:Int)(g:Bool)(s e f:Int)(F:Nat):List Value:=[.int .i64 R,.int .i64 D,.int .i64 L,.int .i64 G,.bool g,.int .i64 s,.int .i64 e,.int .i64 f,.func (.func F) #[] #[]]
abbrev ylV (R D L G:Int)(g:Bool)(s e f:Int)(F:Nat):Value:= .agg #[.int .i64 R,.int .i64 D,.int .i64 L,.int .i64 G,.bool g,.int .i64 s,.int .i64 e,.int .i64 f,.func (.func F) #[] #[]]
abbrev ylA (R D L G:Int)(g:Bool)(s e f:Int)(F:Nat):Array Value:= #[.int .i64 R,.int .i64 D,.int .i64 L,.int .i64 G,.bool g,.int .i64 s,.int .i64 e,.int .i64 f,.func (.func F) #[] #[]]
abbrev yzL (R D L G:Int)(g:Bool)(s e f:Int):List Value:=[.int .i64 R,.int .i64 D,.int .i64 L,.int .i64 G,.bool g,.int .i64 s,.int .i64 e,.int .i64 f,.nilFunc]
abbrev yzV (R D L G:Int)(g:Bool)(s e f:Int):Value:= .agg #[.int .i64 R,.int .i64 D,.int .i64 L,.int .i64 G,.bool g,.int .i64 s,.int .i64 e,.int .i64 f,.nilFunc]
abbrev yzA (R D L G:Int)(g:Bool)(s e f:Int):Array Value:= #[.int .i64 R,.int .i64 D,.int .i64 L,.int .i64 G,.bool g,.int .i64 s,.int .i64 e,.int .i64 f,.nilFunc]
abbrev yoL (c:Int)(g s:Bool)(v:Value)(e:Int):List Value:=[.int .i64 c,.bool g,.bool s,v,.int .i64 e]
abbrev yoV (c:Int)(g s:Bool)(v:Value)(e:Int):Value:= .agg #[.int .i64 c,.bool g,.bool s,v,.int .i64 e]
abbrev yoA (c:Int)(g s:Bool)(v:Value)(e:Int):Array Value:= #[.int .i64 c,.bool g,.bool s,v,.int .i64 e]
abbrev ykL (n w f R D L G:Int)(g:Bool):List Value:=[.int .i64 n,.int .i64 w,.int .i64 f,.int .i64 R,.int .i64 D,.int .i64 L,.int .i64 G,.bool g]
abbrev ykV (n w f R D L G:Int)(g:Bool):Value:= .agg #[.int .i64 n,.int .i64 w,.int .i64 f,.int .i64 R,.int .i64 D,.int .i64 L,.int .i64 G,.bool g]
abbrev ykA (n w f R D L G:Int)(g:Bool):Array Value:= #[.int .i64 n,.int .i64 w,.int .i64 f,.int .i64 R,.int .i64 D,.int .i64 L,.int .i64 G,.bool g]
abbrev yvL (c:Int)(g:Bool)(v:Value)(p:Int):List Value:=[.int .i64 c,.bool g,v,.int .i64 p]
abbrev yvV (c:Int)(g:Bool)(v:Value)(p:Int):Value:= .agg #[.int .i64 c,.bool g,v,.int .i64 p]
abbrev yvA (c:Int)(g:Bool)(v:Value)(p:Int):Array Value:= #[.int .i64 c,.bool g,v,.int .i64 p]
abbrev ydL (s:Bool)(v:Value)(e:Int):List Value:=[.bool s,v,.int .i64 e]
abbrev ydV (s:Bool)(v:Value)(e:Int):Value:= .agg #[.bool s,v,.int .i64 e]
abbrev ydA (s:Bool)(v:Value)(e:Int):Array Value:= #[.bool s,v,.int .i64 e]
abbrev ygL (R D L G:Int)(g:Bool):List Value:=[.int .i64 R,.int .i64 D,.int .i64 L,.int .i64 G,.bool g]
abbrev ygV (R D L G:Int)(g:Bool):Value:= .agg #[.int .i64 R,.int .i64 D,.int .i64 L,.int .i64 G,.bool g]
abbrev ygA (R D L G:Int)(g:Bool):Array Value:= #[.int .i64 R,.int .i64 D,.int .i64 L,.int .i64 G,.bool g]
abbrev yfL (g:Bool)(e f:Int):List Value:=[.bool g,.int .i64 e,.int .u64 f]
abbrev yfV (g:Bool)(e f:Int):Value:= .agg #[.bool g,.int .i64 e,.int .u64 f]
abbrev yfA (g:Bool)(e f:Int):Array Value:= #[.bool g,.int .i64 e,.int .u64 f]
abbrev ypL (s:Bool)(v:Value)(p:Int)(x o u:Bool):List Value:=[.bool s,v,.int .i64 p,.bool x,.bool o,.bool u]
abbrev ypV (s:Bool)(v:Value)(p:Int)(x o u:Bool):Value:= .agg #[.bool s,v,.int .i64 p,.bool x,.bool o,.bool u]
abbrev ypA (s:Bool)(v:Value)(p:Int)(x o u:Bool):Array Value:= #[.bool s,v,.int .i64 p,.bool x,.bool o,.bool u]
abbrev yrL (s:Bool)(v u:Value)(e:Int):List Value:=[.bool s,v,u,.int .i64 e]
abbrev yrV (s:Bool)(v u:Value)(e:Int):Value:= .agg #[.bool s,v,u,.int .i64 e]
abbrev yrA (s:Bool)(v u:Value)(e:Int):Array Value:= #[.bool s,v,u,.int .i64 e]
namespace Dg
def vl (B:Nat):List Nat→Nat
 | []=>0
 |d::l=>d+B*vl B l
def dgF (B:Nat):Nat→Nat→List Nat
 |0,_=>[]
 |f+1,n=>if n=0 then[] else n % B::dgF B f (n/B)
def dg (B n:Nat):List Nat:=dgF B n n
def Norm (l:List Nat):Prop:=l≠[]→l.getD (l.length-1) 0≠0
def Small (B:Nat)(l:List Nat):Prop:= ∀i,l.getD i 0<B
theorem div_lt_of (B n f:Nat)(hB:2≤B)(h:n≤f+1)(h0:n≠0):n/B≤f:=by
 have:n/B<n:=Nat.div_lt_self (by omega) (by omega);omega
theorem vl_dgF (B:Nat)(hB:2≤B): ∀f n,n≤f→vl B (dgF B f n)=n:=by
 intro f
 induction f with
 |zero=>
  intro n h;have:n=0:=by omega
  subst this;rfl
 |succ f ih=>
  intro n h;unfold dgF
  by_cases h0:n=0
  ·simp[h0,vl]
  ·simp only[h0,if_false,vl]
   rw[ih _ (div_lt_of B n f hB h h0)];exact Nat.mod_add_div n B
theorem vl_dg (B n:Nat)(hB:2≤B):vl B (dg B n)=n:=vl_dgF B hB n n (Nat.le_refl _)
theorem small_nil (B:Nat)(hB:0<B):Small B []:=by intro i;simpa using hB
theorem small_cons {B d:Nat}{l:List Nat}:Small B (d::l)↔d<B∧Small B l:=by
 constructor
 ·intro h
  exact⟨by simpa using h 0,fun i=>by simpa using h (i+1)⟩
 ·intro h i
  cases i with
  |zero=>simpa using h.1
  |succ i=>simpa using h.2 i
theorem small_dgF (B:Nat)(hB:2≤B): ∀f n,Small B (dgF B f n):=by
 intro f
 induction f with
 |zero=>intro n;exact small_nil B (by omega)
 |succ f ih=>
  intro n;unfold dgF
  by_cases h0:n=0
  ·simp only[h0,if_true];exact small_nil B (by omega)
  ·simp only[h0,if_false]
   exact small_cons.2 ⟨Nat.mod_lt _ (by omega),ih _⟩
theorem small_dg (B n:Nat)(hB:2≤B):Small B (dg B n):=small_dgF B hB n n
theorem norm_cons {d:Nat}{l:List Nat}(hl:l≠[]):Norm (d::l)↔Norm l:=by
 unfold Norm
 cases l with
 |nil=>exact absurd rfl hl
 |cons e m=>simp
theorem dgF_ne_nil (B f n:Nat)(h:n≤f)(h0:n≠0):dgF B f n≠[]:=by
 cases f with
 |zero=>omega
 |succ f=>unfold dgF;simp[h0]
theorem norm_dgF (B:Nat)(hB:2≤B): ∀f n,n≤f→Norm (dgF B f n):=by
 intro f
 induction f with
 |zero=>intro n _ h;exact absurd rfl h
 |succ f ih=>
  intro n h;unfold dgF
  by_cases h0:n=0
  ·simp[h0,Norm]
  ·simp only[h0,if_false]
   have hd:=div_lt_of B n f hB h h0
   by_cases h1:n/B=0
   ·have e:dgF B f (n/B)=[]:=by cases f<;>simp[dgF,h1]
    rw[e];intro _;have:n % B=n:=Nat.mod_eq_of_lt (by
     rcases Nat.div_eq_zero_iff.1 h1 with hh|hh
     ·omega
     ·exact hh)
    simpa[this] using h0
   ·exact(norm_cons (dgF_ne_nil B f _ hd h1)).2 (ih _ hd)
theorem norm_dg (B n:Nat)(hB:2≤B):Norm (dg B n):=norm_dgF B hB n n (Nat.le_refl _)
theorem vl_ne_zero (B:Nat)(hB:0<B): ∀l,l≠[]→Norm l→vl B l≠0:=by
 intro l
 induction l with
 |nil=>intro h;exact absurd rfl h
 |cons d l ih=>
  intro _ hn
  cases l with
  |nil=>have:=hn (by simp);simp[vl] at this⊢;exact this
  |cons e m=>
   have h1:=ih (by simp) ((norm_cons (by simp)).1 hn);have:0<B*vl B (e::m):=Nat.mul_pos hB (by omega)
   show d+B*vl B (e::m)≠0
   omega
theorem vl_inj (B:Nat)(hB:2≤B): ∀l m,Small B l→Small B m→Norm l→Norm m→vl B l=vl B m→l=m:=by
 intro l
 induction l with
 |nil=>
  intro m _ _ _ hm e
  cases m with
  |nil=>rfl
  |cons x y=>exact absurd e.symm (vl_ne_zero B (by omega) _ (by simp) hm)
 |cons d l ih=>
  intro m hs hs' hn hm e
  cases m with
  |nil=>exact absurd e (vl_ne_zero B (by omega) _ (by simp) hn)
  |cons x y=>
   have h1:=small_cons.1 hs;have h2:=small_cons.1 hs';simp only[vl] at e;have ed:d=x:=by
    have:=congrArg (· % B) e
    simpa[Nat.add_mul_mod_self_left,Nat.mod_eq_of_lt h1.1,Nat.mod_eq_of_lt h2.1] using this
   subst ed;have ev:vl B l=vl B y:=Nat.eq_of_mul_eq_mul_left (by omega:0<B) (by omega);have hnl:Norm l:=by
    by_cases hl:l=[]
    ·subst hl;intro h;exact absurd rfl h
    ·exact(norm_cons hl).1 hn
   have hny:Norm y:=by
    by_cases hl:y=[]
    ·subst hl;intro h;exact absurd rfl h
    ·exact(norm_cons hl).1 hm
   rw[ih y h1.2 h2.2 hnl hny ev]
theorem dg_vl (B:Nat)(hB:2≤B)(l:List Nat)(hs:Small B l)(hn:Norm l):dg B (vl B l)=l:=
 vl_inj B hB _ _ (small_dg B _ hB) hs (norm_dg B _ hB) hn (vl_dg B _ hB)
theorem eq_dg (B:Nat)(hB:2≤B)(l:List Nat)(n:Nat)(hs:Small B l)(hn:Norm l)(e:vl B l=n):l=dg B n:=by
 rw[←e,dg_vl B hB l hs hn]
theorem vl_append (B:Nat): ∀l m,vl B (l++m)=vl B l+B^l.length*vl B m:=by
 intro l
 induction l with
 |nil=>intro m;simp[vl]
 |cons d l ih=>
  intro m;simp only[List.cons_append,vl,ih,List.length_cons,Nat.pow_succ,Nat.mul_add];rw[Nat.mul_comm (B^l.length) B,Nat.mul_assoc];omega
theorem vl_replicate_zero (B:Nat): ∀n,vl B (List.replicate n 0)=0:=by
 intro n
 induction n with
 |zero=>rfl
 |succ n ih=>simp[List.replicate_succ,vl,ih]
theorem vl_lt (B:Nat): ∀l,Small B l→vl B l<B^l.length:=by
 intro l
 induction l with
 |nil=>intro _;simp[vl]
 |cons d l ih=>
  intro h;have h1:=small_cons.1 h;have:=ih h1.2;simp only[vl,List.length_cons,Nat.pow_succ];have h2:B*vl B l+B≤B^l.length*B:=by
   have:B*(vl B l+1)≤B*B^l.length:=Nat.mul_le_mul_left _ this;rw[Nat.mul_comm (B^l.length) B];rw[Nat.mul_add] at this;omega
  omega
theorem vl_ge (B:Nat): ∀l,l≠[]→Norm l→B^ (l.length-1)≤vl B l:=by
 intro l
 induction l with
 |nil=>intro h;exact absurd rfl h
 |cons d l ih=>
  intro _ hn
  cases l with
  |nil=>have:=hn (by simp);simp[vl] at this⊢;omega
  |cons e m=>
   have h1:=ih (by simp) ((norm_cons (by simp)).1 hn);have:B*B^m.length≤B*vl B (e::m):=Nat.mul_le_mul_left _ (by simpa using h1);simp only[List.length_cons,Nat.add_sub_cancel,Nat.pow_succ] at*
   show _≤d+B*vl B (e::m)
   rw[Nat.mul_comm (B^m.length) B];omega
theorem getD_take (l:List Nat)(n i:Nat)(h:i<n):(l.take n).getD i 0=l.getD i 0:=by
 simp[List.getD_eq_getElem?_getD,h]
theorem getD_of_le (l:List Nat)(i:Nat)(h:l.length≤i):l.getD i 0=0:=by
 simp[List.getD_eq_getElem?_getD,List.getElem?_eq_none h]
theorem take_succ' (l:List Nat)(k:Nat)(h:k<l.length):l.take (k+1)=l.take k++[l.getD k 0]:=by
 rw[List.take_succ_eq_append_getElem h];simp[List.getD_eq_getElem?_getD,h]
theorem vl_take_succ (B:Nat)(l:List Nat)(k:Nat)(h:k<l.length):vl B (l.take (k+1))=vl B (l.take k)+B^k*l.getD k 0:=by
 rw[take_succ' l k h,vl_append];simp[vl,Nat.min_eq_left (Nat.le_of_lt h)]
theorem vl_take_drop (B:Nat)(l:List Nat)(k:Nat)(h:k≤l.length):vl B l=vl B (l.take k)+B^k*vl B (l.drop k):=by
 have:=vl_append B (l.take k) (l.drop k);rw[List.take_append_drop] at this
 simpa[Nat.min_eq_left h] using this
theorem vl_zeros (B:Nat): ∀l:List Nat,(∀i,l.getD i 0=0)→vl B l=0:=by
 intro l
 induction l with
 |nil=>intro _;rfl
 |cons d l ih=>
  intro h;have h0:=h 0;have h1:=ih (fun i=>by simpa using h (i+1))
  simp at h0;simp[vl,h0,h1]
theorem small_take {B:Nat}{l:List Nat}(h:Small B l)(n:Nat)(hB:0<B):Small B (l.take n):=by
 intro i
 by_cases hi:i<n
 ·rw[getD_take l n i hi];exact h i
 ·rw[getD_of_le _ _ (by simp;omega)];exact hB
theorem trim_eq (B:Nat)(hB:2≤B)(l:List Nat)(n:Nat)(hs:Small B l)(hn:n≤l.length)(hz: ∀i,n≤i→l.getD i 0=0)(hl:0<n→l.getD (n-1) 0≠0):
  l.take n=dg B (vl B l):=by
 refine eq_dg B hB _ _ (small_take hs n (by omega)) ?_ ?_
 ·intro hne
  have hn0:0<n:=by
   rcases Nat.eq_zero_or_pos n with h|h
   ·subst h;simp at hne
   ·exact h
  have:(l.take n).length=n:=by simp[Nat.min_eq_left hn]
  rw[this,getD_take l n _ (by omega)];exact hl hn0
 ·rw[vl_take_drop B l n hn]
  have:vl B (l.drop n)=0:=vl_zeros B _ (fun i=>by
   have:=hz (n+i) (by omega)
   simpa[List.getD_eq_getElem?_getD,List.getElem?_drop] using this)
  rw[this];omega
theorem vl_set (B:Nat): ∀(l:List Nat) (i x:Nat),i<l.length→vl B (l.set i x)+B^i*l.getD i 0=vl B l+B^i*x:=by
 intro l
 induction l with
 |nil=>intro i x h;simp at h
 |cons d l ih=>
  intro i x h
  cases i with
  |zero=>simp[vl];omega
  |succ i=>
   have:=ih i x (by simpa using h);have h2:B*(vl B (l.set i x)+B^i*l.getD i 0)=B*(vl B l+B^i*x):=by rw[this]
   simp only[List.set_cons_succ,vl,List.getD_cons_succ,Nat.pow_succ,Nat.mul_add] at*;rw[Nat.mul_comm (B^i) B,Nat.mul_assoc,Nat.mul_assoc];omega
theorem getD_set (l:List Nat)(i j x:Nat)(h:i<l.length):(l.set i x).getD j 0=if i=j then x else l.getD j 0:=by
 by_cases e:i=j
 ·subst e;simp[List.getD_eq_getElem?_getD,h]
 ·simp[List.getD_eq_getElem?_getD,List.getElem?_set_ne e,e]
theorem small_set {B:Nat}{l:List Nat}(h:Small B l)(i x:Nat)(hx:x<B):Small B (l.set i x):=by
 intro j
 by_cases hi:i<l.length
 ·rw[getD_set l i j x hi]
  by_cases e:i=j
  ·rw[if_pos e];exact hx
  ·rw[if_neg e];exact h j
 ·rw[List.set_eq_of_length_le (by omega)];exact h j
theorem small_replicate (B n:Nat)(hB:0<B):Small B (List.replicate n 0):=by
 intro i;have:(List.replicate n 0).getD i 0=0:=by
  by_cases h:i<n<;>simp[List.getD_eq_getElem?_getD,h]
 rw[this];exact hB
theorem vl_lt_of_len (B:Nat)(hB:2≤B)(l m:List Nat)(hs:Small B l)(hn:Norm m)(h:l.length<m.length):vl B l<vl B m:=by
 have h1:=vl_lt B l hs;have h2:=vl_ge B m (by intro e;subst e;simp at h) hn;have h3:B^l.length≤B^ (m.length-1):=Nat.pow_le_pow_right (by omega) (by omega);omega
theorem vl_split (B:Nat)(l:List Nat)(k:Nat)(h:k<l.length):vl B l=vl B (l.take k)+B^k*(l.getD k 0+B*vl B (l.drop (k+1))):=by
 rw[vl_take_drop B l k (by omega),List.drop_eq_getElem_cons h];simp[vl,List.getD_eq_getElem?_getD,h]
theorem drop_eq_of (l m:List Nat)(k:Nat)(hl:l.length=m.length)(h: ∀j,k≤j→l.getD j 0=m.getD j 0):l.drop k=m.drop k:=by
 apply List.ext_getElem (by simp[hl]);intro i h1 h2;have:=h (k+i) (by omega);simp only[List.length_drop] at h1 h2
 simpa[List.getD_eq_getElem?_getD,show k+i<l.length from by omega,show k+i<m.length from by omega] using this
theorem vl_lt_of_digit (B:Nat)(l m:List Nat)(k:Nat)(hl:l.length=m.length)(hk:k<l.length)(h: ∀j,k+1≤j→l.getD j 0=m.getD j 0)(hlt:l.getD k 0<m.getD k 0)(hs:Small B l):vl B l<vl B m:=by
 rw[vl_split B l k hk,vl_split B m k (by omega),drop_eq_of l m (k+1) hl h];have hB:0<B:=by have:=hs 0;omega
 have h1:=vl_lt B (l.take k) (small_take hs k hB);rw[List.length_take,Nat.min_eq_left (by omega)] at h1;have h2:B^k*(l.getD k 0+B*vl B (m.drop (k+1))+1)≤B^k*(m.getD k 0+B*vl B (m.drop (k+1))):=Nat.mul_le_mul_left _ (by omega);rw[Nat.mul_add (B^k) _ 1] at h2;omega
theorem eq_of_all (l m:List Nat)(hl:l.length=m.length)(h: ∀j,l.getD j 0=m.getD j 0):l=m:=by
 have:=drop_eq_of l m 0 hl (fun j _=>h j)
 simpa using this
theorem dg_zero (B:Nat):dg B 0=[]:=rfl
theorem dg_nil_iff (B n:Nat)(hB:2≤B):dg B n=[]↔n=0:=by
 constructor
 ·intro h;have:=vl_dg B n hB;rw[h] at this;exact this.symm
 ·intro h;subst h;rfl
theorem dg_len_le (B n k:Nat)(hB:2≤B)(h:n<B^k):(dg B n).length≤k:=by
 by_cases e:dg B n=[]
 ·rw[e];simp
 ·have h1:=vl_ge B (dg B n) e (norm_dg B n hB)
  rw[vl_dg B n hB] at h1;have h2:=(Nat.pow_lt_pow_iff_right (by omega:1<B)).1 (Nat.lt_of_le_of_lt h1 h);omega
theorem norm_of_ge (B:Nat)(l:List Nat)(hs:Small B l)(h:l≠[]→B^ (l.length-1)≤vl B l):Norm l:=by
 intro hne e;have hl:0<l.length:=List.length_pos_iff.2 hne;have h1:=vl_take_succ B l (l.length-1) (by omega);rw[show l.length-1+1=l.length from by omega,List.take_of_length_le (Nat.le_refl _),e] at h1
 have hB:0<B:=by have:=hs 0;omega
 have h2:=vl_lt B (l.take (l.length-1)) (small_take hs _ hB);rw[List.length_take,Nat.min_eq_left (by omega)] at h2;have h3:=h hne;omega
end Dg
open Go.RowKit
abbrev yN:Value:= .slice none 0 0
abbrev yS (o:Option Addr)(n c:Nat):Value:= .slice o (Dg.dg 65536 n).length c
abbrev yT (o:Option Addr)(n c:Nat):Value:= .slice o (Dg.dg 4294967296 n).length c
abbrev yhL (a b c R D L G:Int)(g:Bool)(f:Int):List Value:=[.int .i64 a,.int .i64 b,.int .i64 c,.int .i64 R,.int .i64 D,.int .i64 L,.int .i64 G,.bool g,.int .i64 f]
abbrev yhV (a b c R D L G:Int)(g:Bool)(f:Int):Value:= .agg #[.int .i64 a,.int .i64 b,.int .i64 c,.int .i64 R,.int .i64 D,.int .i64 L,.int .i64 G,.bool g,.int .i64 f]
abbrev yhA (a b c R D L G:Int)(g:Bool)(f:Int):Array Value:= #[.int .i64 a,.int .i64 b,.int .i64 c,.int .i64 R,.int .i64 D,.int .i64 L,.int .i64 G,.bool g,.int .i64 f]
theorem tq {P:Program}{md:Region.Mode}{ops:Array Oper}{Q:Exit→Act→World→Prop}{S:World→Prop}{oi:Oper}{fuel:Nat}{listed:Array Bool}{a:Act}{w:World}(i:Nat)(v:Value)(hi:ops[i]? =some oi)(hv: ∀w0,S w0→(execOp a.eval oi).run P w0= .ok (.value v) w0)(hS:S w)
  (h:wpAnyH P md ops Q S fuel (listed.setIfInBounds i true) (a.put oi.dst v) w)
  (hb:(Region.noSelect ops&&(Region.free md ops listed i&&((Region.ready md ops listed).contains i&&Region.wanted oi (yielded ops a.tmps))))=true:=by kernel_rfl)
  (hQ: ∀c a w,Q (.panic c) (a.put oi.dst v) w→Q (.panic c) a w:=by exact fun _ _ _ h=>h):wpAnyH P md ops Q S (fuel+1) listed a w:=by
 simp only[Bool.and_eq_true] at hb;exact wpAnyH_take hi hb.1 hb.2.1 hb.2.2.1 hQ (Or.inl ⟨hb.2.2.2,hv⟩) hS h
def Rd (w:World)(k:IntKind)(v:Value)(zs:List Nat):Prop:=
 ∃ao cap,v= .slice ao zs.length cap∧zs.length≤cap∧cap≤maxLen∧
  (0<zs.length→ ∃b off,ao=some ⟨b,off,none⟩∧ ∀i,i<zs.length→w.cell? ⟨b,off+i,none⟩=some (.int k ((zs.getD i 0:Nat):Int)))
def Own (w:World)(base e:Nat)(k:IntKind)(v:Value)(zs:List Nat):Prop:=
 w.ownsRow base e 1 v zs.length (zs.map (fun n:Nat=>Value.int k (n:Int)))
theorem Rd.l {w w':World}{k:IntKind}{v:Value}{zs:List Nat}(h:Rd w k v zs)(hb:Below w.heap.size w w'):Rd w' k v zs:=by
 obtain⟨ao,cap,hv,h1,h2,h3⟩:=h;refine⟨ao,cap,hv,h1,h2,fun hp=> ?_⟩
 obtain⟨b,off,ha,hc⟩:=h3 hp;exact⟨b,off,ha,fun i hi=>cell_later hb (hc i hi)⟩
theorem aa {w w1 w2:World}(h:Below w.heap.size w w1)(k:Below w1.heap.size w1 w2):Below w.heap.size w w2:=
 h.trans (k.mono h.size)
theorem Own.rd {w:World}{base e:Nat}{k:IntKind}{v:Value}{zs:List Nat}(h:Own w base e k v zs):Rd w k v zs:=by
 obtain⟨hl,h2⟩:=h
 rcases h2 with⟨hv,hn⟩| ⟨g,cap,cur,hv,hb,hh,hnc,hcm,hcs,htake⟩
 ·refine⟨none,0,by rw[hv,hn],by omega,by unfold maxLen;omega,fun hp=>by omega⟩
 ·refine⟨_,cap,hv,hnc,hcm,fun hp=>⟨g,0,rfl,fun i hi=> ?_⟩⟩
  have hc:=World.ownsRow.cellAt (w:=w) (base:=base) (e:=e) (size:=1) (g:=g) (n:=zs.length) (cap:=cap) (xs:=zs.map (fun n:Nat=>Value.int k (n:Int))) ⟨hl,.inr ⟨g,cap,cur,rfl,hb,hh,hnc,hcm,hcs,htake⟩⟩ i (by omega)
  rw[Nat.zero_add,hc,List.getElem?_map,List.getElem?_eq_getElem hi];simp[List.getD_eq_getElem?_getD,hi]
theorem Own.l {w w':World}{base e:Nat}{k:IntKind}{v:Value}{zs:List Nat}(h:Own w base e k v zs)(hb:Below w.heap.size w w'):Own w' base e k v zs:=by
 obtain⟨hl,h2⟩:=h;refine⟨hl, ?_⟩
 rcases h2 with h2| ⟨g,cap,cur,hv,hbg,hh,r⟩
 ·exact .inl h2
 ·refine .inr ⟨g,cap,cur,hv,hbg, ?_,r⟩
  rw[hb.block g ?_]
  ·exact hh
  ·rw[Array.getElem?_eq_some_iff] at hh
   exact hh.1
theorem Own.len {w:World}{base e:Nat}{k:IntKind}{g n cap:Nat}{zs:List Nat}(h:Own w base e k (.slice (some ⟨g,0,none⟩) n cap) zs):n=zs.length:=by
 rcases h.2 with⟨hv,_⟩| ⟨g',cap',cur,hv,_⟩
 ·simp at hv
 ·simp at hv;exact hv.2.1
theorem Own.c {w:World}{base e:Nat}{k:IntKind}{g n cap:Nat}{zs:List Nat}(h:Own w base e k (.slice (some ⟨g,0,none⟩) n cap) zs)(j:Nat)(hj:j<zs.length):
  w.cell? ⟨g,j,none⟩=some (.int k ((zs.getD j 0:Nat):Int)):=by
 have hn:=h.len;subst hn;have hc:=World.ownsRow.cellAt h j (by omega);rw[hc,List.getElem?_map,List.getElem?_eq_getElem hj];simp[List.getD_eq_getElem?_getD,hj]
theorem Own.f {w:World}{base e:Nat}{k:IntKind}{g n cap:Nat}{zs:List Nat}(h:Own w base e k (.slice (some ⟨g,0,none⟩) n cap) zs)(j:Nat):w.frozen? ⟨g,j,none⟩=false:=by
 have hn:=h.len;subst hn;exact World.ownsRow.frozenAt h j
theorem Own.block {w:World}{base e:Nat}{k:IntKind}{g n cap:Nat}{zs:List Nat}(h:Own w base e k (.slice (some ⟨g,0,none⟩) n cap) zs):base≤g∧g<w.heap.size:=by
 have hn:=h.len;subst hn;exact World.ownsRow.lt h g rfl
theorem Own.take {w:World}{base e:Nat}{k:IntKind}{g n cap:Nat}{zs:List Nat}(h:Own w base e k (.slice (some ⟨g,0,none⟩) n cap) zs)(m:Nat)(hm:m≤zs.length):
  Own w base e k (.slice (some ⟨g,0,none⟩) m cap) (zs.take m):=by
 have hn:=h.len;subst hn;obtain⟨h1,h2⟩:=h;refine⟨by simp, ?_⟩
 rcases h2 with⟨hv,_⟩| ⟨g',cap',cur,hv,hb,hh,hnc,hcm,hcs,htake⟩
 ·simp at hv
 ·simp only[Value.slice.injEq,Option.some.injEq,Addr.mk.injEq,and_true,true_and] at hv
  obtain⟨rfl,rfl⟩:=hv;refine .inr ⟨g,cap,cur, ?_,hb,hh,by simp;omega,hcm,hcs, ?_⟩
  ·simp[Nat.min_eq_left hm]
  ·rw[List.map_take,←htake]
   simp only[Nat.mul_one,List.length_take,List.take_take]
abbrev yC (f:Nat)(l:Array Value)(w:World)(p:Ending→World→Prop):Prop:=Calls Tryz.prog f l w p
abbrev yR (w:World)(v:Value):Ending→World→Prop:=fun z w'=>z= .returned v∧Below w.heap.size w w'
abbrev yB (w v:World):Prop:=Below w.heap.size w v
abbrev yJ (f:Nat)(l:Array Value)(v:Value):Prop:= ∀w1,Calls Tryz.prog f l w1 (yR w1 v)
abbrev yH (w:World)(f:Nat)(l:Array Value)(v:Value):Prop:= ∀w1,Below w.heap.size w w1→Calls Tryz.prog f l w1 (yR w1 v)
structure ak where
 s:Bool
 n:Nat
 e:Int
theorem wn {w:World}{k:IntKind}{ao:Option Addr}{len cap:Nat}{zs:List Nat}(h:Rd w k (.slice ao len cap) zs):len=zs.length:=by
 obtain⟨ao',cap',hv,_⟩:=h;simp only[Value.slice.injEq] at hv;exact hv.2.1
theorem iQ {w:World}{k:IntKind}{ao:Option Addr}{cap:Nat}{zs:List Nat}(h:Rd w k (.slice ao zs.length cap) zs):
  zs.length≤cap∧cap≤9223372036854775807∧(0<zs.length→ ∃b off,ao=some ⟨b,off,none⟩∧ ∀i,i<zs.length→w.cell? ⟨b,off+i,none⟩=some (.int k ((zs.getD i 0:Nat):Int))):=by
 obtain⟨ao',cap',hv,hlc,hm,hc⟩:=h;simp only[Value.slice.injEq,true_and] at hv;obtain⟨rfl,rfl⟩:=hv;unfold maxLen at hm;exact⟨hlc,hm,hc⟩
def Ou (zs:List Nat)(n:Nat):Prop:=n≤zs.length∧(∀i,n≤i→zs.getD i 0=0)∧(0<n→zs.getD (n-1) 0≠0)
theorem Own.heap {w:World}{base e:Nat}{k:IntKind}{g n:Nat}{zs:List Nat}(h:Own w base e k (.slice (some ⟨g,0,none⟩) n n) zs):
  w.heap[g]? =some (.cells (zs.map (fun n:Nat=>Value.int k n)).toArray e (0,0)):=by
 have hn:=h.len;subst hn
 rcases h.2 with⟨hv,_⟩| ⟨g',cap',cur,hv,hb,hh,hnc,hcm,hcs,htake⟩
 ·simp at hv
 ·simp only[Value.slice.injEq,Option.some.injEq,Addr.mk.injEq,and_true,true_and] at hv
  obtain⟨rfl,rfl⟩:=hv;rw[hh,←htake,List.take_of_length_le (by rw[Array.length_toList,hcs];omega)]
theorem Own.cap {w:World}{base e:Nat}{k:IntKind}{g n cap:Nat}{zs:List Nat}(h:Own w base e k (.slice (some ⟨g,0,none⟩) n cap) zs):n≤cap∧cap≤9223372036854775807:=by
 have hn:=h.len;subst hn
 rcases h.2 with⟨hv,_⟩| ⟨g',cap',cur,hv,hb,hh,hnc,hcm,hcs,htake⟩
 ·simp at hv
 ·simp only[Value.slice.injEq,Option.some.injEq,Addr.mk.injEq,and_true,true_and] at hv
  obtain⟨rfl,rfl⟩:=hv;exact⟨hnc,by unfold maxLen at hcm;exact hcm⟩
theorem Tryz.infoI64:(Tryz.prog.info? 3).map (fun i=>(i.zero,i.size,i.bytes))=some (some (.int .i64 0),1,8):=by kernel_rfl
def cG (w:World)(n:Nat)(e:Ending)(w':World):Prop:=
 ∃v,e= .returned v∧Rd w' .i64 v (Dg.dg 65536 n)∧yB w w'
def Far (B:Nat)(v:Value):Prop:= ∀a n c,v= .slice (some a) n c→B≤a.block
theorem JH {w:World}{base e:Nat}{k:IntKind}{v:Value}{zs:List Nat}(h:Own w base e k v zs):Far base v:=fun a n c hv=>by
 rcases h.2 with⟨e1,_⟩| ⟨g,cap,cur,e1,hg,_⟩
 ·rw[e1] at hv;cases hv
 ·rw[e1] at hv
  cases hv
  exact hg
theorem LP {B:Nat}{oo:Option Addr}{n c:Nat}(h:Far B (.slice oo n c))(n' c':Nat):Far B (.slice oo n' c'):=fun a m d hv=>by
 cases hv
 exact h a n c rfl
def Si (w:World)(n:Nat)(e:Ending)(w':World):Prop:=
 ∃v,e= .returned v∧Rd w' .i64 v (Dg.dg 65536 n)∧Far w.heap.size v∧yB w w'
theorem Far.mono {B B':Nat}{v:Value}(h:Far B v)(hb:B'≤B):Far B' v:=fun a n c hv=>Nat.le_trans hb (h a n c hv)
theorem uE {w:World}{k:IntKind}{ao:Option Addr}{len cap n cap':Nat}{zs:List Nat}(B:Nat)(hB:2≤B)(h:Rd w k (.slice ao len cap) zs)(hs:Dg.Small B zs)(ht:Ou zs n)(hc:n≤cap')(hc2:cap'≤maxLen):
  Rd w k (.slice ao n cap') (Dg.dg B (Dg.vl B zs)):=by
 have hl:=wn h;subst hl;obtain⟨h1,h2,h3⟩:=iQ h;rw[←Dg.trim_eq B hB zs n hs ht.1 ht.2.1 ht.2.2];have hn:=ht.1;have hl:(zs.take n).length=n:=by simp;omega
 refine⟨ao,cap',by rw[hl],by rw[hl];exact hc,hc2,fun hp=> ?_⟩
 rw[hl] at hp;obtain⟨b,off,ha,hcell⟩:=h3 (by omega);refine⟨b,off,ha,fun i hi=> ?_⟩
 rw[hl] at hi;rw[hcell i (by omega),Dg.getD_take _ _ _ hi]
def Tab (w:World):Prop:= ∀j,j<32→w.cell? ⟨1,j,none⟩=some (.int .u8 ((Lib.deBruijn32tab.getD j 0:Nat):Int))
theorem Tab.l {w w':World}(h:Tab w)(hb:yB w w'):Tab w':=fun j hj=>cell_later hb (h j hj)
def Dv (w:World)(v:Value)(t:ak):Prop:= ∃s,v=(ydV t.s s t.e)∧Rd w .u32 s (Dg.dg 4294967296 t.n)
theorem Dv.l {w w':World}{v:Value}{t:ak}(h:Dv w v t)(hb:yB w w'):Dv w' v t:=by
 obtain⟨s,hv,hr⟩:=h;exact⟨s,hv,hr.l hb⟩
def Loc (w:World)(b:Nat)(v0 v1 v2:Value):Prop:=
 b<w.heap.size∧(w.cell? ⟨b,0,none⟩=some v0∧w.cell? ⟨b,1,none⟩=some v1∧w.cell? ⟨b,2,none⟩=some v2)∧w.frozen? ⟨b,0,none⟩=false∧w.frozen? ⟨b,1,none⟩=false∧w.frozen? ⟨b,2,none⟩=false
theorem Loc.l {w w':World}{b:Nat}{v0 v1 v2:Value}(h:Loc w b v0 v1 v2)(hb:yB w w'):Loc w' b v0 v1 v2:=by
 obtain⟨hl,⟨c0,c1,c2⟩,f0,f1,f2⟩:=h;have hk:=hb.block b hl;refine⟨Nat.lt_of_lt_of_le hl hb.size,⟨cell_later hb c0,cell_later hb c1,cell_later hb c2⟩, ?_, ?_, ?_⟩
 ·rw[World.frozen?_of_block (w:=w) (a:=⟨b,0,none⟩) hk];exact f0
 ·rw[World.frozen?_of_block (w:=w) (a:=⟨b,1,none⟩) hk];exact f1
 ·rw[World.frozen?_of_block (w:=w) (a:=⟨b,2,none⟩) hk];exact f2
theorem af (w:World)(o:Obj):yB w (w.alloc o):=(Below.refl _ _).alloc (Nat.le_refl _) _
def au (w:World)(b:Nat)(ty:TypeId)(vs:List Value):Prop:=w.heap[b]? =some (.cells vs.toArray ty (0,0))
theorem au.lt {w:World}{b:Nat}{ty:TypeId}{vs:List Value}(h:au w b ty vs):b<w.heap.size:=(Array.getElem?_eq_some_iff.1 h).1
theorem au.l {w w':World}{b:Nat}{ty:TypeId}{vs:List Value}(h:au w b ty vs)(hb:yB w w'):au w' b ty vs:=(hb.block b h.lt).trans h
theorem ah (w:World)(vs:List Value)(ty:TypeId):au (w.alloc (.cells vs.toArray ty)) w.heap.size ty vs:=heap_alloc_new _ _
theorem au.c {w:World}{b:Nat}{ty:TypeId}{vs:List Value}(h:au w b ty vs)(i:Nat){v:Value}(hv:vs[i]? =some v):w.cell? ⟨b,i,none⟩=some v:=by
 unfold World.cell?;simp only;rw[h]
 simpa using hv
theorem au.f {w:World}{b:Nat}{ty:TypeId}{vs:List Value}(h:au w b ty vs)(i:Nat):w.frozen? ⟨b,i,none⟩=false:=by
 unfold World.frozen?;simp only;rw[h];simp
theorem au.set {w:World}{b:Nat}{ty:TypeId}{vs:List Value}(h:au w b ty vs)(i:Nat)(x:Value):au (w.setCell ⟨b,i,none⟩ x) b ty (vs.set i x):=by
 have hlt:=h.lt;have h':w.heap[b]= .cells vs.toArray ty (0,0):=by simpa[au,Array.getElem?_eq_getElem hlt] using h
 show(w.heap.modify b _)[b]? =_
 rw[Array.getElem?_eq_getElem (by simpa using hlt),Array.getElem_modify_self,h'];simp
theorem au.off {w:World}{b c:Nat}{ty:TypeId}{vs:List Value}(h:au w b ty vs)(hne:c≠b)(i:Nat)(x:Value):au (w.setCell ⟨c,i,none⟩ x) b ty vs:=by
 unfold au;rw[Below.heap_setCell _ _ _ _ (fun e=>hne e.symm)]
 exact h
def wF (b:Nat)(v:Value)(zs:List Nat):Prop:=0<zs.length→ ∀a n c,v= .slice (some a) n c→a.block≠b
theorem cq {w:World}{k:IntKind}{v:Value}{zs:List Nat}(h:Rd w k v zs)(hn:Dg.Norm zs){b:Nat}{ty:TypeId}{vs:List Value}(hl:au w b ty vs)(hv0: ∀x∈vs,∀n:Int,n≠0→x≠ .int k n):wF b v zs:=fun hp a n c hv=>by
 obtain⟨ao,cap,rfl,_,_,h3⟩:=h;obtain⟨g,off,rfl,hc⟩:=h3 hp
 cases hv
 have h0:=hc (zs.length-1) (by omega)
 show g≠b
 intro e;subst e;have hnn:zs.getD (zs.length-1) 0≠0:=hn (by intro h;rw[h] at hp;simp at hp);unfold World.cell? at h0;simp only at h0;rw[hl] at h0;simp only[Option.isSome_none,Bool.false_eq_true,if_false,List.getElem?_toArray] at h0;exact hv0 _ (List.mem_of_getElem? h0) _ (by omega) rfl
theorem Rd.set {w:World}{k:IntKind}{v:Value}{zs:List Nat}(h:Rd w k v zs){b:Nat}(ho:wF b v zs)(i:Nat)(x:Value):Rd (w.setCell ⟨b,i,none⟩ x) k v zs:=by
 obtain⟨ao,cap,rfl,h1,h2,h3⟩:=h;refine⟨ao,cap,rfl,h1,h2,fun hp=> ?_⟩
 obtain⟨g,off,rfl,hc⟩:=h3 hp;have hne:=ho hp _ _ _ rfl;refine⟨g,off,rfl,fun j hj=> ?_⟩
 have hne2:g≠b:=hne;unfold World.cell?;simp only;rw[Below.heap_setCell _ _ _ _ hne2];exact hc j hj
structure But (b:Nat) (w w':World):Prop where
 os:w'.os=w.os
 tape:w'.tape=w.tape
 output:w'.output=w.output
 size:w'.heap.size=w.heap.size
 block: ∀k,k≠b→w'.heap[k]? =w.heap[k]?
theorem But.trans {b:Nat}{w w1 w2:World}(h:But b w w1)(k:But b w1 w2):But b w w2:=
 ⟨k.os.trans h.os,k.tape.trans h.tape,k.output.trans h.output,k.size.trans h.size,fun i hi=>(k.block i hi).trans (h.block i hi)⟩
theorem But.c {b:Nat}{w w':World}(h:But b w w'){a:Addr}(ha:a.block≠b):w'.cell? a=w.cell? a:=by
 unfold World.cell?;rw[h.block a.block ha]
theorem au.there {w:World}{b:Nat}{tb:TypeId}{us:List Value}(h:au w b tb us)(n:Nat)(hn:n=us.length):w.there b 0 n:=fun j hj=>by
 have hj':j<us.length:=by omega
 rw[Nat.zero_add];exact⟨by rw[h.c j (List.getElem?_eq_getElem hj')];rfl,h.f j⟩
def Rv (w:World)(v:Value)(t:ak):Prop:= ∃s,v=(ydV t.s s t.e)∧Rd w .i64 s (Dg.dg 65536 t.n)
theorem Rv.l {w w':World}{v:Value}{t:ak}(h:Rv w v t)(hb:yB w w'):Rv w' v t:=by
 obtain⟨s,hv,hr⟩:=h;exact⟨s,hv,hr.l hb⟩
def ZB (w:World)(b:Nat):Prop:=b<w.heap.size∧ ∃ty,w.heap[b]? =some (.cells (ydA false yN 0) ty (0,0))
theorem ZB.l {w w':World}{b:Nat}(h:ZB w b)(hb:yB w w'):ZB w' b:=by
 obtain⟨hl,ty,hh⟩:=h;exact⟨Nat.lt_of_lt_of_le hl hb.size,ty,(hb.block b hl).trans hh⟩
theorem ZB.rd {w:World}{b:Nat}{v:Value}{zs:List Nat}(h:ZB w b)(hr:Rd w .i64 v zs)(hn:Dg.Norm zs)(x0 x1 x2:Value):
  Rd (((w.setCell ⟨b,0,none⟩ x0).setCell ⟨b,1,none⟩ x1).setCell ⟨b,2,none⟩ x2) .i64 v zs:=by
 obtain⟨hl,ty,hh⟩:=h;obtain⟨ao,cap,rfl,h1,h2,h3⟩:=hr;refine⟨ao,cap,rfl,h1,h2,fun hp=> ?_⟩
 obtain⟨c,off,rfl,hc⟩:=h3 hp;refine⟨c,off,rfl,fun i hi=> ?_⟩
 have hne:c≠b:=by
  intro e;subst e;have k1:=hc (zs.length-1) (by omega);have hz:=hn (List.length_pos_iff.1 hp);unfold World.cell? at k1;simp only[hh] at k1;obtain⟨o,ho⟩: ∃o,off+(zs.length-1)=o:=⟨_,rfl⟩;rw[ho] at k1;generalize zs.getD (zs.length-1) 0=d at*
  match o,k1 with
  |0,k1=>simp at k1
  |1,k1=>simp at k1
  |2,k1=>simp at k1;omega
  |o+3,k1=>simp at k1
 rw[World.cell?_setCell_other (h:=by simp),World.cell?_setCell_other (h:=by simp),World.cell?_setCell_other (h:=by simp)];exact hc i hi
theorem cA (w:World)(c0:List Value)(t0:TypeId): ∃W,w.alloc (.cells c0.toArray t0)=W∧au W w.heap.size t0 c0∧yB w W:=
 ⟨_,rfl,ah w c0 t0,af w _⟩
structure ik (w:World) (g:Nat) (zs:List Nat):Prop where
 c: ∀i,i<zs.length→w.cell? ⟨g,i,none⟩=some (.int .u8 ((zs.getD i 0:Nat):Int))
 f: ∀i,i<zs.length→w.frozen? ⟨g,i,none⟩=false
 lt:g<w.heap.size
theorem Eu {w w':World}{g i:Nat}(h:w'.heap[g]? =w.heap[g]?):w'.frozen? ⟨g,i,none⟩=w.frozen? ⟨g,i,none⟩:=by
 unfold World.frozen?;simp only[h]
theorem ik.l {w w':World}{g:Nat}{zs:List Nat}(h:ik w g zs)(hb:yB w w'):ik w' g zs:=
 ⟨fun i hi=>cell_later hb (h.c i hi),fun i hi=>(Eu (hb.block g h.lt)).trans (h.f i hi),Nat.lt_of_lt_of_le h.lt hb.size⟩
end Go.Proofs.YtlgkfdcmokchgaaGreatDoor
