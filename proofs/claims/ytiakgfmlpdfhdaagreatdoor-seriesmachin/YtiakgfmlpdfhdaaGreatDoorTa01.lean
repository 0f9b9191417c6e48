/-
  Texts laid together: Ab0, Math, Ab4, Mem, Ab2, Leaf, Div1, DecW, Ref1.
-/
import Derived.WalkKit
import Derived.WalkSpells
import Derived.OrdersHeld
import Derived.Deep.QuietTactic
import Derived.BigQuiet
import Derived.Test.YtiakgfmlpdfhdaaGreatDoorChecked
import Derived.Handy
import Derived.Laws.CopyOwn
import Derived.BigRegion
import Derived.Deep.LoopGhost
import Derived.Deep.RegionLaw
import Derived.WalkSmall
set_option maxRecDepth 100000
set_option maxHeartbeats 1600000
namespace Go.Proofs.YtiakgfmlpdfhdaaGreatDoor
open _root_.Go.Proofs.Tryz
open Go.RowKit
abbrev yi (n:Int):Value:= .int .i64 n
abbrev ylL (R D L G:Int)(g:Bool)(s e f:Int)(F:Nat):List Value:=[.int .i64 R,.int .i64 D,.int .i64 L,.int .i64 G,.bool g,.int .i64 s,.int .i64 e,.int .i64 f,.func (.func F) #[] #[]]
abbrev ylV (R D L G:Int)(g:Bool)(s e f:Int)(F:Nat):Value:= .agg #[.int .i64 R,.int .i64 D,.int .i64 L,.int .i64 G,.bool g,.int .i64 s,.int .i64 e,.int .i64 f,.func (.func F) #[] #[]]
abbrev ylA (R D L G:Int)(g:Bool)(s e f:Int)(F:Nat):Array Value:= #[.int .i64 R,.int .i64 D,.int .i64 L,.int .i64 G,.bool g,.int .i64 s,.int .i64 e,.int .i64 f,.func (.func F) #[] #[]]
abbrev yzL (R D L G:Int)(g:Bool)(s e f:Int):List Value:=[.int .i64 R,.int .i64 D,.int .i64 L,.int .i64 G,.bool g,.int .i64 s,.int .i64 e,.int .i64 f,.nilFunc]
abbrev yzV (R D L G:Int)(g:Bool)(s e f:Int):Value:= .agg #[.int .i64 R,.int .i64 D,.int .i64 L,.int .i64 G,.bool g,.int .i64 s,.int .i64 e,.int .i64 f,.nilFunc]
abbrev yzA (R D L G:Int)(g:Bool)(s e f:Int):Array Value:= #[.int .i64 R,.int .i64 D,.int .i64 L,.int .i64 G,.bool g,.int .i64 s,.int .i64 e,.int .i64 f,.nilFunc]
abbrev yoL (c:Int)(g s:Bool)(v:Value)(e:Int):List Value:=[.int .i64 c,.bool g,.bool s,v,.int .i64 e]
abbrev yoV (c:Int)(g s:Bool)(v:Value)(e:Int):Value:= .agg #[.int .i64 c,.bool g,.bool s,v,.int .i64 e]
abbrev yoA (c:Int)(g s:Bool)(v:Value)(e:Int):Array Value:= #[.int .i64 c,.bool g,.bool s,v,.int .i64 e]
abbrev ykL (n w f R D L G:Int)(g:Bool):List Value:=[.int .i64 n,.int .i64 w,.int .i64 f,.int .i64 R,.int .i64 D,.int .i64 L,.int .i64 G,.bool g]
abbrev ykV (n w f R D L G:Int)(g:Bool):Value:= .agg #[.int .i64 n,.int .i64 w,.int .i64 f,.int .i64 R,.int .i64 D,.int .i64 L,.int .i64 G,.bool g]
abbrev ykA (n w f R D L G:Int)(g:Bool):Array Value:= #[.int .i64 n,.int .i64 w,.int .i64 f,.int .i64 R,.int .i64 D,.int .i64 L,.int .i64 G,.bool g]
abbrev yvL (c:Int)(g:Bool)(v:Value)(p:Int):List Value:=[.int .i64 c,.bool g,v,.int .i64 p]
abbrev yvV (c:Int)(g:Bool)(v:Value)(p:Int):Value:= .agg #[.int .i64 c,.bool g,v,.int .i64 p]
abbrev yvA (c:Int)(g:Bool)(v:Value)(p:Int):Array Value:= #[.int .i64 c,.bool g,v,.int .i64 p]
abbrev ydL (s:Bool)(v:Value)(e:Int):List Value:=[.bool s,v,.int .i64 e]
abbrev ydV (s:Bool)(v:Value)(e:Int):Value:= .agg #[.bool s,v,.int .i64 e]
abbrev ydA (s:Bool)(v:Value)(e:Int):Array Value:= #[.bool s,v,.int .i64 e]
abbrev ygL (R D L G:Int)(g:Bool):List Value:=[.int .i64 R,.int .i64 D,.int .i64 L,.int .i64 G,.bool g]
abbrev ygV (R D L G:Int)(g:Bool):Value:= .agg #[.int .i64 R,.int .i64 D,.int .i64 L,.int .i64 G,.bool g]
abbrev ygA (R D L G:Int)(g:Bool):Array Value:= #[.int .i64 R,.int .i64 D,.int .i64 L,.int .i64 G,.bool g]
abbrev yfL (g:Bool)(e f:Int):List Value:=[.bool g,.int .i64 e,.int .u64 f]
abbrev yfV (g:Bool)(e f:Int):Value:= .agg #[.bool g,.int .i64 e,.int .u64 f]
abbrev yfA (g:Bool)(e f:Int):Array Value:= #[.bool g,.int .i64 e,.int .u64 f]
abbrev ypL (s:Bool)(v:Value)(p:Int)(x o u:Bool):List Value:=[.bool s,v,.int .i64 p,.bool x,.bool o,.bool u]
abbrev ypV (s:Bool)(v:Value)(p:Int)(x o u:Bool):Value:= .agg #[.bool s,v,.int .i64 p,.bool x,.bool o,.bool u]
abbrev ypA (s:Bool)(v:Value)(p:Int)(x o u:Bool):Array Value:= #[.bool s,v,.int .i64 p,.bool x,.bool o,.bool u]
abbrev yrL (s:Bool)(v u:Value)(e:Int):List Value:=[.bool s,v,u,.int .i64 e]
abbrev yrV (s:Bool)(v u:Value)(e:Int):Value:= .agg #[.bool s,v,u,.int .i64 e]
abbrev yrA (s:Bool)(v u:Value)(e:Int):Array Value:= #[.bool s,v,u,.int .i64 e]
namespace Dg
def vl (B:Nat):List Nat→Nat
 | []=>0
 |d::l=>d+B*vl B l
def dgF (B:Nat):Nat→Nat→List Nat
 |0,_=>[]
 |f+1,n=>if n=0 then[] else n % B::dgF B f (n/B)
def dg (B n:Nat):List Nat:=dgF B n n
def Norm (l:List Nat):Prop:=l≠[]→l.getD (l.length-1) 0≠0
def Small (B:Nat)(l:List Nat):Prop:= ∀i,l.getD i 0<B
theorem div_lt_of (B n f:Nat)(hB:2≤B)(h:n≤f+1)(h0:n≠0):n/B≤f:=by
 have:n/B<n:=Nat.div_lt_self (by omega) (by omega);omega
theorem vl_dgF (B:Nat)(hB:2≤B): ∀f n,n≤f→vl B (dgF B f n)=n:=by
 intro f
 induction f with
 |zero=>
  intro n h;have:n=0:=by omega
  subst this;rfl
 |succ f ih=>
  intro n h;unfold dgF
  by_cases h0:n=0
  ·simp[h0,vl]
  ·simp only[h0,if_false,vl]
   rw[ih _ (div_lt_of B n f hB h h0)];exact Nat.mod_add_div n B
theorem vl_dg (B n:Nat)(hB:2≤B):vl B (dg B n)=n:=vl_dgF B hB n n (Nat.le_refl _)
theorem small_nil (B:Nat)(hB:0<B):Small B []:=by intro i;simpa using hB
theorem small_cons {B d:Nat}{l:List Nat}:Small B (d::l)↔d<B∧Small B l:=by
 constructor
 ·intro h
  exact⟨by simpa using h 0,fun i=>by simpa using h (i+1)⟩
 ·intro h i
  cases i with
  |zero=>simpa using h.1
  |succ i=>simpa using h.2 i
theorem small_dgF (B:Nat)(hB:2≤B): ∀f n,Small B (dgF B f n):=by
 intro f
 induction f with
 |zero=>intro n;exact small_nil B (by omega)
 |succ f ih=>
  intro n;unfold dgF
  by_cases h0:n=0
  ·simp only[h0,if_true];exact small_nil B (by omega)
  ·simp only[h0,if_false]
   exact small_cons.2 ⟨Nat.mod_lt _ (by omega),ih _⟩
theorem small_dg (B n:Nat)(hB:2≤B):Small B (dg B n):=small_dgF B hB n n
theorem norm_cons {d:Nat}{l:List Nat}(hl:l≠[]):Norm (d::l)↔Norm l:=by
 unfold Norm
 cases l with
 |nil=>exact absurd rfl hl
 |cons e m=>simp
theorem dgF_ne_nil (B f n:Nat)(h:n≤f)(h0:n≠0):dgF B f n≠[]:=by
 cases f with
 |zero=>omega
 |succ f=>unfold dgF;simp[h0]
theorem norm_dgF (B:Nat)(hB:2≤B): ∀f n,n≤f→Norm (dgF B f n):=by
 intro f
 induction f with
 |zero=>intro n _ h;exact absurd rfl h
 |succ f ih=>
  intro n h;unfold dgF
  by_cases h0:n=0
  ·simp[h0,Norm]
  ·simp only[h0,if_false]
   have hd:=div_lt_of B n f hB h h0
   by_cases h1:n/B=0
   ·have e:dgF B f (n/B)=[]:=by cases f<;>simp[dgF,h1]
    rw[e];intro _;have:n % B=n:=Nat.mod_eq_of_lt (by
     rcases Nat.div_eq_zero_iff.1 h1 with hh|hh
     ·omega
     ·exact hh)
    simpa[this] using h0
   ·exact(norm_cons (dgF_ne_nil B f _ hd h1)).2 (ih _ hd)
theorem norm_dg (B n:Nat)(hB:2≤B):Norm (dg B n):=norm_dgF B hB n n (Nat.le_refl _)
theorem vl_ne_zero (B:Nat)(hB:0<B): ∀l,l≠[]→Norm l→vl B l≠0:=by
 intro l
 induction l with
 |nil=>intro h;exact absurd rfl h
 |cons d l ih=>
  intro _ hn
  cases l with
  |nil=>have:=hn (by simp);simp[vl] at this⊢;exact this
  |cons e m=>
   have h1:=ih (by simp) ((norm_cons (by simp)).1 hn);have:0<B*vl B (e::m):=Nat.mul_pos hB (by omega)
   show d+B*vl B (e::m)≠0
   omega
theorem vl_inj (B:Nat)(hB:2≤B): ∀l m,Small B l→Small B m→Norm l→Norm m→vl B l=vl B m→l=m:=by
 intro l
 induction l with
 |nil=>
  intro m _ _ _ hm e
  cases m with
  |nil=>rfl
  |cons x y=>exact absurd e.symm (vl_ne_zero B (by omega) _ (by simp) hm)
 |cons d l ih=>
  intro m hs hs' hn hm e
  cases m with
  |nil=>exact absurd e (vl_ne_zero B (by omega) _ (by simp) hn)
  |cons x y=>
   have h1:=small_cons.1 hs;have h2:=small_cons.1 hs';simp only[vl] at e;have ed:d=x:=by
    have:=congrArg (· % B) e
    simpa[Nat.add_mul_mod_self_left,Nat.mod_eq_of_lt h1.1,Nat.mod_eq_of_lt h2.1] using this
   subst ed;have ev:vl B l=vl B y:=Nat.eq_of_mul_eq_mul_left (by omega:0<B) (by omega);have hnl:Norm l:=by
    by_cases hl:l=[]
    ·subst hl;intro h;exact absurd rfl h
    ·exact(norm_cons hl).1 hn
   have hny:Norm y:=by
    by_cases hl:y=[]
    ·subst hl;intro h;exact absurd rfl h
    ·exact(norm_cons hl).1 hm
   rw[ih y h1.2 h2.2 hnl hny ev]
theorem dg_vl (B:Nat)(hB:2≤B)(l:List Nat)(hs:Small B l)(hn:Norm l):dg B (vl B l)=l:=
 vl_inj B hB _ _ (small_dg B _ hB) hs (norm_dg B _ hB) hn (vl_dg B _ hB)
theorem eq_dg (B:Nat)(hB:2≤B)(l:List Nat)(n:Nat)(hs:Small B l)(hn:Norm l)(e:vl B l=n):l=dg B n:=by
 rw[←e,dg_vl B hB l hs hn]
theorem vl_append (B:Nat): ∀l m,vl B (l++m)=vl B l+B^l.length*vl B m:=by
 intro l
 induction l with
 |nil=>intro m;simp[vl]
 |cons d l ih=>
  intro m;simp only[List.cons_append,vl,ih,List.length_cons,Nat.pow_succ,Nat.mul_add];rw[Nat.mul_comm (B^l.length) B,Nat.mul_assoc];omega
theorem vl_replicate_zero (B:Nat): ∀n,vl B (List.replicate n 0)=0:=by
 intro n
 induction n with
 |zero=>rfl
 |succ n ih=>simp[List.replicate_succ,vl,ih]
theorem vl_lt (B:Nat): ∀l,Small B l→vl B l<B^l.length:=by
 intro l
 induction l with
 |nil=>intro _;simp[vl]
 |cons d l ih=>
  intro h;have h1:=small_cons.1 h;have:=ih h1.2;simp only[vl,List.length_cons,Nat.pow_succ];have h2:B*vl B l+B≤B^l.length*B:=by
   have:B*(vl B l+1)≤B*B^l.length:=Nat.mul_le_mul_left _ this;rw[Nat.mul_comm (B^l.length) B];rw[Nat.mul_add] at this;omega
  omega
theorem vl_ge (B:Nat): ∀l,l≠[]→Norm l→B^ (l.length-1)≤vl B l:=by
 intro l
 induction l with
 |nil=>intro h;exact absurd rfl h
 |cons d l ih=>
  intro _ hn
  cases l with
  |nil=>have:=hn (by simp);simp[vl] at this⊢;omega
  |cons e m=>
   have h1:=ih (by simp) ((norm_cons (by simp)).1 hn);have:B*B^m.length≤B*vl B (e::m):=Nat.mul_le_mul_left _ (by simpa using h1);simp only[List.length_cons,Nat.add_sub_cancel,Nat.pow_succ] at*
   show _≤d+B*vl B (e::m)
   rw[Nat.mul_comm (B^m.length) B];omega
theorem getD_take (l:List Nat)(n i:Nat)(h:i<n):(l.take n).getD i 0=l.getD i 0:=by
 simp[List.getD_eq_getElem?_getD,h]
theorem getD_of_le (l:List Nat)(i:Nat)(h:l.length≤i):l.getD i 0=0:=by
 simp[List.getD_eq_getElem?_getD,List.getElem?_eq_none h]
theorem take_succ' (l:List Nat)(k:Nat)(h:k<l.length):l.take (k+1)=l.take k++[l.getD k 0]:=by
 rw[List.take_succ_eq_append_getElem h];simp[List.getD_eq_getElem?_getD,h]
theorem vl_take_succ (B:Nat)(l:List Nat)(k:Nat)(h:k<l.length):vl B (l.take (k+1))=vl B (l.take k)+B^k*l.getD k 0:=by
 rw[take_succ' l k h,vl_append];simp[vl,Nat.min_eq_left (Nat.le_of_lt h)]
theorem vl_take_drop (B:Nat)(l:List Nat)(k:Nat)(h:k≤l.length):vl B l=vl B (l.take k)+B^k*vl B (l.drop k):=by
 have:=vl_append B (l.take k) (l.drop k);rw[List.take_append_drop] at this
 simpa[Nat.min_eq_left h] using this
theorem vl_zeros (B:Nat): ∀l:List Nat,(∀i,l.getD i 0=0)→vl B l=0:=by
 intro l
 induction l with
 |nil=>intro _;rfl
 |cons d l ih=>
  intro h;have h0:=h 0;have h1:=ih (fun i=>by simpa using h (i+1))
  simp at h0;simp[vl,h0,h1]
theorem small_take {B:Nat}{l:List Nat}(h:Small B l)(n:Nat)(hB:0<B):Small B (l.take n):=by
 intro i
 by_cases hi:i<n
 ·rw[getD_take l n i hi];exact h i
 ·rw[getD_of_le _ _ (by simp;omega)];exact hB
theorem trim_eq (B:Nat)(hB:2≤B)(l:List Nat)(n:Nat)(hs:Small B l)(hn:n≤l.length)(hz: ∀i,n≤i→l.getD i 0=0)(hl:0<n→l.getD (n-1) 0≠0):
  l.take n=dg B (vl B l):=by
 refine eq_dg B hB _ _ (small_take hs n (by omega)) ?_ ?_
 ·intro hne
  have hn0:0<n:=by
   rcases Nat.eq_zero_or_pos n with h|h
   ·subst h;simp at hne
   ·exact h
  have:(l.take n).length=n:=by simp[Nat.min_eq_left hn]
  rw[this,getD_take l n _ (by omega)];exact hl hn0
 ·rw[vl_take_drop B l n hn]
  have:vl B (l.drop n)=0:=vl_zeros B _ (fun i=>by
   have:=hz (n+i) (by omega)
   simpa[List.getD_eq_getElem?_getD,List.getElem?_drop] using this)
  rw[this];omega
theorem vl_set (B:Nat): ∀(l:List Nat) (i x:Nat),i<l.length→vl B (l.set i x)+B^i*l.getD i 0=vl B l+B^i*x:=by
 intro l
 induction l with
 |nil=>intro i x h;simp at h
 |cons d l ih=>
  intro i x h
  cases i with
  |zero=>simp[vl];omega
  |succ i=>
   have:=ih i x (by simpa using h);have h2:B*(vl B (l.set i x)+B^i*l.getD i 0)=B*(vl B l+B^i*x):=by rw[this]
   simp only[List.set_cons_succ,vl,List.getD_cons_succ,Nat.pow_succ,Nat.mul_add] at*;rw[Nat.mul_comm (B^i) B,Nat.mul_assoc,Nat.mul_assoc];omega
theorem getD_set (l:List Nat)(i j x:Nat)(h:i<l.length):(l.set i x).getD j 0=if i=j then x else l.getD j 0:=by
 by_cases e:i=j
 ·subst e;simp[List.getD_eq_getElem?_getD,h]
 ·simp[List.getD_eq_getElem?_getD,List.getElem?_set_ne e,e]
theorem small_set {B:Nat}{l:List Nat}(h:Small B l)(i x:Nat)(hx:x<B):Small B (l.set i x):=by
 intro j
 by_cases hi:i<l.length
 ·rw[getD_set l i j x hi]
  by_cases e:i=j
  ·rw[if_pos e];exact hx
  ·rw[if_neg e];exact h j
 ·rw[List.set_eq_of_length_le (by omega)];exact h j
theorem small_replicate (B n:Nat)(hB:0<B):Small B (List.replicate n 0):=by
 intro i;have:(List.replicate n 0).getD i 0=0:=by
  by_cases h:i<n<;>simp[List.getD_eq_getElem?_getD,h]
 rw[this];exact hB
theorem vl_lt_of_len (B:Nat)(hB:2≤B)(l m:List Nat)(hs:Small B l)(hn:Norm m)(h:l.length<m.length):vl B l<vl B m:=by
 have h1:=vl_lt B l hs;have h2:=vl_ge B m (by intro e;subst e;simp at h) hn;have h3:B^l.length≤B^ (m.length-1):=Nat.pow_le_pow_right (by omega) (by omega);omega
theorem vl_split (B:Nat)(l:List Nat)(k:Nat)(h:k<l.length):vl B l=vl B (l.take k)+B^k*(l.getD k 0+B*vl B (l.drop (k+1))):=by
 rw[vl_take_drop B l k (by omega),List.drop_eq_getElem_cons h];simp[vl,List.getD_eq_getElem?_getD,h]
theorem drop_eq_of (l m:List Nat)(k:Nat)(hl:l.length=m.length)(h: ∀j,k≤j→l.getD j 0=m.getD j 0):l.drop k=m.drop k:=by
 apply List.ext_getElem (by simp[hl]);intro i h1 h2;have:=h (k+i) (by omega);simp only[List.length_drop] at h1 h2
 simpa[List.getD_eq_getElem?_getD,show k+i<l.length from by omega,show k+i<m.length from by omega] using this
theorem vl_lt_of_digit (B:Nat)(l m:List Nat)(k:Nat)(hl:l.length=m.length)(hk:k<l.length)(h: ∀j,k+1≤j→l.getD j 0=m.getD j 0)(hlt:l.getD k 0<m.getD k 0)(hs:Small B l):vl B l<vl B m:=by
 rw[vl_split B l k hk,vl_split B m k (by omega),drop_eq_of l m (k+1) hl h];have hB:0<B:=by have:=hs 0;omega
 have h1:=vl_lt B (l.take k) (small_take hs k hB);rw[List.length_take,Nat.min_eq_left (by omega)] at h1;have h2:B^k*(l.getD k 0+B*vl B (m.drop (k+1))+1)≤B^k*(m.getD k 0+B*vl B (m.drop (k+1))):=Nat.mul_le_mul_left _ (by omega);rw[Nat.mul_add (B^k) _ 1] at h2;omega
theorem eq_of_all (l m:List Nat)(hl:l.length=m.length)(h: ∀j,l.getD j 0=m.getD j 0):l=m:=by
 have:=drop_eq_of l m 0 hl (fun j _=>h j)
 simpa using this
theorem dg_zero (B:Nat):dg B 0=[]:=rfl
theorem dg_nil_iff (B n:Nat)(hB:2≤B):dg B n=[]↔n=0:=by
 constructor
 ·intro h;have:=vl_dg B n hB;rw[h] at this;exact this.symm
 ·intro h;subst h;rfl
theorem dg_len_le (B n k:Nat)(hB:2≤B)(h:n<B^k):(dg B n).length≤k:=by
 by_cases e:dg B n=[]
 ·rw[e];simp
 ·have h1:=vl_ge B (dg B n) e (norm_dg B n hB)
  rw[vl_dg B n hB] at h1;have h2:=(Nat.pow_lt_pow_iff_right (by omega:1<B)).1 (Nat.lt_of_le_of_lt h1 h);omega
theorem norm_of_ge (B:Nat)(l:List Nat)(hs:Small B l)(h:l≠[]→B^ (l.length-1)≤vl B l):Norm l:=by
 intro hne e;have hl:0<l.length:=List.length_pos_iff.2 hne;have h1:=vl_take_succ B l (l.length-1) (by omega);rw[show l.length-1+1=l.length from by omega,List.take_of_length_le (Nat.le_refl _),e] at h1
 have hB:0<B:=by have:=hs 0;omega
 have h2:=vl_lt B (l.take (l.length-1)) (small_take hs _ hB);rw[List.length_take,Nat.min_eq_left (by omega)] at h2;have h3:=h hne;omega
end Dg
open Go.RowKit
abbrev yN:Value:= .slice none 0 0
abbrev yS (o:Option Addr)(n c:Nat):Value:= .slice o (Dg.dg 65536 n).length c
abbrev yT (o:Option Addr)(n c:Nat):Value:= .slice o (Dg.dg 4294967296 n).length c
abbrev yhL (a b c R D L G:Int)(g:Bool)(f:Int):List Value:=[.int .i64 a,.int .i64 b,.int .i64 c,.int .i64 R,.int .i64 D,.int .i64 L,.int .i64 G,.bool g,.int .i64 f]
abbrev yhV (a b c R D L G:Int)(g:Bool)(f:Int):Value:= .agg #[.int .i64 a,.int .i64 b,.int .i64 c,.int .i64 R,.int .i64 D,.int .i64 L,.int .i64 G,.bool g,.int .i64 f]
abbrev yhA (a b c R D L G:Int)(g:Bool)(f:Int):Array Value:= #[.int .i64 a,.int .i64 b,.int .i64 c,.int .i64 R,.int .i64 D,.int .i64 L,.int .i64 G,.bool g,.int .i64 f]
theorem tq {P:Program}{md:Region.Mode}{ops:Array Oper}{Q:Exit→Act→World→Prop}{S:World→Prop}{oi:Oper}{fuel:Nat}{listed:Array Bool}{a:Act}{w:World}(i:Nat)(v:Value)(hi:ops[i]? =some oi)(hv: ∀w0,S w0→(execOp a.eval oi).run P w0= .ok (.value v) w0)(hS:S w)
  (h:wpAnyH P md ops Q S fuel (listed.setIfInBounds i true) (a.put oi.dst v) w)
  (hb:(Region.noSelect ops&&(Region.free md ops listed i&&((Region.ready md ops listed).contains i&&Region.wanted oi (yielded ops a.tmps))))=true:=by kernel_rfl)
  (hQ: ∀c a w,Q (.panic c) (a.put oi.dst v) w→Q (.panic c) a w:=by exact fun _ _ _ h=>h):wpAnyH P md ops Q S (fuel+1) listed a w:=by
 simp only[Bool.and_eq_true] at hb;exact wpAnyH_take hi hb.1 hb.2.1 hb.2.2.1 hQ (Or.inl ⟨hb.2.2.2,hv⟩) hS h
def Rd (w:World)(k:IntKind)(v:Value)(zs:List Nat):Prop:=
 ∃ao cap,v= .slice ao zs.length cap∧zs.length≤cap∧cap≤maxLen∧
  (0<zs.length→ ∃b off,ao=some ⟨b,off,none⟩∧ ∀i,i<zs.length→w.cell? ⟨b,off+i,none⟩=some (.int k ((zs.getD i 0:Nat):Int)))
def Own (w:World)(base e:Nat)(k:IntKind)(v:Value)(zs:List Nat):Prop:=
 w.ownsRow base e 1 v zs.length (zs.map (fun n:Nat=>Value.int k (n:Int)))
theorem Rd.shape {w:World}{k:IntKind}{v:Value}{zs:List Nat}(h:Rd w k v zs): ∃ao cap,v= .slice ao zs.length cap:=by
 obtain⟨ao,cap,hv,_⟩:=h;exact⟨ao,cap,hv⟩
theorem aa {w w1 w2:World}(h:Below w.heap.size w w1)(k:Below w1.heap.size w1 w2):Below w.heap.size w w2:=
 h.trans (k.mono h.size)
theorem Own.rd {w:World}{base e:Nat}{k:IntKind}{v:Value}{zs:List Nat}(h:Own w base e k v zs):Rd w k v zs:=by
 obtain⟨hl,h2⟩:=h
 rcases h2 with⟨hv,hn⟩| ⟨g,cap,cur,hv,hb,hh,hnc,hcm,hcs,htake⟩
 ·refine⟨none,0,by rw[hv,hn],by omega,by unfold maxLen;omega,fun hp=>by omega⟩
 ·refine⟨_,cap,hv,hnc,hcm,fun hp=>⟨g,0,rfl,fun i hi=> ?_⟩⟩
  have hc:=World.ownsRow.cellAt (w:=w) (base:=base) (e:=e) (size:=1) (g:=g) (n:=zs.length) (cap:=cap) (xs:=zs.map (fun n:Nat=>Value.int k (n:Int))) ⟨hl,.inr ⟨g,cap,cur,rfl,hb,hh,hnc,hcm,hcs,htake⟩⟩ i (by omega)
  rw[Nat.zero_add,hc,List.getElem?_map,List.getElem?_eq_getElem hi];simp[List.getD_eq_getElem?_getD,hi]
theorem Own.len {w:World}{base e:Nat}{k:IntKind}{g n cap:Nat}{zs:List Nat}(h:Own w base e k (.slice (some ⟨g,0,none⟩) n cap) zs):n=zs.length:=by
 rcases h.2 with⟨hv,_⟩| ⟨g',cap',cur,hv,_⟩
 ·simp at hv
 ·simp at hv;exact hv.2.1
theorem Own.c {w:World}{base e:Nat}{k:IntKind}{g n cap:Nat}{zs:List Nat}(h:Own w base e k (.slice (some ⟨g,0,none⟩) n cap) zs)(j:Nat)(hj:j<zs.length):
  w.cell? ⟨g,j,none⟩=some (.int k ((zs.getD j 0:Nat):Int)):=by
 have hn:=h.len;subst hn;have hc:=World.ownsRow.cellAt h j (by omega);rw[hc,List.getElem?_map,List.getElem?_eq_getElem hj];simp[List.getD_eq_getElem?_getD,hj]
theorem Own.block {w:World}{base e:Nat}{k:IntKind}{g n cap:Nat}{zs:List Nat}(h:Own w base e k (.slice (some ⟨g,0,none⟩) n cap) zs):base≤g∧g<w.heap.size:=by
 have hn:=h.len;subst hn;exact World.ownsRow.lt h g rfl
theorem Own.take {w:World}{base e:Nat}{k:IntKind}{g n cap:Nat}{zs:List Nat}(h:Own w base e k (.slice (some ⟨g,0,none⟩) n cap) zs)(m:Nat)(hm:m≤zs.length):
  Own w base e k (.slice (some ⟨g,0,none⟩) m cap) (zs.take m):=by
 have hn:=h.len;subst hn;obtain⟨h1,h2⟩:=h;refine⟨by simp, ?_⟩
 rcases h2 with⟨hv,_⟩| ⟨g',cap',cur,hv,hb,hh,hnc,hcm,hcs,htake⟩
 ·simp at hv
 ·simp only[Value.slice.injEq,Option.some.injEq,Addr.mk.injEq,and_true,true_and] at hv
  obtain⟨rfl,rfl⟩:=hv;refine .inr ⟨g,cap,cur, ?_,hb,hh,by simp;omega,hcm,hcs, ?_⟩
  ·simp[Nat.min_eq_left hm]
  ·rw[List.map_take,←htake]
   simp only[Nat.mul_one,List.length_take,List.take_take]
theorem aQ (w:World)(base e:Nat)(k:IntKind):Own w base e k yN []:=World.ownsRow_nil w base e 1
abbrev yC (f:Nat)(l:Array Value)(w:World)(p:Ending→World→Prop):Prop:=Calls Tryz.prog f l w p
abbrev yR (w:World)(v:Value):Ending→World→Prop:=fun z w'=>z= .returned v∧Below w.heap.size w w'
abbrev yB (w v:World):Prop:=Below w.heap.size w v
abbrev yJ (f:Nat)(l:Array Value)(v:Value):Prop:= ∀w1,Calls Tryz.prog f l w1 (yR w1 v)
abbrev yH (w:World)(f:Nat)(l:Array Value)(v:Value):Prop:= ∀w1,Below w.heap.size w w1→Calls Tryz.prog f l w1 (yR w1 v)
theorem wn {w:World}{k:IntKind}{ao:Option Addr}{len cap:Nat}{zs:List Nat}(h:Rd w k (.slice ao len cap) zs):len=zs.length:=by
 obtain⟨ao',cap',hv,_⟩:=h;simp only[Value.slice.injEq] at hv;exact hv.2.1
theorem iQ {w:World}{k:IntKind}{ao:Option Addr}{cap:Nat}{zs:List Nat}(h:Rd w k (.slice ao zs.length cap) zs):
  zs.length≤cap∧cap≤9223372036854775807∧(0<zs.length→ ∃b off,ao=some ⟨b,off,none⟩∧ ∀i,i<zs.length→w.cell? ⟨b,off+i,none⟩=some (.int k ((zs.getD i 0:Nat):Int))):=by
 obtain⟨ao',cap',hv,hlc,hm,hc⟩:=h;simp only[Value.slice.injEq,true_and] at hv;obtain⟨rfl,rfl⟩:=hv;unfold maxLen at hm;exact⟨hlc,hm,hc⟩
def Ou (zs:List Nat)(n:Nat):Prop:=n≤zs.length∧(∀i,n≤i→zs.getD i 0=0)∧(0<n→zs.getD (n-1) 0≠0)
theorem i9 (ao:Option Addr)(len cap:Nat)(zs:List Nat)(w:World)(h:Rd w .i64 (.slice ao len cap) zs):
  yC 52 #[.slice ao len cap] w fun e w'=> ∃n,e= .returned (.slice ao n n)∧Ou zs n∧w'=w:=by
 obtain rfl:=wn h;obtain⟨hlc,hm,hc⟩:=iQ h
 go_enter func52,ntmps52
 go_wp2
 go_loop [3] (fun i=> ∃k:Nat,k≤zs.length∧i=yi k∧Hid (∀i,k≤i→zs.getD i 0=0)) (fun i=>(intOf i).toNat)
 case atStart=>exact⟨zs.length,Nat.le_refl _,rfl,fun i hi=>Dg.getD_of_le _ _ hi⟩
 case round=>
  obtain⟨k,hk,rfl,hz⟩:=hrel
  by_cases hk0:k=0
  ·subst hk0
   go_wp2
   go_ret
   exact⟨0,rfl,⟨Nat.zero_le _,hz,fun h=>absurd h (by omega)⟩,rfl⟩
  ·obtain⟨b,off,rfl,hcell⟩:=hc (by omega)
   have h1:=hcell (k-1) (by omega);obtain⟨d,hd⟩: ∃d,zs.getD (k-1) 0=d:=⟨_,rfl⟩;rw[hd] at h1;have Hd:Hid _:=hd;clear hd hcell hc h
   by_cases hd0:d=0
   ·subst hd0
    go_wp2
    go_round
    case rel=>exact⟨k-1,by omega,by go_num,fun i hi=>by
     by_cases e:i=k-1
     ·rw[e];exact Hd.out
     ·exact hz i (by omega)⟩
    case measure=>simp[intOf];omega
   ·go_wp2
    go_ret
    exact⟨k,rfl,⟨hk,hz,fun _=>by rw[Hd.out];exact hd0⟩,rfl⟩
theorem Own.heap {w:World}{base e:Nat}{k:IntKind}{g n:Nat}{zs:List Nat}(h:Own w base e k (.slice (some ⟨g,0,none⟩) n n) zs):
  w.heap[g]? =some (.cells (zs.map (fun n:Nat=>Value.int k n)).toArray e (0,0)):=by
 have hn:=h.len;subst hn
 rcases h.2 with⟨hv,_⟩| ⟨g',cap',cur,hv,hb,hh,hnc,hcm,hcs,htake⟩
 ·simp at hv
 ·simp only[Value.slice.injEq,Option.some.injEq,Addr.mk.injEq,and_true,true_and] at hv
  obtain⟨rfl,rfl⟩:=hv;rw[hh,←htake,List.take_of_length_le (by rw[Array.length_toList,hcs];omega)]
theorem Own.cap {w:World}{base e:Nat}{k:IntKind}{g n cap:Nat}{zs:List Nat}(h:Own w base e k (.slice (some ⟨g,0,none⟩) n cap) zs):n≤cap∧cap≤9223372036854775807:=by
 have hn:=h.len;subst hn
 rcases h.2 with⟨hv,_⟩| ⟨g',cap',cur,hv,hb,hh,hnc,hcm,hcs,htake⟩
 ·simp at hv
 ·simp only[Value.slice.injEq,Option.some.injEq,Addr.mk.injEq,and_true,true_and] at hv
  obtain⟨rfl,rfl⟩:=hv;exact⟨hnc,by unfold maxLen at hcm;exact hcm⟩
theorem Dq {P:Program}{ops:Array Oper}{o:Oper}{a:Act}{w:World}{K:Act→World→Prop}{Q:Exit→Act→World→Prop}{E:Prop}
  (hg:o.guard=none) (s x:Operand) (t:TypeId) (hop:o.op=Op.call {callee:=Callee.builtin Builtin.append,args:= #[s,x],argTypes:= #[t,t]})
  (base:Nat) (e:TypeId) (i:TypeInfo) (z:Value) (size bytes:Nat) (ht:P.underlying t=some (.slice e)) (hi:P.info? e=some i) (hz:i.zero=some z)
  (hsize:i.size=size) (hby:i.bytes=bytes) (hzs:z.cells.size=size) (hsz:0<size)
  (v:Value) (n:Nat) (xs:List Value) (hs:a.eval s=v) (hown:w.ownsRow base e size v n xs)
  (ad:Addr) (m c:Nat) (news:List Value) (hx:a.eval x= .slice (some ad) m c) (hl:news.length=m*size) (hnews: ∀j u,news[j]? =some u→w.cell? (ad.add j)=some u) (h1: ∀u∈news,u.oneCell'=true)
  (h63:n+m≤maxLen) (hbytes:(n+m)*bytes≤140737488355328) (hbase:base≤w.heap.size)
  (hK: ∀v' w',w'.ownsRow base e size v' (n+m) (xs++news)→w.grownBy w' v.ownBlock→K (a.put o.dst v') w'):
  if Region.wanted o (yielded ops a.tmps)=true then Oper.wp P o a w K Q else E:=by
 have hw:Region.wanted o (yielded ops a.tmps)=true:=by simp[Region.wanted,hg]
 rw[if_pos hw];obtain⟨v',w',hrun,r1,r2,_⟩:=run_append_own (P:=P) w base t o.type e i z size bytes ht hi hz hsize hby hzs hsz v n xs hown ad m c news hl hnews h1 h63 hbytes hbase;unfold Oper.wp;simp[execOp,hop,resolve,invoke,builtin,hs,hx,hrun,Result.andThen];exact hK v' w' r1 r2
theorem Tryz.infoI64:(Tryz.prog.info? 3).map (fun i=>(i.zero,i.size,i.bytes))=some (some (.int .i64 0),1,8):=by kernel_rfl
def mN (xs:List Nat):List Nat:=xs.flatMap (fun x=>[x % 65536,x/65536])
theorem zT (xs:List Nat):(mN xs).length=2*xs.length:=by
 induction xs with
 |nil=>rfl
 |cons x xs ih=>simp only[mN,List.flatMap_cons,List.length_append,List.length_cons,List.length_nil] at*;omega
theorem Tu (xs:List Nat):Dg.vl 65536 (mN xs)=Dg.vl 4294967296 xs:=by
 induction xs with
 |nil=>rfl
 |cons x xs ih=>
  have:mN (x::xs)=x % 65536::x/65536::mN xs:=rfl;rw[this];simp only[Dg.vl,ih];omega
theorem JG (xs:List Nat)(h:Dg.Small 4294967296 xs):Dg.Small 65536 (mN xs):=by
 induction xs with
 |nil=>exact Dg.small_nil _ (by omega)
 |cons x xs ih=>
  have h1:=Dg.small_cons.1 h;have:mN (x::xs)=x % 65536::x/65536::mN xs:=rfl;rw[this];exact Dg.small_cons.2 ⟨by omega,Dg.small_cons.2 ⟨by omega,ih h1.2⟩⟩
theorem LO (xs:List Nat)(k:Nat)(h:k<xs.length):mN (xs.take (k+1))=mN (xs.take k)++[xs.getD k 0 % 65536,xs.getD k 0/65536]:=by
 rw[Dg.take_succ' xs k h];simp[mN]
def cG (w:World)(n:Nat)(e:Ending)(w':World):Prop:=
 ∃v,e= .returned v∧Rd w' .i64 v (Dg.dg 65536 n)∧yB w w'
def Far (B:Nat)(v:Value):Prop:= ∀a n c,v= .slice (some a) n c→B≤a.block
theorem JH {w:World}{base e:Nat}{k:IntKind}{v:Value}{zs:List Nat}(h:Own w base e k v zs):Far base v:=fun a n c hv=>by
 rcases h.2 with⟨e1,_⟩| ⟨g,cap,cur,e1,hg,_⟩
 ·rw[e1] at hv;cases hv
 ·rw[e1] at hv
  cases hv
  exact hg
theorem LP {B:Nat}{oo:Option Addr}{n c:Nat}(h:Far B (.slice oo n c))(n' c':Nat):Far B (.slice oo n' c'):=fun a m d hv=>by
 cases hv
 exact h a n c rfl
theorem Rd.set_far {w:World}{k:IntKind}{v:Value}{zs:List Nat}{B g j:Nat}(h:Rd w k v zs)(hf:Far B v)(hg:g<B)(x:Value):Rd (w.setCell ⟨g,j,none⟩ x) k v zs:=by
 obtain⟨ao,cap,rfl,h1,h2,h3⟩:=h;refine⟨ao,cap,rfl,h1,h2,fun h0=> ?_⟩
 obtain⟨b,off,rfl,hc⟩:=h3 h0;have:=hf _ _ _ rfl;refine⟨b,off,rfl,fun i hi=> ?_⟩
 rw[World.cell?_setCell_other (h:=by simp;intro e;simp at this;omega)];exact hc i hi
def Si (w:World)(n:Nat)(e:Ending)(w':World):Prop:=
 ∃v,e= .returned v∧Rd w' .i64 v (Dg.dg 65536 n)∧Far w.heap.size v∧yB w w'
theorem Far.mono {B B':Nat}{v:Value}(h:Far B v)(hb:B'≤B):Far B' v:=fun a n c hv=>Nat.le_trans hb (h a n c hv)
theorem uE {w:World}{k:IntKind}{ao:Option Addr}{len cap n cap':Nat}{zs:List Nat}(B:Nat)(hB:2≤B)(h:Rd w k (.slice ao len cap) zs)(hs:Dg.Small B zs)(ht:Ou zs n)(hc:n≤cap')(hc2:cap'≤maxLen):
  Rd w k (.slice ao n cap') (Dg.dg B (Dg.vl B zs)):=by
 have hl:=wn h;subst hl;obtain⟨h1,h2,h3⟩:=iQ h;rw[←Dg.trim_eq B hB zs n hs ht.1 ht.2.1 ht.2.2];have hn:=ht.1;have hl:(zs.take n).length=n:=by simp;omega
 refine⟨ao,cap',by rw[hl],by rw[hl];exact hc,hc2,fun hp=> ?_⟩
 rw[hl] at hp;obtain⟨b,off,ha,hcell⟩:=h3 (by omega);refine⟨b,off,ha,fun i hi=> ?_⟩
 rw[hl] at hi;rw[hcell i (by omega),Dg.getD_take _ _ _ hi]
theorem Tv {w wr w3:World}{x y:Nat}{es:List Nat}{lv v':Value}(bel:yB w wr)(ownL:Own wr w.heap.size 3 .i64 lv es)
  (hown':w3.ownsRow w.heap.size 3 1 v' (es.length+2) ((es.map (fun n:Nat=>Value.int .i64 (n:Int)))++[yi x,yi y]))
  (hgrow:(wr.alloc (.cells #[yi x,yi y] 3)).drew.grownBy w3 lv.ownBlock):
  Own w3 w.heap.size 3 .i64 v' (es++[x,y])∧yB w w3:=by
 have b1:yB wr (wr.alloc (.cells #[yi x,yi y] 3)).drew:=((Below.refl _ _).alloc (Nat.le_refl _) _).drew;refine⟨?_, ?_⟩
 ·unfold Own
  simpa using hown'
 ·refine(aa bel b1).grown hgrow (Nat.le_trans bel.size b1.size) (fun k hk=> ?_)
  exact(World.ownsRow.lt ownL k hk).1
theorem fQ (va:Value)(xs:List Nat)(w:World)(ha:Rd w .u32 va xs)(sa:Dg.Small 4294967296 xs)(hla:xs.length≤1000000):
  yC 47 #[va] w (cG w (Dg.vl 4294967296 xs)):=by
 obtain⟨ao,ca,rfl,-,-,hca⟩:=ha;obtain⟨i0,hi,hz0,hz1,hz2⟩:=info_parts Tryz.infoI64
 go_enter func47,ntmps47
 go_wp2
 go_loopw [3,4] (fun ov iv wr=> ∃k:Nat,k≤xs.length∧iv=yi k∧Own wr w.heap.size 3 .i64 ov (mN (xs.take k))∧yB w wr) (fun _ iv _=>xs.length-(intOf iv).toNat)
 case atStart=>exact⟨0,Nat.zero_le _,rfl,aQ _ _ _ _,Below.refl _ _⟩
 case round=>
  obtain⟨k,hk,rfl,own,bel⟩:=hrel
  by_cases hlt:k<xs.length
  ·obtain⟨b,off,rfl,hcell⟩:=hca (by omega)
   have hx:=cell_later bel (hcell k hlt);have hxl:=sa k;have hsn:=LO xs k hlt;obtain⟨x,ex⟩: ∃x,xs.getD k 0=x:=⟨_,rfl⟩;rw[ex] at hx hxl hsn;have HS:Hid _:=hsn;have hhl:(mN (xs.take k)).length≤2000000:=by rw[zT];simp;omega
   have hbs:=bel.size;obtain⟨es,ees⟩: ∃es,mN (xs.take k)=es:=⟨_,rfl⟩;rw[ees] at own hhl;have HE:Hid _:=ees;clear ex hcell hca hsn ees;obtain⟨p,hp⟩: ∃p,x % 65536=p:=⟨_,rfl⟩;obtain⟨q,hq⟩: ∃q,x/65536=q:=⟨_,rfl⟩;have e1:IntKind.i64.wrap (x:Int)=(x:Int):=IntWalk.i64_in _ ⟨by omega,by omega⟩;have e2:(x:Int).tmod 65536=(p:Int):=by rw[Int.tmod_eq_emod_of_nonneg (by omega)];omega
   have e3:IntKind.i64.wrap ((x:Int).tdiv 65536)=(q:Int):=by rw[Int.tdiv_eq_ediv_of_nonneg (by omega),IntWalk.i64_in _ ⟨by omega,by omega⟩];omega
   have e4:IntKind.i64.wrap ((x:Int)/65536)=(q:Int):=by rw[IntWalk.i64_in _ ⟨by omega,by omega⟩];omega
   rw[hp,hq] at HS;clear hp hq
   go_wp2
   go_region_law (refine Dq rfl (.tmp 11) (.tmp 24) 33 rfl w.heap.size 3 i0 (yi 0) 1 8 underlying33 hi hz0 hz1 hz2 rfl (by decide) _ es.length (es.map (fun n:Nat=>Value.int .i64 (n:Int))) rfl (World.ownsRow.drew (World.ownsRow.alloc own _)) ⟨wr.heap.size,0,none⟩ 2 2 [yi (p:Int),yi (q:Int)] rfl rfl (cell_two_new _ _ _ _) (by intro u hu;simp at hu;rcases hu with rfl|rfl<;>rfl) (by unfold maxLen;omega) (by omega) (by simp;omega) ?_;intro v' w3 hown' hgrow)
   all_goals
    have R:=Tv bel own hown' hgrow;clear hown' hgrow own e1 e2 e3 e4
    go_wp2
    go_roundw
    case rel=>
     have HS2:=HS.out;rw[HE.out] at HS2;exact⟨k+1,by omega,by go_num,by rw[HS2];exact R.1,R.2⟩
    case measure=>simp[intOf];omega
  ·have hke:k=xs.length:=by omega
   subst hke;have hshape:=own.rd.shape;rw[List.take_of_length_le (Nat.le_refl _)] at own;obtain⟨oo,oc,rfl⟩:=own.rd.shape
   go_wp2_with fail
   refine(i9 _ _ _ _ _ own.rd).mono ?_;rintro e w' ⟨n,rfl,hn,rfl⟩;have hnl:=hn.1;rw[zT] at hnl;have hr:=uE (cap':=n) 65536 (by omega) own.rd (JG xs sa) hn (Nat.le_refl _) (by unfold maxLen;omega);rw[Tu] at hr;clear hshape hn
   go_wp2
   go_ret
   exact⟨_,rfl,hr,bel⟩
end Go.Proofs.YtiakgfmlpdfhdaaGreatDoor
