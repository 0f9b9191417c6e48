/-
  Texts laid together: Ab0, Math, Mem, Ab2, Leaf, Mul.
-/
import Derived.WalkKit
import Derived.WalkSpells
import Derived.Deep.QuietTactic
import Derived.BigQuiet
import Derived.Test.YtdhpndnncmagiaaGreatDoorChecked
import Derived.Handy
set_option maxRecDepth 100000
set_option maxHeartbeats 1600000
namespace Go.Proofs.YtdhpndnncmagiaaGreatDoor
open _root_.Go.Proofs.Tryz
open Go.RowKit
abbrev yi (n:Int):Value:= .int .i64 n
abbrev ylL (R D L G:Int)(g:Bool)(s e f:Int)(F:Nat):List Value:=[.int .i64 R,.int .i64 D,.int .i64 L,.int .i64 G,.bool g,.int .i64 s,.int .i64 e,.int .i64 f,.func (.func F) #[] #[]]
abbrev ylV (R D L G:Int)(g:Bool)(s e f:Int)(F:Nat):Value:= .agg #[.int .i64 R,.int .i64 D,.int .i64 L,.int .i64 G,.bool g,.int .i64 s,.int .i64 e,.int .i64 f,.func (.func F) #[] #[]]
abbrev ylA (R D L G:Int)(g:Bool)(s e f:Int)(F:Nat):Array Value:= #[.int .i64 R,.int .i64 D,.int .i64 L,.int .i64 G,.bool g,.int .i64 s,.int .i64 e,.int .i64 f,.func (.func F) #[] #[]]
abbrev yzL (R D L G:Int)(g:Bool)(s e f:Int):List Value:=[.int .i64 R,.int .i64 D,.int .i64 L,.int .i64 G,.bool g,.int .i64 s,.int .i64 e,.int .i64 f,.nilFunc]
abbrev yzV (R D L G:Int)(g:Bool)(s e f:Int):Value:= .agg #[.int .i64 R,.int .i64 D,.int .i64 L,.int .i64 G,.bool g,.int .i64 s,.int .i64 e,.int .i64 f,.nilFunc]
abbrev yzA (R D L G:Int)(g:Bool)(s e f:Int):Array Value:= #[.int .i64 R,.int .i64 D,.int .i64 L,.int .i64 G,.bool g,.int .i64 s,.int .i64 e,.int .i64 f,.nilFunc]
abbrev yoL (c:Int)(g s:Bool)(v:Value)(e:Int):List Value:=[.int .i64 c,.bool g,.bool s,v,.int .i64 e]
abbrev yoV (c:Int)(g s:Bool)(v:Value)(e:Int):Value:= .agg #[.int .i64 c,.bool g,.bool s,v,.int .i64 e]
abbrev yoA (c:Int)(g s:Bool)(v:Value)(e:Int):Array Value:= #[.int .i64 c,.bool g,.bool s,v,.int .i64 e]
abbrev ykL (n w f R D L G:Int)(g:Bool):List Value:=[.int .i64 n,.int .i64 w,.int .i64 f,.int .i64 R,.int .i64 D,.int .i64 L,.int .i64 G,.bool g]
abbrev ykV (n w f R D L G:Int)(g:Bool):Value:= .agg #[.int .i64 n,.int .i64 w,.int .i64 f,.int .i64 R,.int .i64 D,.int .i64 L,.int .i64 G,.bool g]
abbrev ykA (n w f R D L G:Int)(g:Bool):Array Value:= #[.int .i64 n,.int .i64 w,.int .i64 f,.int .i64 R,.int .i64 D,.int .i64 L,.int .i64 G,.bool g]
abbrev yvL (c:Int)(g:Bool)(v:Value)(p:Int):List Value:=[.int .i64 c,.bool g,v,.int .i64 p]
abbrev yvV (c:Int)(g:Bool)(v:Value)(p:Int):Value:= .agg #[.int .i64 c,.bool g,v,.int .i64 p]
abbrev yvA (c:Int)(g:Bool)(v:Value)(p:Int):Array Value:= #[.int .i64 c,.bool g,v,.int .i64 p]
abbrev ydL (s:Bool)(v:Value)(e:Int):List Value:=[.bool s,v,.int .i64 e]
abbrev ydV (s:Bool)(v:Value)(e:Int):Value:= .agg #[.bool s,v,.int .i64 e]
abbrev ydA (s:Bool)(v:Value)(e:Int):Array Value:= #[.bool s,v,.int .i64 e]
abbrev ygL (R D L G:Int)(g:Bool):List Value:=[.int .i64 R,.int .i64 D,.int .i64 L,.int .i64 G,.bool g]
abbrev ygV (R D L G:Int)(g:Bool):Value:= .agg #[.int .i64 R,.int .i64 D,.int .i64 L,.int .i64 G,.bool g]
abbrev ygA (R D L G:Int)(g:Bool):Array Value:= #[.int .i64 R,.int .i64 D,.int .i64 L,.int .i64 G,.bool g]
abbrev yfL (g:Bool)(e f:Int):List Value:=[.bool g,.int .i64 e,.int .u64 f]
abbrev yfV (g:Bool)(e f:Int):Value:= .agg #[.bool g,.int .i64 e,.int .u64 f]
abbrev yfA (g:Bool)(e f:Int):Array Value:= #[.bool g,.int .i64 e,.int .u64 f]
abbrev ypL (s:Bool)(v:Value)(p:Int)(x o u:Bool):List Value:=[.bool s,v,.int .i64 p,.bool x,.bool o,.bool u]
abbrev ypV (s:Bool)(v:Value)(p:Int)(x o u:Bool):Value:= .agg #[.bool s,v,.int .i64 p,.bool x,.bool o,.bool u]
abbrev ypA (s:Bool)(v:Value)(p:Int)(x o u:Bool):Array Value:= #[.bool s,v,.int .i64 p,.bool x,.bool o,.bool u]
abbrev yrL (s:Bool)(v u:Value)(e:Int):List Value:=[.bool s,v,u,.int .i64 e]
abbrev yrV (s:Bool)(v u:Value)(e:Int):Value:= .agg #[.bool s,v,u,.int .i64 e]
abbrev yrA (s:Bool)(v u:Value)(e:Int):Array Value:= #[.bool s,v,u,.int .i64 e]
namespace Dg
def vl (B:Nat):List Nat→Nat
 | []=>0
 |d::l=>d+B*vl B l
def dgF (B:Nat):Nat→Nat→List Nat
 |0,_=>[]
 |f+1,n=>if n=0 then[] else n % B::dgF B f (n/B)
def dg (B n:Nat):List Nat:=dgF B n n
def Norm (l:List Nat):Prop:=l≠[]→l.getD (l.length-1) 0≠0
def Small (B:Nat)(l:List Nat):Prop:= ∀i,l.getD i 0<B
theorem div_lt_of (B n f:Nat)(hB:2≤B)(h:n≤f+1)(h0:n≠0):n/B≤f:=by
 have:n/B<n:=Nat.div_lt_self (by omega) (by omega);omega
theorem vl_dgF (B:Nat)(hB:2≤B): ∀f n,n≤f→vl B (dgF B f n)=n:=by
 intro f
 induction f with
 |zero=>
  intro n h;have:n=0:=by omega
  subst this;rfl
 |succ f ih=>
  intro n h;unfold dgF
  by_cases h0:n=0
  ·simp[h0,vl]
  ·simp only[h0,if_false,vl]
   rw[ih _ (div_lt_of B n f hB h h0)];exact Nat.mod_add_div n B
theorem vl_dg (B n:Nat)(hB:2≤B):vl B (dg B n)=n:=vl_dgF B hB n n (Nat.le_refl _)
theorem small_nil (B:Nat)(hB:0<B):Small B []:=by intro i;simpa using hB
theorem small_cons {B d:Nat}{l:List Nat}:Small B (d::l)↔d<B∧Small B l:=by
 constructor
 ·intro h
  exact⟨by simpa using h 0,fun i=>by simpa using h (i+1)⟩
 ·intro h i
  cases i with
  |zero=>simpa using h.1
  |succ i=>simpa using h.2 i
theorem small_dgF (B:Nat)(hB:2≤B): ∀f n,Small B (dgF B f n):=by
 intro f
 induction f with
 |zero=>intro n;exact small_nil B (by omega)
 |succ f ih=>
  intro n;unfold dgF
  by_cases h0:n=0
  ·simp only[h0,if_true];exact small_nil B (by omega)
  ·simp only[h0,if_false]
   exact small_cons.2 ⟨Nat.mod_lt _ (by omega),ih _⟩
theorem small_dg (B n:Nat)(hB:2≤B):Small B (dg B n):=small_dgF B hB n n
theorem norm_cons {d:Nat}{l:List Nat}(hl:l≠[]):Norm (d::l)↔Norm l:=by
 unfold Norm
 cases l with
 |nil=>exact absurd rfl hl
 |cons e m=>simp
theorem dgF_ne_nil (B f n:Nat)(h:n≤f)(h0:n≠0):dgF B f n≠[]:=by
 cases f with
 |zero=>omega
 |succ f=>unfold dgF;simp[h0]
theorem norm_dgF (B:Nat)(hB:2≤B): ∀f n,n≤f→Norm (dgF B f n):=by
 intro f
 induction f with
 |zero=>intro n _ h;exact absurd rfl h
 |succ f ih=>
  intro n h;unfold dgF
  by_cases h0:n=0
  ·simp[h0,Norm]
  ·simp only[h0,if_false]
   have hd:=div_lt_of B n f hB h h0
   by_cases h1:n/B=0
   ·have e:dgF B f (n/B)=[]:=by cases f<;>simp[dgF,h1]
    rw[e];intro _;have:n % B=n:=Nat.mod_eq_of_lt (by
     rcases Nat.div_eq_zero_iff.1 h1 with hh|hh
     ·omega
     ·exact hh)
    simpa[this] using h0
   ·exact(norm_cons (dgF_ne_nil B f _ hd h1)).2 (ih _ hd)
theorem norm_dg (B n:Nat)(hB:2≤B):Norm (dg B n):=norm_dgF B hB n n (Nat.le_refl _)
theorem vl_ne_zero (B:Nat)(hB:0<B): ∀l,l≠[]→Norm l→vl B l≠0:=by
 intro l
 induction l with
 |nil=>intro h;exact absurd rfl h
 |cons d l ih=>
  intro _ hn
  cases l with
  |nil=>have:=hn (by simp);simp[vl] at this⊢;exact this
  |cons e m=>
   have h1:=ih (by simp) ((norm_cons (by simp)).1 hn);have:0<B*vl B (e::m):=Nat.mul_pos hB (by omega)
   show d+B*vl B (e::m)≠0
   omega
theorem vl_inj (B:Nat)(hB:2≤B): ∀l m,Small B l→Small B m→Norm l→Norm m→vl B l=vl B m→l=m:=by
 intro l
 induction l with
 |nil=>
  intro m _ _ _ hm e
  cases m with
  |nil=>rfl
  |cons x y=>exact absurd e.symm (vl_ne_zero B (by omega) _ (by simp) hm)
 |cons d l ih=>
  intro m hs hs' hn hm e
  cases m with
  |nil=>exact absurd e (vl_ne_zero B (by omega) _ (by simp) hn)
  |cons x y=>
   have h1:=small_cons.1 hs;have h2:=small_cons.1 hs';simp only[vl] at e;have ed:d=x:=by
    have:=congrArg (· % B) e
    simpa[Nat.add_mul_mod_self_left,Nat.mod_eq_of_lt h1.1,Nat.mod_eq_of_lt h2.1] using this
   subst ed;have ev:vl B l=vl B y:=Nat.eq_of_mul_eq_mul_left (by omega:0<B) (by omega);have hnl:Norm l:=by
    by_cases hl:l=[]
    ·subst hl;intro h;exact absurd rfl h
    ·exact(norm_cons hl).1 hn
   have hny:Norm y:=by
    by_cases hl:y=[]
    ·subst hl;intro h;exact absurd rfl h
    ·exact(norm_cons hl).1 hm
   rw[ih y h1.2 h2.2 hnl hny ev]
theorem dg_vl (B:Nat)(hB:2≤B)(l:List Nat)(hs:Small B l)(hn:Norm l):dg B (vl B l)=l:=
 vl_inj B hB _ _ (small_dg B _ hB) hs (norm_dg B _ hB) hn (vl_dg B _ hB)
theorem eq_dg (B:Nat)(hB:2≤B)(l:List Nat)(n:Nat)(hs:Small B l)(hn:Norm l)(e:vl B l=n):l=dg B n:=by
 rw[←e,dg_vl B hB l hs hn]
theorem vl_append (B:Nat): ∀l m,vl B (l++m)=vl B l+B^l.length*vl B m:=by
 intro l
 induction l with
 |nil=>intro m;simp[vl]
 |cons d l ih=>
  intro m;simp only[List.cons_append,vl,ih,List.length_cons,Nat.pow_succ,Nat.mul_add];rw[Nat.mul_comm (B^l.length) B,Nat.mul_assoc];omega
theorem vl_replicate_zero (B:Nat): ∀n,vl B (List.replicate n 0)=0:=by
 intro n
 induction n with
 |zero=>rfl
 |succ n ih=>simp[List.replicate_succ,vl,ih]
theorem vl_lt (B:Nat): ∀l,Small B l→vl B l<B^l.length:=by
 intro l
 induction l with
 |nil=>intro _;simp[vl]
 |cons d l ih=>
  intro h;have h1:=small_cons.1 h;have:=ih h1.2;simp only[vl,List.length_cons,Nat.pow_succ];have h2:B*vl B l+B≤B^l.length*B:=by
   have:B*(vl B l+1)≤B*B^l.length:=Nat.mul_le_mul_left _ this;rw[Nat.mul_comm (B^l.length) B];rw[Nat.mul_add] at this;omega
  omega
theorem vl_ge (B:Nat): ∀l,l≠[]→Norm l→B^ (l.length-1)≤vl B l:=by
 intro l
 induction l with
 |nil=>intro h;exact absurd rfl h
 |cons d l ih=>
  intro _ hn
  cases l with
  |nil=>have:=hn (by simp);simp[vl] at this⊢;omega
  |cons e m=>
   have h1:=ih (by simp) ((norm_cons (by simp)).1 hn);have:B*B^m.length≤B*vl B (e::m):=Nat.mul_le_mul_left _ (by simpa using h1);simp only[List.length_cons,Nat.add_sub_cancel,Nat.pow_succ] at*
   show _≤d+B*vl B (e::m)
   rw[Nat.mul_comm (B^m.length) B];omega
theorem getD_take (l:List Nat)(n i:Nat)(h:i<n):(l.take n).getD i 0=l.getD i 0:=by
 simp[List.getD_eq_getElem?_getD,h]
theorem getD_of_le (l:List Nat)(i:Nat)(h:l.length≤i):l.getD i 0=0:=by
 simp[List.getD_eq_getElem?_getD,List.getElem?_eq_none h]
theorem take_succ' (l:List Nat)(k:Nat)(h:k<l.length):l.take (k+1)=l.take k++[l.getD k 0]:=by
 rw[List.take_succ_eq_append_getElem h];simp[List.getD_eq_getElem?_getD,h]
theorem vl_take_succ (B:Nat)(l:List Nat)(k:Nat)(h:k<l.length):vl B (l.take (k+1))=vl B (l.take k)+B^k*l.getD k 0:=by
 rw[take_succ' l k h,vl_append];simp[vl,Nat.min_eq_left (Nat.le_of_lt h)]
theorem vl_take_drop (B:Nat)(l:List Nat)(k:Nat)(h:k≤l.length):vl B l=vl B (l.take k)+B^k*vl B (l.drop k):=by
 have:=vl_append B (l.take k) (l.drop k);rw[List.take_append_drop] at this
 simpa[Nat.min_eq_left h] using this
theorem vl_zeros (B:Nat): ∀l:List Nat,(∀i,l.getD i 0=0)→vl B l=0:=by
 intro l
 induction l with
 |nil=>intro _;rfl
 |cons d l ih=>
  intro h;have h0:=h 0;have h1:=ih (fun i=>by simpa using h (i+1))
  simp at h0;simp[vl,h0,h1]
theorem small_take {B:Nat}{l:List Nat}(h:Small B l)(n:Nat)(hB:0<B):Small B (l.take n):=by
 intro i
 by_cases hi:i<n
 ·rw[getD_take l n i hi];exact h i
 ·rw[getD_of_le _ _ (by simp;omega)];exact hB
theorem trim_eq (B:Nat)(hB:2≤B)(l:List Nat)(n:Nat)(hs:Small B l)(hn:n≤l.length)(hz: ∀i,n≤i→l.getD i 0=0)(hl:0<n→l.getD (n-1) 0≠0):
  l.take n=dg B (vl B l):=by
 refine eq_dg B hB _ _ (small_take hs n (by omega)) ?_ ?_
 ·intro hne
  have hn0:0<n:=by
   rcases Nat.eq_zero_or_pos n with h|h
   ·subst h;simp at hne
   ·exact h
  have:(l.take n).length=n:=by simp[Nat.min_eq_left hn]
  rw[this,getD_take l n _ (by omega)];exact hl hn0
 ·rw[vl_take_drop B l n hn]
  have:vl B (l.drop n)=0:=vl_zeros B _ (fun i=>by
   have:=hz (n+i) (by omega)
   simpa[List.getD_eq_getElem?_getD,List.getElem?_drop] using this)
  rw[this];omega
theorem vl_set (B:Nat): ∀(l:List Nat) (i x:Nat),i<l.length→vl B (l.set i x)+B^i*l.getD i 0=vl B l+B^i*x:=by
 intro l
 induction l with
 |nil=>intro i x h;simp at h
 |cons d l ih=>
  intro i x h
  cases i with
  |zero=>simp[vl];omega
  |succ i=>
   have:=ih i x (by simpa using h);have h2:B*(vl B (l.set i x)+B^i*l.getD i 0)=B*(vl B l+B^i*x):=by rw[this]
   simp only[List.set_cons_succ,vl,List.getD_cons_succ,Nat.pow_succ,Nat.mul_add] at*;rw[Nat.mul_comm (B^i) B,Nat.mul_assoc,Nat.mul_assoc];omega
theorem getD_set (l:List Nat)(i j x:Nat)(h:i<l.length):(l.set i x).getD j 0=if i=j then x else l.getD j 0:=by
 by_cases e:i=j
 ·subst e;simp[List.getD_eq_getElem?_getD,h]
 ·simp[List.getD_eq_getElem?_getD,List.getElem?_set_ne e,e]
theorem small_set {B:Nat}{l:List Nat}(h:Small B l)(i x:Nat)(hx:x<B):Small B (l.set i x):=by
 intro j
 by_cases hi:i<l.length
 ·rw[getD_set l i j x hi]
  by_cases e:i=j
  ·rw[if_pos e];exact hx
  ·rw[if_neg e];exact h j
 ·rw[List.set_eq_of_length_le (by omega)];exact h j
theorem small_replicate (B n:Nat)(hB:0<B):Small B (List.replicate n 0):=by
 intro i;have:(List.replicate n 0).getD i 0=0:=by
  by_cases h:i<n<;>simp[List.getD_eq_getElem?_getD,h]
 rw[this];exact hB
theorem vl_lt_of_len (B:Nat)(hB:2≤B)(l m:List Nat)(hs:Small B l)(hn:Norm m)(h:l.length<m.length):vl B l<vl B m:=by
 have h1:=vl_lt B l hs;have h2:=vl_ge B m (by intro e;subst e;simp at h) hn;have h3:B^l.length≤B^ (m.length-1):=Nat.pow_le_pow_right (by omega) (by omega);omega
theorem vl_split (B:Nat)(l:List Nat)(k:Nat)(h:k<l.length):vl B l=vl B (l.take k)+B^k*(l.getD k 0+B*vl B (l.drop (k+1))):=by
 rw[vl_take_drop B l k (by omega),List.drop_eq_getElem_cons h];simp[vl,List.getD_eq_getElem?_getD,h]
theorem drop_eq_of (l m:List Nat)(k:Nat)(hl:l.length=m.length)(h: ∀j,k≤j→l.getD j 0=m.getD j 0):l.drop k=m.drop k:=by
 apply List.ext_getElem (by simp[hl]);intro i h1 h2;have:=h (k+i) (by omega);simp only[List.length_drop] at h1 h2
 simpa[List.getD_eq_getElem?_getD,show k+i<l.length from by omega,show k+i<m.length from by omega] using this
theorem vl_lt_of_digit (B:Nat)(l m:List Nat)(k:Nat)(hl:l.length=m.length)(hk:k<l.length)(h: ∀j,k+1≤j→l.getD j 0=m.getD j 0)(hlt:l.getD k 0<m.getD k 0)(hs:Small B l):vl B l<vl B m:=by
 rw[vl_split B l k hk,vl_split B m k (by omega),drop_eq_of l m (k+1) hl h];have hB:0<B:=by have:=hs 0;omega
 have h1:=vl_lt B (l.take k) (small_take hs k hB);rw[List.length_take,Nat.min_eq_left (by omega)] at h1;have h2:B^k*(l.getD k 0+B*vl B (m.drop (k+1))+1)≤B^k*(m.getD k 0+B*vl B (m.drop (k+1))):=Nat.mul_le_mul_left _ (by omega);rw[Nat.mul_add (B^k) _ 1] at h2;omega
theorem eq_of_all (l m:List Nat)(hl:l.length=m.length)(h: ∀j,l.getD j 0=m.getD j 0):l=m:=by
 have:=drop_eq_of l m 0 hl (fun j _=>h j)
 simpa using this
theorem dg_nil_iff (B n:Nat)(hB:2≤B):dg B n=[]↔n=0:=by
 constructor
 ·intro h;have:=vl_dg B n hB;rw[h] at this;exact this.symm
 ·intro h;subst h;rfl
theorem dg_len_le (B n k:Nat)(hB:2≤B)(h:n<B^k):(dg B n).length≤k:=by
 by_cases e:dg B n=[]
 ·rw[e];simp
 ·have h1:=vl_ge B (dg B n) e (norm_dg B n hB)
  rw[vl_dg B n hB] at h1;have h2:=(Nat.pow_lt_pow_iff_right (by omega:1<B)).1 (Nat.lt_of_le_of_lt h1 h);omega
theorem norm_of_ge (B:Nat)(l:List Nat)(hs:Small B l)(h:l≠[]→B^ (l.length-1)≤vl B l):Norm l:=by
 intro hne e;have hl:0<l.length:=List.length_pos_iff.2 hne;have h1:=vl_take_succ B l (l.length-1) (by omega);rw[show l.length-1+1=l.length from by omega,List.take_of_length_le (Nat.le_refl _),e] at h1
 have hB:0<B:=by have:=hs 0;omega
 have h2:=vl_lt B (l.take (l.length-1)) (small_take hs _ hB);rw[List.length_take,Nat.min_eq_left (by omega)] at h2;have h3:=h hne;omega
end Dg
open Go.RowKit
def Rd (w:World)(k:IntKind)(v:Value)(zs:List Nat):Prop:=
 ∃ao cap,v= .slice ao zs.length cap∧zs.length≤cap∧cap≤maxLen∧
  (0<zs.length→ ∃b off,ao=some ⟨b,off,none⟩∧ ∀i,i<zs.length→w.cell? ⟨b,off+i,none⟩=some (.int k ((zs.getD i 0:Nat):Int)))
def Own (w:World)(base e:Nat)(k:IntKind)(v:Value)(zs:List Nat):Prop:=
 w.ownsRow base e 1 v zs.length (zs.map (fun n:Nat=>Value.int k (n:Int)))
theorem Own.rd {w:World}{base e:Nat}{k:IntKind}{v:Value}{zs:List Nat}(h:Own w base e k v zs):Rd w k v zs:=by
 obtain⟨hl,h2⟩:=h
 rcases h2 with⟨hv,hn⟩| ⟨g,cap,cur,hv,hb,hh,hnc,hcm,hcs,htake⟩
 ·refine⟨none,0,by rw[hv,hn],by omega,by unfold maxLen;omega,fun hp=>by omega⟩
 ·refine⟨_,cap,hv,hnc,hcm,fun hp=>⟨g,0,rfl,fun i hi=> ?_⟩⟩
  have hc:=World.ownsRow.cellAt (w:=w) (base:=base) (e:=e) (size:=1) (g:=g) (n:=zs.length) (cap:=cap) (xs:=zs.map (fun n:Nat=>Value.int k (n:Int))) ⟨hl,.inr ⟨g,cap,cur,rfl,hb,hh,hnc,hcm,hcs,htake⟩⟩ i (by omega)
  rw[Nat.zero_add,hc,List.getElem?_map,List.getElem?_eq_getElem hi];simp[List.getD_eq_getElem?_getD,hi]
theorem Own.len {w:World}{base e:Nat}{k:IntKind}{g n cap:Nat}{zs:List Nat}(h:Own w base e k (.slice (some ⟨g,0,none⟩) n cap) zs):n=zs.length:=by
 rcases h.2 with⟨hv,_⟩| ⟨g',cap',cur,hv,_⟩
 ·simp at hv
 ·simp at hv;exact hv.2.1
theorem Own.c {w:World}{base e:Nat}{k:IntKind}{g n cap:Nat}{zs:List Nat}(h:Own w base e k (.slice (some ⟨g,0,none⟩) n cap) zs)(j:Nat)(hj:j<zs.length):
  w.cell? ⟨g,j,none⟩=some (.int k ((zs.getD j 0:Nat):Int)):=by
 have hn:=h.len;subst hn;have hc:=World.ownsRow.cellAt h j (by omega);rw[hc,List.getElem?_map,List.getElem?_eq_getElem hj];simp[List.getD_eq_getElem?_getD,hj]
theorem Own.f {w:World}{base e:Nat}{k:IntKind}{g n cap:Nat}{zs:List Nat}(h:Own w base e k (.slice (some ⟨g,0,none⟩) n cap) zs)(j:Nat):w.frozen? ⟨g,j,none⟩=false:=by
 have hn:=h.len;subst hn;exact World.ownsRow.frozenAt h j
theorem Own.store {w:World}{base e:Nat}{k:IntKind}{g n cap:Nat}{zs:List Nat}(h:Own w base e k (.slice (some ⟨g,0,none⟩) n cap) zs)(j x:Nat):
  Own (w.setCell ⟨g,j,none⟩ (.int k x)) base e k (.slice (some ⟨g,0,none⟩) n cap) (zs.set j x):=by
 have hn:=h.len;subst hn;have:=(World.ownsRow.stored h j (.int k x)).1;unfold Own;rw[List.length_set,List.map_set];exact this
theorem Own.take {w:World}{base e:Nat}{k:IntKind}{g n cap:Nat}{zs:List Nat}(h:Own w base e k (.slice (some ⟨g,0,none⟩) n cap) zs)(m:Nat)(hm:m≤zs.length):
  Own w base e k (.slice (some ⟨g,0,none⟩) m cap) (zs.take m):=by
 have hn:=h.len;subst hn;obtain⟨h1,h2⟩:=h;refine⟨by simp, ?_⟩
 rcases h2 with⟨hv,_⟩| ⟨g',cap',cur,hv,hb,hh,hnc,hcm,hcs,htake⟩
 ·simp at hv
 ·simp only[Value.slice.injEq,Option.some.injEq,Addr.mk.injEq,and_true,true_and] at hv
  obtain⟨rfl,rfl⟩:=hv;refine .inr ⟨g,cap,cur, ?_,hb,hh,by simp;omega,hcm,hcs, ?_⟩
  ·simp[Nat.min_eq_left hm]
  ·rw[List.map_take,←htake]
   simp only[Nat.mul_one,List.length_take,List.take_take]
theorem gL {w:World}{base e:Nat}{k:IntKind}{v:Value}{n:Nat}(h:w.ownsRow base e 1 v n (madeCells #[Value.int k 0] n).toList):Own w base e k v (List.replicate n 0):=by
 rw[toList_madeCells_one] at h
 simpa[Own] using h
abbrev yC (f:Nat)(l:Array Value)(w:World)(p:Ending→World→Prop):Prop:=Calls Tryz.prog f l w p
abbrev yR (w:World)(v:Value):Ending→World→Prop:=fun z w'=>z= .returned v∧Below w.heap.size w w'
abbrev yB (w v:World):Prop:=Below w.heap.size w v
abbrev yJ (f:Nat)(l:Array Value)(v:Value):Prop:= ∀w1,Calls Tryz.prog f l w1 (yR w1 v)
abbrev yH (w:World)(f:Nat)(l:Array Value)(v:Value):Prop:= ∀w1,Below w.heap.size w w1→Calls Tryz.prog f l w1 (yR w1 v)
theorem wn {w:World}{k:IntKind}{ao:Option Addr}{len cap:Nat}{zs:List Nat}(h:Rd w k (.slice ao len cap) zs):len=zs.length:=by
 obtain⟨ao',cap',hv,_⟩:=h;simp only[Value.slice.injEq] at hv;exact hv.2.1
theorem iQ {w:World}{k:IntKind}{ao:Option Addr}{cap:Nat}{zs:List Nat}(h:Rd w k (.slice ao zs.length cap) zs):
  zs.length≤cap∧cap≤9223372036854775807∧(0<zs.length→ ∃b off,ao=some ⟨b,off,none⟩∧ ∀i,i<zs.length→w.cell? ⟨b,off+i,none⟩=some (.int k ((zs.getD i 0:Nat):Int))):=by
 obtain⟨ao',cap',hv,hlc,hm,hc⟩:=h;simp only[Value.slice.injEq,true_and] at hv;obtain⟨rfl,rfl⟩:=hv;unfold maxLen at hm;exact⟨hlc,hm,hc⟩
def Ou (zs:List Nat)(n:Nat):Prop:=n≤zs.length∧(∀i,n≤i→zs.getD i 0=0)∧(0<n→zs.getD (n-1) 0≠0)
theorem jD (ao:Option Addr)(len cap:Nat)(zs:List Nat)(w:World)(h:Rd w .u32 (.slice ao len cap) zs):
  yC 79 #[.slice ao len cap] w fun e w'=> ∃n,e= .returned (.slice ao n cap)∧Ou zs n∧w'=w:=by
 obtain rfl:=wn h;obtain⟨hlc,hm,hc⟩:=iQ h
 go_enter func79,ntmps79
 go_wp2
 go_loop [3] (fun i=> ∃k:Nat,k≤zs.length∧i=yi k∧Hid (∀i,k≤i→zs.getD i 0=0)) (fun i=>(intOf i).toNat)
 case atStart=>exact⟨zs.length,Nat.le_refl _,rfl,fun i hi=>Dg.getD_of_le _ _ hi⟩
 case round=>
  obtain⟨k,hk,rfl,hz⟩:=hrel
  by_cases hk0:k=0
  ·subst hk0
   go_wp2
   go_ret
   exact⟨0,rfl,⟨Nat.zero_le _,hz,fun h=>absurd h (by omega)⟩,rfl⟩
  ·obtain⟨b,off,rfl,hcell⟩:=hc (by omega)
   have h1:=hcell (k-1) (by omega);obtain⟨d,hd⟩: ∃d,zs.getD (k-1) 0=d:=⟨_,rfl⟩;rw[hd] at h1;have Hd:Hid _:=hd;clear hd hcell hc h
   by_cases hd0:d=0
   ·subst hd0
    go_wp2
    go_round
    case rel=>exact⟨k-1,by omega,by go_num,fun i hi=>by
     by_cases e:i=k-1
     ·rw[e];exact Hd.out
     ·exact hz i (by omega)⟩
    case measure=>simp[intOf];omega
   ·go_wp2
    go_ret
    exact⟨k,rfl,⟨hk,hz,fun _=>by rw[Hd.out];exact hd0⟩,rfl⟩
theorem Tryz.infoU32:(Tryz.prog.info? 116).map (fun i=>(i.zero,i.size,i.bytes))=some (some (.int .u32 0),1,4):=by kernel_rfl
def abn (xs ys ps:List Nat)(i:Nat):Prop:=
 ps.length=xs.length+ys.length∧Dg.Small 4294967296 ps∧(∀j,i+ys.length≤j→ps.getD j 0=0)∧Dg.vl 4294967296 ps=Dg.vl 4294967296 (xs.take i)*Dg.vl 4294967296 ys
def YE (xs ys ps:List Nat)(i j c:Nat):Prop:=
 ps.length=xs.length+ys.length∧Dg.Small 4294967296 ps∧c<4294967296∧(∀j,i+ys.length≤j→ps.getD j 0=0)∧
  Dg.vl 4294967296 ps+4294967296^ (i+j)*c=Dg.vl 4294967296 (xs.take i)*Dg.vl 4294967296 ys+4294967296^i*(xs.getD i 0*Dg.vl 4294967296 (ys.take j))
theorem QF (xs ys:List Nat):abn xs ys (List.replicate (xs.length+ys.length) 0) 0:=by
 refine⟨by simp,Dg.small_replicate _ _ (by omega),fun j _=> ?_, ?_⟩
 ·by_cases h:j<xs.length+ys.length<;>simp[List.getD_eq_getElem?_getD,h]
 ·simp[Dg.vl_replicate_zero,Dg.vl]
theorem QG {xs ys ps:List Nat}{i:Nat}(h:abn xs ys ps i):YE xs ys ps i 0 0:=
 ⟨h.1,h.2.1,by omega,h.2.2.1,by rw[h.2.2.2];simp[Dg.vl]⟩
theorem UO {xs ys ps:List Nat}{i j c:Nat}(h:YE xs ys ps i j c)(hi:i<xs.length)(hj:j<ys.length)(t:Nat)(ht:t=c+(xs.getD i 0*ys.getD j 0+ps.getD (i+j) 0))(hlt:t<18446744073709551616):
  YE xs ys (ps.set (i+j) (t % 4294967296)) i (j+1) (t/4294967296):=by
 obtain⟨h1,h2,h3,h4,h5⟩:=h;have hl:i+j<ps.length:=by omega
 refine⟨by simpa using h1,Dg.small_set h2 _ _ (Nat.mod_lt _ (by omega)),by omega,fun k hk=> ?_, ?_⟩
 ·rw[Dg.getD_set _ _ _ _ hl,if_neg (by omega)];exact h4 k hk
 ·have hs:=Dg.vl_set 4294967296 ps (i+j) (t % 4294967296) hl
  rw[Dg.vl_take_succ _ _ _ hj];have hp:4294967296^ (i+(j+1))*(t/4294967296)=4294967296^ (i+j)*(4294967296*(t/4294967296)):=by
   rw[show i+(j+1)=(i+j)+1 from by omega,Nat.pow_succ,Nat.mul_assoc]
  have hm:4294967296^ (i+j)*t=4294967296^ (i+j)*(t % 4294967296)+4294967296^ (i+j)*(4294967296*(t/4294967296)):=by
   rw[←Nat.mul_add,Nat.mod_add_div]
  have he:4294967296^ (i+j)*t=4294967296^ (i+j)*c+4294967296^ (i+j)*(xs.getD i 0*ys.getD j 0)+4294967296^ (i+j)*ps.getD (i+j) 0:=by
   rw[ht,Nat.mul_add,Nat.mul_add,Nat.add_assoc]
  have hd:4294967296^i*(xs.getD i 0*(Dg.vl 4294967296 (ys.take j)+4294967296^j*ys.getD j 0))=4294967296^i*(xs.getD i 0*Dg.vl 4294967296 (ys.take j))+4294967296^ (i+j)*(xs.getD i 0*ys.getD j 0):=by
   rw[Nat.mul_add,Nat.mul_add,Nat.pow_add]
   congr 1
   rw[Nat.mul_assoc,Nat.mul_left_comm (xs.getD i 0)]
  rw[hp,hd];omega
theorem UP {xs ys ps:List Nat}{i c:Nat}(h:YE xs ys ps i ys.length c)(hi:i<xs.length):abn xs ys (ps.set (i+ys.length) c) (i+1):=by
 obtain⟨h1,h2,h3,h4,h5⟩:=h;have hl:i+ys.length<ps.length:=by omega
 refine⟨by simpa using h1,Dg.small_set h2 _ _ h3,fun k hk=> ?_, ?_⟩
 ·rw[Dg.getD_set _ _ _ _ hl,if_neg (by omega)];exact h4 k (by omega)
 ·have hs:=Dg.vl_set 4294967296 ps (i+ys.length) c hl
  rw[h4 _ (Nat.le_refl _)] at hs;rw[Dg.vl_take_succ _ _ _ hi,Nat.add_mul,Nat.mul_assoc];rw[List.take_of_length_le (Nat.le_refl _)] at h5;omega
theorem uf {x y:Nat}(hx:x<4294967296)(hy:y<4294967296):x*y≤18446744065119617025:=by
 have:=Nat.mul_le_mul (Nat.le_sub_one_of_lt hx) (Nat.le_sub_one_of_lt hy)
 simpa using this
theorem YF (c x y p:Nat):((c:Int)+((x:Int)*(y:Int)+(p:Int))) % 4294967296=(((c+(x*y+p)) % 4294967296:Nat):Int):=by
 rw[←Int.natCast_mul];omega
theorem YG (c x y p:Nat):((c:Int)+((x:Int)*(y:Int)+(p:Int)))/4294967296=(((c+(x*y+p))/4294967296:Nat):Int):=by
 rw[←Int.natCast_mul];omega
theorem jW {w:World}{base e:Nat}{k:IntKind}{g n cap m:Nat}{zs:List Nat}(B:Nat)(hB:2≤B)(h:Own w base e k (.slice (some ⟨g,0,none⟩) n cap) zs)(hs:Dg.Small B zs)(ht:Ou zs m):
  Own w base e k (.slice (some ⟨g,0,none⟩) m cap) (Dg.dg B (Dg.vl B zs)):=by
 rw[←Dg.trim_eq B hB zs m hs ht.1 ht.2.1 ht.2.2];exact h.take m ht.1
theorem qC (va vb:Value)(xs ys:List Nat)(w:World)(ha:Rd w .u32 va xs)(hb:Rd w .u32 vb ys)(sa:Dg.Small 4294967296 xs)(sb:Dg.Small 4294967296 ys)(hla:xs.length≤1000000)(hlb:ys.length≤1000000):
  yC 76 #[va,vb] w fun e w'=>
   ∃v,e= .returned v∧Own w' w.heap.size 116 .u32 v (Dg.dg 4294967296 (Dg.vl 4294967296 xs*Dg.vl 4294967296 ys))∧yB w w':=by
 obtain⟨i0,hi,hz0,hz1,hz2⟩:=info_parts Tryz.infoU32;obtain⟨ao,ca,rfl,-,-,hca⟩:=ha;obtain⟨bo,cb,rfl,-,-,hcb⟩:=hb
 go_enter func76,ntmps76
 go_wp2_with (at_make;refine wpList_make_full _ rfl _ _ 64 rfl w.heap.size 116 i0 (.int .u32 0) 1 underlying64 hi hz0 hz1 _ _ _ _ (xs.length+ys.length) rfl rfl (by omega) (by omega) ?b2 ?b3 (Nat.le_refl _) ?_)
 case b2=>rw[hz2];omega
 case b3=>unfold maxLen;omega
 intro w0 hown0 hgrow0;have own0:=gL hown0;have bel0:yB w w0:=(Below.refl _ _).grown hgrow0 (Nat.le_refl _) (fun k h=>by cases h)
 clear hown0 hgrow0
 go_wp2
 go_loopw [19] (fun iv wr=> ∃(i:Nat) (ps:List Nat),i≤xs.length∧iv=yi i∧Own wr w.heap.size 116 .u32 (.slice (some ⟨w.heap.size,0,none⟩) (xs.length+ys.length) (xs.length+ys.length)) ps∧abn xs ys ps i∧yB w wr)
  (fun iv _=>xs.length-(intOf iv).toNat)
 case atStart=>exact⟨0,_,Nat.zero_le _,rfl,own0,QF xs ys,bel0⟩
 case round=>
  obtain⟨i,ps,hil,rfl,own,hO,bel⟩:=hrel
  by_cases hlt:i<xs.length
  ·obtain⟨b,off,rfl,hcell⟩:=hca (by omega)
   have hx:=cell_later bel (hcell i hlt);have hxs:=sa i;obtain⟨x,ex⟩: ∃x,xs.getD i 0=x:=⟨_,rfl⟩;rw[ex] at hx hxs;have Hx:Hid _:=ex;clear ex hcell hca own0 bel0
   go_wp2
   go_loopw [8,26] (fun cv jv wr=> ∃(j c:Nat) (ps:List Nat),j≤ys.length∧jv=yi j∧cv= .int .u64 c∧Own wr w.heap.size 116 .u32 (.slice (some ⟨w.heap.size,0,none⟩) (xs.length+ys.length) (xs.length+ys.length)) ps∧YE xs ys ps i j c∧yB w wr)
    (fun _ jv _=>ys.length-(intOf jv).toNat)
   case atStart=>exact⟨0,0,ps,Nat.zero_le _,rfl,rfl,own,QG hO,bel⟩
   case round=>
    clear own hO bel ps hx;obtain⟨j,c,ps,hjl,rfl,rfl,own,hI,bel⟩:=hrel;have hpl:=hI.1;have hcl:=hI.2.2.1
    by_cases hjt:j<ys.length
    ·obtain⟨b2,off2,rfl,hcell2⟩:=hcb (by omega)
     have hy:=cell_later bel (hcell2 j hjt);have hys:=sb j;have hp:=own.c (i+j) (by omega);have hps:=hI.2.1 (i+j);have hfr:=own.f (i+j);obtain⟨y,ey⟩: ∃y,ys.getD j 0=y:=⟨_,rfl⟩;obtain⟨p,ep⟩: ∃p,ps.getD (i+j) 0=p:=⟨_,rfl⟩;rw[ey] at hy hys;rw[ep] at hp hps;have Hy:Hid _:=ey;have Hp:Hid _:=ep;have hxy:=uf hxs hys;have hxyI:(x:Int)*(y:Int)≤18446744065119617025:=by rw[←Int.natCast_mul];omega
     have hxy0:0≤(x:Int)*(y:Int):=by rw[←Int.natCast_mul];omega
     clear ey ep hcell2 hcb
     go_wp2
     go_roundw
     case rel=>
      rw[YF,YG];exact⟨j+1,(c+(x*y+p))/4294967296,_,by omega,by go_num,rfl,own.store (i+j) _,UO hI hlt hjt _ (by rw[Hx.out,Hy.out,Hp.out]) (by omega),bel.setCell (by exact Nat.le_refl _) _⟩
     case measure=>simp[intOf];omega
    ·have hj:j=ys.length:=by omega
     subst hj;have hp:=own.c (i+ys.length) (by omega);have hfr:=own.f (i+ys.length)
     go_wp2
     go_roundw
     case rel=>exact⟨i+1,_,by omega,by go_num,own.store (i+ys.length) c,UP hI hlt,bel.setCell (by exact Nat.le_refl _) _⟩
     case measure=>simp[intOf];omega
  ·have hie:i=xs.length:=by omega
   subst hie;have hpl:=hO.1;have rd:=own.rd
   go_wp2_with fail
   refine(jD _ _ _ ps _ rd).mono ?_;rintro e w' ⟨m,rfl,hm,rfl⟩
   go_wp2
   go_ret
   refine⟨_,rfl, ?_,bel⟩;have:=jW 4294967296 (by omega) own hO.2.1 hm;rw[hO.2.2.2,List.take_of_length_le (Nat.le_refl _)] at this;exact this
end Go.Proofs.YtdhpndnncmagiaaGreatDoor
