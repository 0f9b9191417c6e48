/-
  Texts laid together: Dec, Plus, Minus, Ref2, Ref4, Laws2, Shift, Ref5, Ref6, Dy4, Lk.
-/
import Derived.Test.YtiakgfmlpdfhdaaDoorSv01
import Derived.Test.YtiakgfmlpdfhdaaDoorSv02
namespace Go.Proofs.YtiakgfmlpdfhdaaDoor
open Go.RowKit
theorem Tryd.infoU8:(Tryd.prog.info? 5).map (fun i=>(i.zero,i.size,i.bytes))=some (some (.int .u8 0),1,1):=by kernel_rfl
theorem qP {B:Nat}{l:List Nat}{x:Nat}(h:Dg.Small B l)(hx:x<B):Dg.Small B (l++[x]):=by
 intro i;rw[List.getD_eq_getElem?_getD,List.getElem?_append]
 by_cases hi:i<l.length
 ·rw[if_pos hi];simpa[List.getD_eq_getElem?_getD] using h i
 ·rw[if_neg hi]
  by_cases h2:i-l.length=0
  ·simp[h2];exact hx
  ·rw[List.getElem?_eq_none (by simp;omega)];simp;omega
theorem TK (a b:Nat)(h:10^a<4294967296^b):a<32*b:=by
 have h1:2^a≤10^a:=Nat.pow_le_pow_left (by omega) a;have h2:(4294967296:Nat)^b=2^ (32*b):=by rw[Nat.pow_mul]
 rw[h2] at h;exact(Nat.pow_lt_pow_iff_right (by omega)).1 (Nat.lt_of_le_of_lt h1 h)
def Qv (xs ys ps:List Nat)(k c:Nat):Prop:=
 ps.length=xs.length+1∧Dg.Small 4294967296 ps∧c≤1∧Dg.vl 4294967296 (ps.take k)+4294967296^k*c=Dg.vl 4294967296 (xs.take k)+Dg.vl 4294967296 (ys.take k)
theorem sQ (l:List Nat)(k x:Nat)(h:k<l.length):Dg.vl 4294967296 ((l.set k x).take (k+1))=Dg.vl 4294967296 (l.take k)+4294967296^k*x:=by
 rw[Dg.vl_take_succ _ _ _ (by simpa using h),Dg.getD_set _ _ _ _ h,if_pos rfl,List.take_set_of_le (Nat.le_refl _)]
theorem pO (l:List Nat)(k:Nat):Dg.vl 4294967296 (l.take (k+1))=Dg.vl 4294967296 (l.take k)+4294967296^k*l.getD k 0:=by
 by_cases h:k<l.length
 ·exact Dg.vl_take_succ _ _ _ h
 ·rw[List.take_of_length_le (by omega),List.take_of_length_le (by omega),Dg.getD_of_le _ _ (by omega)];omega
theorem zq {xs ys ps:List Nat}{k c x y:Nat}(h:Qv xs ys ps k c)(hk:k<xs.length)(hx:xs.getD k 0=x)(hy:ys.getD k 0=y)(hxl:x<4294967296)(hyl:y<4294967296):
  Qv xs ys (ps.set k ((x+y+c) % 4294967296)) (k+1) ((x+y+c)/4294967296):=by
 obtain⟨h1,h2,h3,h4⟩:=h;refine⟨by simpa using h1,Dg.small_set h2 _ _ (Nat.mod_lt _ (by omega)),by omega, ?_⟩;rw[sQ _ _ _ (by omega),pO xs,pO ys,hx,hy];have e:4294967296^ (k+1)*((x+y+c)/4294967296)=4294967296^k*(4294967296*((x+y+c)/4294967296)):=by rw[Nat.pow_succ,Nat.mul_assoc]
 have e2:4294967296^k*(x+y+c)=4294967296^k*((x+y+c) % 4294967296)+4294967296^k*(4294967296*((x+y+c)/4294967296)):=by
  rw[←Nat.mul_add,Nat.mod_add_div]
 have e3:4294967296^k*(x+y+c)=4294967296^k*x+4294967296^k*y+4294967296^k*c:=by rw[Nat.mul_add,Nat.mul_add]
 rw[e];omega
theorem Nc {xs ys ps:List Nat}{c:Nat}(h:Qv xs ys ps xs.length c)(hl:ys.length≤xs.length):(ps.set xs.length c).length=xs.length+1∧Dg.Small 4294967296 (ps.set xs.length c)∧Dg.vl 4294967296 (ps.set xs.length c)=Dg.vl 4294967296 xs+Dg.vl 4294967296 ys:=by
 obtain⟨h1,h2,h3,h4⟩:=h;refine⟨by simpa using h1,Dg.small_set h2 _ _ (by omega), ?_⟩;have:=sQ ps xs.length c (by omega);rw[List.take_of_length_le (by simp;omega)] at this;rw[this];rw[List.take_of_length_le (Nat.le_refl xs.length),List.take_of_length_le hl] at h4;omega
def Z7 (xs ys ps:List Nat)(k c:Nat):Prop:=
 ps.length=xs.length∧Dg.Small 4294967296 ps∧c≤1∧Dg.vl 4294967296 (xs.take k)+4294967296^k*c=Dg.vl 4294967296 (ps.take k)+Dg.vl 4294967296 (ys.take k)
theorem Z8 {xs ys ps:List Nat}{c:Nat}(h:Z7 xs ys ps xs.length c)(hl:ys.length≤xs.length)(hv:Dg.vl 4294967296 ys≤Dg.vl 4294967296 xs):Dg.vl 4294967296 ps=Dg.vl 4294967296 xs-Dg.vl 4294967296 ys:=by
 obtain⟨h1,h2,h3,h4⟩:=h;rw[List.take_of_length_le (Nat.le_refl xs.length),List.take_of_length_le hl,List.take_of_length_le (by omega)] at h4;have hlt:=Dg.vl_lt 4294967296 ps h2;rw[h1] at hlt;have hc:c=0:=by
  rcases Nat.eq_zero_or_pos c with e|e
  ·exact e
  ·have:c=1:=by omega
   subst this;omega
 subst hc;omega
theorem iV (B:Nat)(l:List Nat)(k:Nat):Dg.vl B (l.take (k+1))=Dg.vl B (l.take k)+B^k*l.getD k 0:=by
 by_cases h:k<l.length
 ·exact Dg.vl_take_succ _ _ _ h
 ·rw[List.take_of_length_le (by omega),List.take_of_length_le (by omega),Dg.getD_of_le _ _ (by omega)];omega
theorem I0 (B:Nat)(l:List Nat)(hn:Dg.Norm l)(k:Nat)(h:k<l.length)(hB:0<B):B^k≤Dg.vl B l:=by
 have h1:=Dg.vl_ge B l (by intro e;subst e;simp at h) hn;exact Nat.le_trans (Nat.pow_le_pow_right hB (by omega)) h1
def abk (xs ys ps:List Nat)(k c:Nat):Prop:=
 ps.length=k∧Dg.Small 65536 ps∧c≤1∧Dg.vl 65536 ps+65536^k*c=Dg.vl 65536 (xs.take k)+Dg.vl 65536 (ys.take k)∧(0<k→65536^ (k-1)≤Dg.vl 65536 xs+Dg.vl 65536 ys)
theorem UL {xs ys ps:List Nat}{k c:Nat}(h:abk xs ys ps k c)(na:Dg.Norm xs)(nb:Dg.Norm ys)(sa:Dg.Small 65536 xs)(sb:Dg.Small 65536 ys)(hk:k<xs.length∨k<ys.length∨0<c)(t:Nat)(ht:t=c+xs.getD k 0+ys.getD k 0):
  abk xs ys (ps++[t % 65536]) (k+1) (t/65536):=by
 obtain⟨h1,h2,h3,h4,h5⟩:=h;have hx:=sa k;have hy:=sb k;refine⟨by simp[h1],qP h2 (Nat.mod_lt _ (by omega)),by omega, ?_,fun _=> ?_⟩
 ·rw[Dg.vl_append,iV,iV,h1]
  simp only[Dg.vl,Nat.mul_zero,Nat.add_zero];have e:65536^ (k+1)*(t/65536)=65536^k*(65536*(t/65536)):=by rw[Nat.pow_succ,Nat.mul_assoc]
  have e2:65536^k*t=65536^k*(t % 65536)+65536^k*(65536*(t/65536)):=by rw[←Nat.mul_add,Nat.mod_add_div]
  have e3:65536^k*t=65536^k*c+65536^k*xs.getD k 0+65536^k*ys.getD k 0:=by rw[ht,Nat.mul_add,Nat.mul_add]
  rw[e];omega
 ·rw[Nat.add_sub_cancel]
  by_cases a:k<xs.length
  ·have:=I0 65536 xs na k a (by omega);omega
  ·by_cases b:k<ys.length
   ·have:=I0 65536 ys nb k b (by omega);omega
   ·rw[List.take_of_length_le (by omega),List.take_of_length_le (by omega)] at h4
    have:65536^k≤65536^k*c:=Nat.le_mul_of_pos_right _ (by omega);omega
theorem Yx {xs ys ps:List Nat}{k c:Nat}(h:abk xs ys ps k c)(hk: ¬(k<xs.length∨k<ys.length∨0<c)):ps=Dg.dg 65536 (Dg.vl 65536 xs+Dg.vl 65536 ys):=by
 obtain⟨h1,h2,h3,h4,h5⟩:=h;have hc:c=0:=by omega
 subst hc;rw[List.take_of_length_le (by omega),List.take_of_length_le (by omega)] at h4;refine Dg.eq_dg 65536 (by omega) _ _ h2 (Dg.norm_of_ge 65536 ps h2 (fun hne=> ?_)) (by omega)
 have:=h5 (by rw[←h1];exact List.length_pos_iff.2 hne);rw[h1];omega
def QA (xs ys ps:List Nat)(k c:Nat):Prop:=
 ps.length=k∧Dg.Small 65536 ps∧c≤1∧Dg.vl 65536 (xs.take k)+65536^k*c=Dg.vl 65536 ps+Dg.vl 65536 (ys.take k)
theorem I1 {xs ys ps:List Nat}{k c d c':Nat}(h:QA xs ys ps k c)(hd:d<65536)(hc:c'≤1)(e:xs.getD k 0+65536*c'=d+ys.getD k 0+c):QA xs ys (ps++[d]) (k+1) c':=by
 obtain⟨h1,h2,h3,h4⟩:=h;refine⟨by simp[h1],qP h2 hd,hc, ?_⟩;rw[Dg.vl_append,iV,iV,h1];simp only[Dg.vl,Nat.mul_zero,Nat.add_zero];have e2:65536^k*(xs.getD k 0+65536*c')=65536^k*(d+ys.getD k 0+c):=by rw[e]
 have e3:65536^ (k+1)*c'=65536^k*(65536*c'):=by rw[Nat.pow_succ,Nat.mul_assoc]
 rw[Nat.mul_add,Nat.mul_add,Nat.mul_add] at e2;rw[e3];omega
theorem Nl {xs ys ps:List Nat}{c:Nat}(h:QA xs ys ps xs.length c)(hl:ys.length≤xs.length)(hv:Dg.vl 65536 ys≤Dg.vl 65536 xs):Dg.vl 65536 ps=Dg.vl 65536 xs-Dg.vl 65536 ys:=by
 obtain⟨h1,h2,h3,h4⟩:=h;rw[List.take_of_length_le (Nat.le_refl xs.length),List.take_of_length_le hl] at h4;have hlt:=Dg.vl_lt 65536 ps h2;rw[h1] at hlt;have hc:c=0:=by
  rcases Nat.eq_zero_or_pos c with e|e
  ·exact e
  ·have:c=1:=by omega
   subst this;omega
 subst hc;omega
theorem aH (B n m:Nat)(hB:2≤B)(h:n≤m):(Dg.dg B n).length≤(Dg.dg B m).length:=by
 refine Dg.dg_len_le B n _ hB ?_;have:=Dg.vl_lt B (Dg.dg B m) (Dg.small_dg B m hB);rw[Dg.vl_dg B m hB] at this;omega
def KM (xs ups:List Nat)(wh P k:Nat):Prop:=
 ups.length=xs.length+wh+1∧Dg.Small 4294967296 ups∧(∀j,wh+k<j→ups.getD j 0=0)∧ups.getD (wh+k) 0<P∧Dg.vl 4294967296 ups=4294967296^wh*(Dg.vl 4294967296 (xs.take k)*P)
theorem Nz (xs:List Nat)(wh P:Nat)(hP:0<P):KM xs (List.replicate (xs.length+wh+1) 0) wh P 0:=by
 have hz: ∀j,(List.replicate (xs.length+wh+1) 0).getD j 0=0:=fun j=>by
  by_cases h:j<xs.length+wh+1<;>simp[List.getD_eq_getElem?_getD,h]
 exact⟨by simp,Dg.small_replicate _ _ (by omega),fun j _=>hz j,by rw[hz];exact hP,by simp[Dg.vl_replicate_zero,Dg.vl]⟩
theorem QJ {xs ups:List Nat}{wh P k x:Nat}(h:KM xs ups wh P k)(hk:k<xs.length)(hx:xs.getD k 0=x)(hxl:x<4294967296)(hPQ: ∃Q,P*Q=4294967296)(hP:0<P):
  KM xs ((ups.set (wh+k) (ups.getD (wh+k) 0+x*P % 4294967296)).set (wh+k+1) (x*P/4294967296)) wh P (k+1):=by
 obtain⟨h1,h2,h3,h4,h5⟩:=h;obtain⟨Q,hQ⟩:=hPQ;have hdv:x*P/4294967296<P:=by
  rw[Nat.div_lt_iff_lt_mul (by omega),Nat.mul_comm P];exact Nat.mul_lt_mul_of_pos_right hxl hP
 have hP32:P≤4294967296:=by
  rw[←hQ];exact Nat.le_mul_of_pos_right _ (by
   rcases Nat.eq_zero_or_pos Q with e|e
   ·subst e;simp at hQ
   ·exact e)
 have hmod:x*P % 4294967296+P≤4294967296:=by
  have e:x*P % 4294967296=P*(x % Q):=by rw[←hQ,Nat.mul_comm x P,Nat.mul_mod_mul_left]
  have hQ0:0<Q:=by
   rcases Nat.eq_zero_or_pos Q with e|e
   ·subst e;simp at hQ
   ·exact e
  have e2:P*(x % Q+1)≤P*Q:=Nat.mul_le_mul_left _ (Nat.mod_lt _ hQ0);rw[Nat.mul_add,Nat.mul_one] at e2;rw[e];omega
 have hl:wh+k<ups.length:=by omega
 have hl2:wh+k+1< (ups.set (wh+k) (ups.getD (wh+k) 0+x*P % 4294967296)).length:=by simp;omega
 refine⟨by simpa using h1,Dg.small_set (Dg.small_set h2 _ _ (by omega)) _ _ (by omega),fun j hj=> ?_, ?_, ?_⟩
 ·rw[Dg.getD_set _ _ _ _ hl2,if_neg (by omega),Dg.getD_set _ _ _ _ hl,if_neg (by omega)];exact h3 j (by omega)
 ·rw[show wh+(k+1)=wh+k+1 from by omega,Dg.getD_set _ _ _ _ hl2,if_pos rfl];exact hdv
 ·have s1:=Dg.vl_set 4294967296 ups (wh+k) (ups.getD (wh+k) 0+x*P % 4294967296) hl
  have s2:=Dg.vl_set 4294967296 (ups.set (wh+k) (ups.getD (wh+k) 0+x*P % 4294967296)) (wh+k+1) (x*P/4294967296) hl2;have z1:=h3 (wh+k+1) (by omega);have z2:(ups.set (wh+k) (ups.getD (wh+k) 0+x*P % 4294967296)).getD (wh+k+1) 0=0:=by rw[Dg.getD_set _ _ _ _ hl,if_neg (by omega)];exact z1
  rw[z2] at s2;rw[Dg.vl_take_succ _ _ _ hk,hx,Nat.add_mul,Nat.mul_add,←h5];have e1:4294967296^ (wh+k+1)*(x*P/4294967296)=4294967296^ (wh+k)*(4294967296*(x*P/4294967296)):=by rw[Nat.pow_succ,Nat.mul_assoc]
  have e2:4294967296^wh*(4294967296^k*x*P)=4294967296^ (wh+k)*(x*P):=by rw[Nat.pow_add,Nat.mul_assoc,Nat.mul_assoc]
  have e3:4294967296^ (wh+k)*(x*P)=4294967296^ (wh+k)*(x*P % 4294967296)+4294967296^ (wh+k)*(4294967296*(x*P/4294967296)):=by
   rw[←Nat.mul_add,Nat.mod_add_div]
  rw[Nat.mul_add] at s1;rw[e2,e3];rw[e1] at s2;omega
theorem Vh (P Q:Nat)(l:List Nat):l.headD 0 % P=Dg.vl (P*Q) l % P:=by
 cases l with
 |nil=>simp[Dg.vl]
 |cons y l=>simp only[List.headD_cons,Dg.vl];rw[Nat.mul_assoc,Nat.add_mul_mod_self_left]
theorem Y8 (P Q:Nat)(hP:0<P)(l:List Nat):Dg.vl (P*Q) (low P Q l)=Dg.vl (P*Q) l/P:=by
 induction l with
 |nil=>simp[low,Dg.vl]
 |cons y l ih=>
  simp only[low,Dg.vl,ih];rw[Vh P Q l];have e1:(y+P*Q*Dg.vl (P*Q) l)/P=y/P+Q*Dg.vl (P*Q) l:=by
   rw[Nat.mul_assoc,Nat.add_mul_div_left _ _ hP]
  rw[e1];generalize Dg.vl (P*Q) l=V;have e2:V % P*Q+P*Q*(V/P)=Q*V:=by
   have:=Nat.mod_add_div V P
   calc V % P*Q+P*Q*(V/P)=Q*(V % P+P*(V/P)):=by rw[Nat.mul_add,Nat.mul_comm (V % P),Nat.mul_comm P Q,Nat.mul_assoc]
    _=Q*V:=by rw[this]
  omega
theorem abL {xs ds:List Nat}{wh P Q:Nat}(h:abK xs ds wh P Q (xs.length-wh))(hw:wh≤xs.length)(hPQ:P*Q=4294967296)(sa:Dg.Small 4294967296 xs):
  Dg.Small 4294967296 ds∧Dg.vl 4294967296 ds=Dg.vl 4294967296 xs/(4294967296^wh*P):=by
 have hP:0<P:=by
  rcases Nat.eq_zero_or_pos P with e|e
  ·subst e;simp at hPQ
  ·exact e
 have he:ds=low P Q (xs.drop wh):=by
  apply Dg.eq_of_all
  ·rw[mA,h.1];simp
  ·intro j
   rw[h.2 j]
   by_cases hj:j<xs.length-wh
   ·rw[if_pos hj,Gb P Q _ j (by simpa using hj),ui,ui,Nat.add_assoc]
   ·rw[if_neg hj,Dg.getD_of_le _ _ (by rw[mA];simp;omega)]
 refine⟨fun j=> ?_, ?_⟩
 ·rw[h.2 j]
  split
  ·exact(I7 hPQ (sa _)).2
  ·omega
 ·rw[he,←hPQ,Y8 P Q hP,hPQ,←Nat.div_div_eq_div_mul]
  congr 1
  have hsp:=Dg.vl_take_drop 4294967296 xs wh hw;have hlt:=Dg.vl_lt 4294967296 (xs.take wh) (Dg.small_take sa _ (by omega));rw[List.length_take,Nat.min_eq_left hw] at hlt;rw[hsp,Nat.add_comm,Nat.mul_add_div (Nat.pow_pos (by omega)),Nat.div_eq_of_lt hlt,Nat.add_zero]
theorem Y9 {xs ds:List Nat}{wh P Q k v:Nat}(h:abK xs ds wh P Q k)(hk:k<xs.length-wh)(hv:v=xs.getD (wh+k) 0/P+xs.getD (wh+k+1) 0 % P*Q):abK xs (ds.set k v) wh P Q (k+1):=by
 obtain⟨h1,h2⟩:=h;refine⟨by simpa using h1,fun j=> ?_⟩
 rw[Dg.getD_set _ _ _ _ (by omega)]
 by_cases e:k=j
 ·subst e;rw[if_pos rfl,if_pos (by omega)];exact hv
 ·rw[if_neg e,h2 j]
  by_cases e2:j<k
  ·rw[if_pos e2,if_pos (by omega)]
  ·rw[if_neg e2,if_neg (by omega)]
def M5 (xs ys ps:List Nat)(i k c:Nat):Prop:=
 ps.length=xs.length+ys.length∧Dg.Small 65536 ps∧c<65536∧(∀j,i+ys.length+1≤j→ps.getD j 0=0)∧(k≤ys.length→ps.getD (i+ys.length) 0=0)∧(ys.length<k→c=0)∧k≤ys.length+1∧
  Dg.vl 65536 ps+65536^ (i+k)*c=Dg.vl 65536 (xs.take i)*Dg.vl 65536 ys+65536^i*(xs.getD i 0*Dg.vl 65536 (ys.take k))
theorem XR (P Q:Nat)(l:List Nat)(k:Nat)(h:k<l.length):(low P Q l).take (k+1)=(low P Q l).take k++[l.getD k 0/P+l.getD (k+1) 0 % P*Q]:=by
 rw[Dg.take_succ' _ k (by rw[mA];exact h),Gb P Q l k h]
theorem Ug (P Q:Nat)(l:List Nat)(hPQ:P*Q=65536)(hs:Dg.Small 65536 l):Dg.Small 65536 (low P Q l):=by
 intro j
 by_cases hj:j<l.length
 ·rw[Gb P Q l j hj]
  have hP:0<P:=by
   rcases Nat.eq_zero_or_pos P with e|e
   ·subst e;simp at hPQ
   ·exact e
  have h1:l.getD j 0/P<Q:=by rw[Nat.div_lt_iff_lt_mul hP,Nat.mul_comm,hPQ];exact hs j
  have h2:(l.getD (j+1) 0 % P+1)*Q≤P*Q:=Nat.mul_le_mul_right _ (Nat.mod_lt _ hP);rw[Nat.add_mul,hPQ] at h2;omega
 ·rw[Dg.getD_of_le _ _ (by rw[mA];omega)];omega
theorem aa7 (B:Nat)(hB:0<B)(xs:List Nat)(wh:Nat)(hw:wh≤xs.length)(sa:Dg.Small B xs):Dg.vl B (xs.drop wh)=Dg.vl B xs/B^wh:=by
 have hsp:=Dg.vl_take_drop B xs wh hw;have hlt:=Dg.vl_lt B (xs.take wh) (Dg.small_take sa _ hB);rw[List.length_take,Nat.min_eq_left hw] at hlt;rw[hsp,Nat.add_comm,Nat.mul_add_div (Nat.pow_pos hB),Nat.div_eq_of_lt hlt,Nat.add_zero]
theorem CF (n k L j:Nat)(h:(Dg.dg 4294967296 n).length≤L)(hk:k≤32*j):(Dg.dg 4294967296 (n*2^k)).length≤L+j:=by
 apply Dg.dg_len_le 4294967296 _ _ (by omega);have h1:=Dg.vl_lt 4294967296 (Dg.dg 4294967296 n) (Dg.small_dg _ _ (by omega));rw[Dg.vl_dg _ _ (by omega)] at h1;have h2:4294967296^ (Dg.dg 4294967296 n).length≤4294967296^L:=Nat.pow_le_pow_right (by omega) h;have h3:2^k≤4294967296^j:=by
  rw[show(4294967296:Nat)=2^32 from rfl,←Nat.pow_mul]
  exact Nat.pow_le_pow_right (by omega) (by omega)
 rw[Nat.pow_add];have h4:0<4294967296^j:=Nat.pow_pos (by omega);generalize 4294967296^j=c at*;generalize 4294967296^L=d at*;have h5:n*2^k≤n*c:=Nat.mul_le_mul_left _ h3;have h6:n*c<d*c:=Nat.mul_lt_mul_of_pos_right (by omega) h4;omega
theorem cq {w:World}{k:IntKind}{v:Value}{zs:List Nat}(h:Rd w k v zs)(hn:Dg.Norm zs){b:Nat}{ty:TypeId}{vs:List Value}(hl:au w b ty vs)(hv0: ∀x∈vs,∀n:Int,n≠0→x≠ .int k n):wF b v zs:=fun hp a n c hv=>by
 obtain⟨ao,cap,rfl,_,_,h3⟩:=h;obtain⟨g,off,rfl,hc⟩:=h3 hp
 cases hv
 have h0:=hc (zs.length-1) (by omega)
 show g≠b
 intro e;subst e;have hnn:zs.getD (zs.length-1) 0≠0:=hn (by intro h;rw[h] at hp;simp at hp);unfold World.cell? at h0;simp only at h0;rw[hl] at h0;simp only[Option.isSome_none,Bool.false_eq_true,if_false,List.getElem?_toArray] at h0;exact hv0 _ (List.mem_of_getElem? h0) _ (by omega) rfl
end Go.Proofs.YtiakgfmlpdfhdaaDoor
