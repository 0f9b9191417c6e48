/-
  Texts laid together: Ty10, Ty11, Eh1, Eh3, Eh5, Bd2, Cb2, Ty12, Ty13.
-/
import Derived.Test.YtpgijbdgljkeeaaGreatDoorUe08
import Derived.Test.YtpgijbdgljkeeaaGreatDoorUe09
namespace Go.Proofs.YtpgijbdgljkeeaaGreatDoor
open Go.RowKit
theorem dec_near {n2 d2 q T K:Nat}(hd:0<d2)(hT:T<K)(hK:d2*K≤n2)(h1:2*(q*d2)≤2*n2+d2)(h2:2*n2≤2*(q*d2)+d2):
  q*d2*(2*T)<n2*(2*T+1)∧n2*(2*T)<q*d2*(2*T)+n2:=by
 have h3:d2*T<n2:=Nat.lt_of_lt_of_le (Nat.mul_lt_mul_of_pos_left hT hd) hK;have a1:T*(2*(q*d2))≤T*(2*n2+d2):=Nat.mul_le_mul_left _ h1;have a2:T*(2*n2)≤T*(2*(q*d2)+d2):=Nat.mul_le_mul_left _ h2;have e1:q*d2*(2*T)=T*(2*(q*d2)):=by ac_rfl
 have e2:n2*(2*T)=T*(2*n2):=by ac_rfl
 have e3:T*d2=d2*T:=Nat.mul_comm _ _;rw[Nat.mul_add] at a1 a2;rw[Nat.mul_add,Nat.mul_one,e1,e2];omega
theorem near_move {A B d n2 Y T:Nat}(h:A*n2=d*B*Y)(hdB:0<d*B)(h1:Y*(2*T)<n2*(2*T+1))(h2:n2*(2*T)<Y*(2*T)+n2):
  A*(2*T)<d*B*(2*T)+d*B∧d*B*(2*T)<A*(2*T)+d*B:=by
 constructor
 ·refine Nat.lt_of_mul_lt_mul_right (a:=n2) ?_
  calc A*(2*T)*n2=A*n2*(2*T):=by ac_rfl
   _=d*B*(Y*(2*T)):=by rw[h];ac_rfl
   _<d*B*(n2*(2*T+1)):=Nat.mul_lt_mul_of_pos_left h1 hdB
   _=(d*B*(2*T)+d*B)*n2:=by rw[Nat.mul_add,Nat.mul_add,Nat.add_mul,Nat.mul_one];ac_rfl
 ·refine Nat.lt_of_mul_lt_mul_right (a:=n2) ?_
  calc d*B*(2*T)*n2=d*B*(n2*(2*T)):=by ac_rfl
   _<d*B*(Y*(2*T)+n2):=Nat.mul_lt_mul_of_pos_left h2 hdB
   _=A*n2*(2*T)+d*B*n2:=by rw[h,Nat.mul_add];ac_rfl
   _=(A*(2*T)+d*B)*n2:=by rw[Nat.add_mul];ac_rfl
theorem near_cross {N0 M0 m tz Q' Q d xn δ : Nat} {p up wk e : Int} (h1 : m * 5 ^ (-p).toNat = Q' * M0 * 5 ^ p.toNat) (h2 : N0 * 2 ^ tz = m)
  (h3 : xn * 2 ^ e.toNat * 2 ^ (-wk).toNat = d * 2 ^ wk.toNat * 2 ^ (-e).toNat) (h4 : Q' * 10 ^ δ = Q) (h5 : p + up = (δ : Int)) :
  N0 * 2 ^ (p + (tz : Int) - wk).toNat * (xn * 2 ^ e.toNat * 10 ^ up.toNat) = d * (M0 * 2 ^ (-(p + (tz : Int) - wk)).toNat) * (Q * (2 ^ (-e).toNat * 10 ^ (-up).toNat)) := by
 obtain ⟨pp, i1⟩ : ∃ k, p.toNat = k := ⟨_, rfl⟩
 obtain ⟨pm, i2⟩ : ∃ k, (-p).toNat = k := ⟨_, rfl⟩
 obtain ⟨wp, i3⟩ : ∃ k, wk.toNat = k := ⟨_, rfl⟩
 obtain ⟨wm, i4⟩ : ∃ k, (-wk).toNat = k := ⟨_, rfl⟩
 obtain ⟨ep, i5⟩ : ∃ k, e.toNat = k := ⟨_, rfl⟩
 obtain ⟨em, i6⟩ : ∃ k, (-e).toNat = k := ⟨_, rfl⟩
 obtain ⟨u, i7⟩ : ∃ k, up.toNat = k := ⟨_, rfl⟩
 obtain ⟨v, i8⟩ : ∃ k, (-up).toNat = k := ⟨_, rfl⟩
 obtain ⟨np, i9⟩ : ∃ k, (p + (tz : Int) - wk).toNat = k := ⟨_, rfl⟩
 obtain ⟨nm, i10⟩ : ∃ k, (-(p + (tz : Int) - wk)).toNat = k := ⟨_, rfl⟩
 rw [i1, i2] at h1
 rw [i3, i4, i5, i6] at h3
 rw [i5, i6, i7, i8, i9, i10]
 have a1 : pp + u = δ + pm + v := by omega
 have a2 : np + wp + pm = nm + tz + wm + pp := by omega
 clear i1 i2 i3 i4 i5 i6 i7 i8 i9 i10 h5
 subst h4
 have hc : 0 < 2 ^ tz * 5 ^ pm * 2 ^ wm * 2 ^ pp := by
  have := fun k : Nat => Nat.pow_pos (n := k) (show 0 < 2 by omega)
  have := fun k : Nat => Nat.pow_pos (n := k) (show 0 < 5 by omega)
  simp [Nat.mul_pos_iff_of_pos_left, *]
 refine Nat.eq_of_mul_eq_mul_right hc ?_
 have l : N0 * 2 ^ np * (xn * 2 ^ ep * 10 ^ u) * (2 ^ tz * 5 ^ pm * 2 ^ wm * 2 ^ pp) = (N0 * 2 ^ tz) * 5 ^ pm * (xn * 2 ^ ep * 2 ^ wm) * (2 ^ np * 10 ^ u * 2 ^ pp) := by ac_rfl
 rw [l, h2, h1, h3]
 have l2 : Q' * M0 * 5 ^ pp * (d * 2 ^ wp * 2 ^ em) * (2 ^ np * 10 ^ u * 2 ^ pp) = Q' * M0 * d * 2 ^ em * (2 ^ wp * 2 ^ np) * ((2 ^ pp * 5 ^ pp) * 10 ^ u) := by ac_rfl
 have r : d * (M0 * 2 ^ nm) * (Q' * 10 ^ δ * (2 ^ em * 10 ^ v)) * (2 ^ tz * 5 ^ pm * 2 ^ wm * 2 ^ pp) = Q' * M0 * d * 2 ^ em * (2 ^ nm * 2 ^ tz * 2 ^ wm * 2 ^ pp * 5 ^ pm) * (10 ^ δ * 10 ^ v) := by ac_rfl
 rw [l2, r, ← ten_parts, ← Nat.pow_add, ← Nat.pow_add, a1, Nat.pow_add 10 (δ + pm), Nat.pow_add 10 δ, ten_parts pm, ← Nat.pow_add 2 nm tz, ← Nat.pow_add, ← Nat.pow_add, ← a2, Nat.pow_add 2 (np + wp), Nat.add_comm np wp]
 ac_rfl
theorem dec_digit {d:Nat}(h:d<10):(UInt8.ofNat (48+d)).toNat=48+d:=by
 rw[UInt8.toNat_ofNat'];omega
theorem decDig_all (n:Nat):(∀b∈Lib.decDigits n,isDg b=true)∧lvD (Lib.decDigits n)=n∧Lib.decDigits n≠[]:=by
 induction n using Nat.strongRecOn with
 |_ n ih=>
  by_cases h:n<10
  ·rw[Lib.decDigits_one h]
   refine⟨fun b hb=> ?_, ?_,by simp⟩
   ·obtain rfl:b=UInt8.ofNat (48+n):=by simpa using hb
    unfold isDg;rw[dec_digit h];exact decide_eq_true ⟨by omega,by omega⟩
   ·have:=lvD_snoc [] (UInt8.ofNat (48+n))
    rw[List.nil_append,dec_digit h] at this;rw[this]
    show 0*10+(48+n-48)=n
    omega
  ·rw[Lib.decDigits,dif_neg h]
   obtain⟨i1,i2,i3⟩:=ih (n/10) (by omega);refine⟨fun b hb=> ?_, ?_,by simp⟩
   ·rcases List.mem_append.1 hb with c|c
    ·exact i1 b c
    ·obtain rfl:b=UInt8.ofNat (48+n % 10):=by simpa using c
     unfold isDg;rw[dec_digit (Nat.mod_lt _ (by omega))];exact decide_eq_true ⟨by omega,by omega⟩
   ·rw[lvD_snoc,i2,dec_digit (Nat.mod_lt _ (by omega))]
    omega
theorem decDig_five {n:Nat}(h:n<100000):(Lib.decDigits n).length≤5:=by
 rw[Lib.decDigits_length]
 rcases Nat.lt_or_ge n 10 with c|c
 ·rw[Lib.nDigits_small c];omega
 rw[Lib.nDigits_big (by omega)]
 rcases Nat.lt_or_ge (n/10) 10 with c1|c1
 ·rw[Lib.nDigits_small c1];omega
 rw[Lib.nDigits_big (by omega)]
 rcases Nat.lt_or_ge (n/10/10) 10 with c2|c2
 ·rw[Lib.nDigits_small c2];omega
 rw[Lib.nDigits_big (by omega)]
 rcases Nat.lt_or_ge (n/10/10/10) 10 with c3|c3
 ·rw[Lib.nDigits_small c3];omega
 rw[Lib.nDigits_big (by omega),Lib.nDigits_small (by omega)];omega
theorem head_dig {l:List UInt8}(h: ∀b∈l,isDg b=true)(r:List UInt8)(hl:l≠[]):(l++r).head? ≠some 45:=by
 cases l with
 |nil=>exact absurd rfl hl
 |cons a l=>
  intro c;obtain rfl:a=45:=by simpa using c
  exact absurd (h 45 (by simp)) (by decide)
theorem rpL_itoa {p:Int}(h1: -100000<p)(h2:p<100000):rpL (Lib.itoa p)=some p:=by
 unfold rpL Lib.itoa
 by_cases h:p<0
 ·rw[if_pos h]
  obtain⟨i1,i2,i3⟩:=decDig_all p.natAbs;simp only[List.head?_cons,decide_true,if_true,List.tail_cons];rw[if_pos ⟨decDig_five (by omega),i3,i1⟩,i2]
  congr 1
  omega
 ·rw[if_neg h]
  obtain⟨i1,i2,i3⟩:=decDig_all p.toNat;have:=head_dig i1 [] i3;rw[List.append_nil] at this;simp only[decide_eq_false this,Bool.false_eq_true,if_false];rw[if_pos ⟨decDig_five (by omega),i3,i1⟩,i2]
  congr 1
  omega
theorem nmL_print {S:List UInt8}(hS: ∀b∈S,isDg b=true)(h0:S≠[]){N:Int}(h1: -100000<N)(h2:N<100000):
  nmL ((if 1<S.length then S.take 1++46::S.drop 1 else S)++101::Lib.itoa N)=some (S,N-((S.length-1:Nat):Int)):=by
 have n46:(46:UInt8)∉S:=dig_ne (by decide) hS;have n101:(101:UInt8)∉S:=dig_ne (by decide) hS;have hb:(101:UInt8)∉(if 1<S.length then S.take 1++46::S.drop 1 else S):=by
  split
  ·intro c
   rcases List.mem_append.1 c with c|c
   ·exact n101 (List.mem_of_mem_take c)
   ·rcases List.mem_cons.1 c with c|c
    ·exact absurd c (by decide)
    ·exact n101 (List.mem_of_mem_drop c)
  ·exact n101
 unfold nmL;rw[cutc_app 101 _ _ hb];simp only
 by_cases hk:1<S.length
 ·rw[if_pos hk,cutc_app 46 (S.take 1) (S.drop 1) (fun c=>n46 (List.mem_of_mem_take c))]
  simp only;rw[List.take_append_drop];have hd:S.drop 1≠[]:=fun c=>by
   have:=congrArg List.length c;rw[List.length_drop,List.length_nil] at this;omega
  rw[if_neg (by rintro(c|c|c);exact h0 c;exact c hS;exact hd c.2),if_true,rpL_itoa h1 h2,List.length_drop]
  rfl
 ·rw[if_neg hk,cutc_none 46 S n46]
  simp only;rw[List.append_nil,if_neg (by rintro(c|c|c);exact h0 c;exact c hS;cases c.1),if_true,rpL_itoa h1 h2]
  have:S.length-1=0:=by omega
  rw[this];rfl
theorem nuS_list (g:Bool)(S:ByteArray)(ia:List UInt8)(h0:S.size≠0):
  (nuS g S ⟨ia.toArray⟩).data.toList=(if g=true then[45] else[])++((if 1<S.data.toList.length then S.data.toList.take 1++46::S.data.toList.drop 1 else S.data.toList)++101::ia):=by
 have hP:(nuP S).data.toList=(if 1<S.data.toList.length then S.data.toList.take 1++46::S.data.toList.drop 1 else S.data.toList):=by
  unfold nuP;rw[←size_list];have hs:S.data.size=S.size:=rfl
  by_cases c:1<S.size
  ·rw[if_pos c,if_pos c]
   simp[ByteArray.data_append,ByteArray.data_extract,List.extract];rw[List.take_of_length_le];rw[List.length_tail,Array.length_toList,hs];omega
  ·rw[if_neg c,if_neg c]
   have:S.size=1:=by omega
   simp[ByteArray.data_extract,List.extract];rw[List.take_of_length_le];rw[Array.length_toList,hs];omega
 unfold nuS nuG
 cases g
 ·rw[if_neg (by decide),if_neg (by decide)]
  simp[ByteArray.data_append,hP]
 ·rw[if_pos rfl,if_pos rfl]
  simp[ByteArray.data_append,hP]
theorem nuS_nm (g:Bool)(S:ByteArray)(N:Int)(hS: ∀b∈S.data.toList,isDg b=true)(h0:1≤S.size)(h60:S.size≤60)(h1: -5900<N)(h2:N<5900):
  nmV (nuS g S ⟨(Lib.itoa N).toArray⟩)=((g,S,N-((S.size-1:Nat):Int)),0):=by
 have hl:=nuS_list g S (Lib.itoa N) (by omega);obtain⟨t,ht⟩: ∃t,nuS g S ⟨(Lib.itoa N).toArray⟩=t:=⟨_,rfl⟩;rw[ht] at hl⊢;obtain⟨L,hL⟩: ∃L,S.data.toList=L:=⟨_,rfl⟩;rw[hL] at hl hS;have hLn:L.length=S.size:=by rw[←hL,←size_list]
 have hL0:L≠[]:=fun c=>by rw[c] at hLn;simp at hLn;omega
 obtain⟨R,hR⟩: ∃R,(if 1<L.length then L.take 1++46::L.drop 1 else L)++101::Lib.itoa N=R:=⟨_,rfl⟩
 have hn:=nmL_print hS hL0 (N:=N) (by omega) (by omega);rw[hR] at hl hn;have hRh:R.head? ≠some 45:=by
  rw[←hR]
  split
  ·rw[List.append_assoc]
   refine head_dig (fun b hb=>hS b (List.mem_of_mem_take hb)) _ (fun c=> ?_)
   have:=congrArg List.length c;rw[List.length_take,List.length_nil] at this;omega
  ·exact head_dig hS _ hL0
 have ht2:t=⟨((if g=true then[45] else[])++R).toArray⟩:=by rw[←hl,mk_list]
 have hil:=Lib.itoa_length_le N (by omega) (by omega);have hsz:t.size≤400:=by
  rw[size_list,hl,List.length_append,←hR,List.length_append,List.length_cons];have:(if 1<L.length then L.take 1++46::L.drop 1 else L).length≤62:=by
   split
   ·rw[List.length_append,List.length_cons,List.length_take,List.length_drop];omega
   ·omega
  have:(if g=true then[(45:UInt8)] else[]).length≤1:=by split<;>simp
  omega
 obtain⟨d1,d2⟩:=dash_list ((if g=true then[45] else[])++R)
 rw[←ht2] at d1 d2;have hg:decide (((if g=true then[(45:UInt8)] else[])++R).head? =some 45)=g:=by
  cases g
  ·exact decide_eq_false hRh
  ·rfl
 have hu:(undash t).data.toList=R:=by
  rw[d2,hg]
  cases g<;>rfl
 rw[nm_list t hsz,hu,hn];simp only;rw[if_neg (by omega),d1,hg,hLn,←hL,mk_list]
theorem dgS_val {x:ak}{k:Nat}(hx:x.n<2^64)(e1: -16500≤x.e)(e2:x.e≤16500)(h0:x.n≠0)(hk1:1≤k)(hk2:k≤60):
  (∀b∈(dgS x k).data.toList,isDg b=true)∧ ∃δ:Nat,δ≤1∧prN (dcH x) (dcC x) (dcP x) k=dcP x+(δ:Int)∧lvD (dgS x k).data.toList*10^δ=prQ (dcH x) (dcC x) k∧lvD (dgS x k).data.toList≠0:=by
 obtain⟨d1,d2,d3,d4,d5⟩:=dc_all hx e1 e2 h0;have hQ1:=prQ_ge (k:=k) (dcH_low hx e1 e2 h0) hk1 (by omega);have hQ2:prQ (dcH x) (dcC x) k≤10^k:=prQ_le d1 (by omega);unfold dgS prN;obtain⟨Q,hQ⟩: ∃Q,prQ (dcH x) (dcC x) k=Q:=⟨_,rfl⟩;rw[hQ] at hQ1 hQ2⊢;obtain⟨i1,i2,i3⟩:=decDig_all Q;have hT:(oW Q).data.toList=Lib.decDigits Q:=by rw[decS_list]
 have hp:0<10^ (k-1):=Nat.pow_pos (by omega)
 by_cases c:k< (oW Q).size
 ·rw[if_pos c,if_pos c]
  have hs:(oW Q).size=(Lib.decDigits Q).length:=by rw[size_list,hT]
  have hsl:(oW Q).size≤k+1:=decS_le (Nat.lt_of_le_of_lt hQ2 (Nat.pow_lt_pow_right (by omega) (by omega))) (by omega);have hge:10^k≤Q:=by
   have:=decS_low (W:=Q) (by omega)
   rwa [show(oW Q).size-1=k by omega] at this
  have hQk:Q=10^k:=by omega
  have hk10:10^k=10^ (k-1)*10:=by rw[←Nat.pow_succ];congr 1;omega
  have h10: ¬Q<10:=by omega
  have hl:((oW Q).extract 0 k).data.toList=Lib.decDigits (Q/10):=by
   rw[ByteArray.data_extract,Array.toList_extract,List.extract,List.drop_zero,Nat.sub_zero,hT,Lib.decDigits,dif_neg h10];have:(Lib.decDigits (Q/10)).length=k:=by
    rw[Lib.decDigits,dif_neg h10,List.length_append,List.length_singleton] at hs;omega
   rw[←this,List.take_left'];rfl
  obtain⟨j1,j2,j3⟩:=decDig_all (Q/10);rw[hl,j2];exact⟨j1,1,by omega,rfl,by omega,by omega⟩
 ·rw[if_neg c,if_neg c,hT,i2]
  exact⟨i1,0,by omega,by omega,by omega,by omega⟩
theorem ten_move {a b:Nat}{P:Int}(h: ¬a*10^ (-P).toNat<b*10^P.toNat){k:Nat}(hk:1≤k):b*10^ (-((k:Int)-1-P)).toNat*10^ (k-1)≤a*10^ ((k:Int)-1-P).toNat:=by
 obtain⟨pp,i1⟩: ∃k,P.toNat=k:=⟨_,rfl⟩;obtain⟨pm,i2⟩: ∃k,(-P).toNat=k:=⟨_,rfl⟩;obtain⟨u,i7⟩: ∃j,((k:Int)-1-P).toNat=j:=⟨_,rfl⟩;obtain⟨v,i8⟩: ∃j,(-((k:Int)-1-P)).toNat=j:=⟨_,rfl⟩;rw[i1,i2] at h;rw[i7,i8];have a1:v+(k-1)+pm=u+pp:=by omega
 refine Nat.le_of_mul_le_mul_right (c:=10^pp) ?_ (Nat.pow_pos (by omega))
 calc b*10^v*10^ (k-1)*10^pp=b*10^pp*10^ (v+(k-1)):=by rw[Nat.pow_add];ac_rfl
  _≤a*10^pm*10^ (v+(k-1)):=Nat.mul_le_mul_right _ (by omega)
  _=a*10^ (v+(k-1)+pm):=by rw[Nat.pow_add 10 (v+(k-1))];ac_rfl
  _=a*10^u*10^pp:=by rw[a1,Nat.pow_add];ac_rfl
theorem tz_five {n:Nat}(h:n≠0)(k:Nat):tz (n*5^k)=tz n:=by
 obtain⟨h1,h2⟩:=odd_of h;have h3:=five_odd _ h1 k;have h4:=(odd_two (t:=tz n) h3).1;rw[show n/2^tz n*5^k*2^tz n=n/2^tz n*2^tz n*5^k by ac_rfl,←h2] at h4
 exact h4
theorem raV_in {t:ByteArray}(h:raE t=0):(Dg.dg 4294967296 (raV t).2.1).length≤1200∧(Dg.dg 4294967296 (raV t).2.2.1).length≤1200∧(raV t).2.2.1≠0∧ -20000≤(raV t).2.2.2∧(raV t).2.2.2≤20000∧(Dg.dg 65536 (raV t).2.1).length≤20000∧(Dg.dg 65536 (raV t).2.2.1).length≤20000:=by
 obtain⟨h1,h2,h3,h4⟩:=nmV_zero h;have hdig:=((digB_iff _).1 h2).2;obtain⟨a,ha⟩: ∃a,a=1600:=⟨_,rfl⟩;have hN:pv (nmV t).1.2.1 (nmV t).1.2.1.size<2^a:=Nat.lt_of_lt_of_le (Tb _ hdig _ (Nat.le_refl _)) (Nat.le_trans (pow10_two _) (Nat.pow_le_pow_right (by omega) (by omega)));unfold raV nrV
 split
 ·refine⟨by decide,by decide,by decide,by decide,by decide,by decide,by decide⟩
 ·rename_i h0
  obtain⟨m0,mlt⟩:=nrM_in (p:=(nmV t).1.2.2) h0 hN h4;have k1:=Nat.div_le_self (nrM (pv (nmV t).1.2.1 (nmV t).1.2.1.size) (nmV t).1.2.2).1 (2^tz (nrM (pv (nmV t).1.2.1 (nmV t).1.2.1.size) (nmV t).1.2.2).1);obtain⟨c,hc⟩: ∃c,c=18000:=⟨_,rfl⟩;have k2:(nrM (pv (nmV t).1.2.1 (nmV t).1.2.1.size) (nmV t).1.2.2).2≤2^c∧(nrM (pv (nmV t).1.2.1 (nmV t).1.2.1.size) (nmV t).1.2.2).2≠0:=by
   unfold nrM
   split
   ·exact⟨Nat.pow_pos (by omega),Nat.one_ne_zero⟩
   ·refine⟨Nat.le_trans (pow5_two _) (Nat.pow_le_pow_right (by omega) ?_),Nat.ne_of_gt (Nat.pow_pos (by omega))⟩
    have:=(redF_le (-(nmV t).1.2.2).toNat (pv (nmV t).1.2.1 (nmV t).1.2.1.size)).2;omega
  have k3:(nmV t).1.2.2+(tz (nrM (pv (nmV t).1.2.1 (nmV t).1.2.1.size) (nmV t).1.2.2).1:Int)≤20000:=by
   by_cases hp:0< (nmV t).1.2.2
   ·have e:(nrM (pv (nmV t).1.2.1 (nmV t).1.2.1.size) (nmV t).1.2.2).1=pv (nmV t).1.2.1 (nmV t).1.2.1.size*5^ (nmV t).1.2.2.toNat:=by
     unfold nrM;rw[if_pos hp]
    rw[e,tz_five h0];have:=tz_bits h0 hN;omega
   ·have:=tz_bits m0 mlt
    omega
  have l1:(Dg.dg 4294967296 ((nrM (pv (nmV t).1.2.1 (nmV t).1.2.1.size) (nmV t).1.2.2).1/2^tz (nrM (pv (nmV t).1.2.1 (nmV t).1.2.1.size) (nmV t).1.2.2).1)).length≤1200:=jq (Nat.lt_of_le_of_lt k1 mlt) (by omega);have l2:(Dg.dg 4294967296 (nrM (pv (nmV t).1.2.1 (nmV t).1.2.1.size) (nmV t).1.2.2).2).length≤1200:=jq (k:=c+1) (Nat.lt_of_le_of_lt k2.1 (Nat.pow_lt_pow_right (by omega) (by omega))) (by omega);exact⟨l1,l2,k2.2,by show _≤(nmV t).1.2.2+_;omega,k3,UI (k:=a+18000) (Nat.le_of_lt (Nat.lt_of_le_of_lt k1 mlt)) (by omega),UI (k:=c) k2.1 (by omega)⟩
theorem ra_fine {t:ByteArray}(h:raE t=0):eA (Dg.dg 4294967296 (raV t).2.1) (Dg.dg 4294967296 (raV t).2.2.1) (raV t).2.2.2=0:=by
 obtain⟨l1,l2,m0,e1,e2,-,-⟩:=raV_in h;unfold eA;rw[if_pos (pJ (Dg.norm_dg _ _ (by omega)) l1),if_pos (pJ (Dg.norm_dg _ _ (by omega)) l2),if_neg];rintro(c|c)
 ·exact m0 ((Dg.dg_nil_iff 4294967296 _ (by omega)).1 (List.length_eq_zero_iff.1 c))
 ·unfold eJ at c
  simp at c;omega
def dyC (t:ak)(v:Value):List Value:=(ydL t.s v t.e)
def RowAt (w:World)(g:Option Nat)(v:Value)(zs:List Nat):Prop:=Rd w .u32 v zs∧ ∀b,g=some b→wF b v zs
theorem RowAt.l {w w':World}{g:Option Nat}{v:Value}{zs:List Nat}(h:RowAt w g v zs)(hb:yB w w'):RowAt w' g v zs:=⟨h.1.l hb,h.2⟩
theorem RowAt.grow {w w':World}{g g':Option Nat}{v:Value}{zs:List Nat}(h:RowAt w g v zs)(hg:w.grownBy w' g)(hat:g'=g∨g'=some w.heap.size):RowAt w' g' v zs:=by
 obtain⟨k2,k3⟩:=h;refine⟨?_,fun b hb=> ?_⟩
 ·cases g with
  |none=>exact k2.l ⟨hg.os,hg.tape,hg.output,hg.size,fun j hj=>hg.block j hj (fun e=>nomatch e)⟩
  |some b=>exact Nx k2 hg (k3 b rfl)
 ·rcases hat with e|e
  ·exact k3 b (by rw[←e];exact hb)
  ·have hbw:b=w.heap.size:=by
    rw[e] at hb;exact(Option.some.inj hb).symm
   exact t9 k2 (by omega)
theorem RowAt.new {w w':World}{g:Option Nat}{v:Value}{zs:List Nat}(h:Rd w' .u32 v zs)(hf:Far w.heap.size v)(hl: ∀b,g=some b→b<w.heap.size):RowAt w' g v zs:=
 ⟨h,fun b hb _ a n c hv=>by
  have:=hf a n c hv;have:=hl b hb;omega⟩
def DysAt (w:World)(g:Option Nat):List ak→List Value→Prop
 | [],cs=>cs=[]
 |t::ts,cs=> ∃so sc rest,cs=dyC t (yT so t.n sc)++rest∧RowAt w g (yT so t.n sc) (Dg.dg 4294967296 t.n)∧DysAt w g ts rest
theorem DysAt.mono {w w':World}{g g':Option Nat}(h: ∀v zs,RowAt w g v zs→RowAt w' g' v zs): ∀{ts:List ak} {cs:List Value},DysAt w g ts cs→DysAt w' g' ts cs
 | [],_,hc=>hc
 |_::_,_,hc=>by
  obtain⟨so,sc,rest,h1,h2,h3⟩:=hc;exact⟨so,sc,rest,h1,h _ _ h2,DysAt.mono h h3⟩
def HdI (base:Nat)(ts:List ak)(lv:Value)(w:World):Prop:= ∃cs,w.ownsRow base 95 3 lv ts.length cs∧DysAt w lv.ownBlock ts cs
theorem HdI.l {base:Nat}{ts:List ak}{lv:Value}{w w':World}(h:HdI base ts lv w)(hb:yB w w'):HdI base ts lv w':=by
 obtain⟨cs,h1,h2⟩:=h;exact⟨cs,zZ h1 hb,h2.mono (fun _ _ k=>k.l hb)⟩
theorem HdI.lt {base:Nat}{ts:List ak}{lv:Value}{w:World}(h:HdI base ts lv w)(b:Nat)(hb:lv.ownBlock=some b):base≤b∧b<w.heap.size:=by
 obtain⟨cs,h1,-⟩:=h;exact World.ownsRow.lt h1 b hb
theorem HdI.wider {base base':Nat}{ts:List ak}{lv:Value}{w:World}(h:HdI base ts lv w)(hb:base'≤base):HdI base' ts lv w:=by
 obtain⟨cs,h1,h2⟩:=h;exact⟨cs,Hv h1 hb,h2⟩
theorem DysAt.len {w:World}{g:Option Nat}: ∀{ts:List ak} {cs:List Value},DysAt w g ts cs→cs.length=ts.length*3
 | [],cs,hc=>by
  have:cs=[]:=hc;subst this;rfl
 |t::ts,cs,hc=>by
  obtain⟨so,sc,rest,h1,h2,h3⟩:=hc;have:=DysAt.len h3;subst h1;simp[dyC];omega
structure DysV (w:World) (ts:List ak) (g cap:Nat):Prop where
 fit:ts.length≤cap
 most:cap≤maxLen
 each: ∀(i:Nat) t,ts[i]? =some t→ ∃so sc,w.rangeAt g (i*3) (dyC t (yT so t.n sc))∧Rd w .u32 (yT so t.n sc) (Dg.dg 4294967296 t.n)
theorem DysV.l {w w':World}{ts:List ak}{g cap:Nat}(h:DysV w ts g cap)(hb:yB w w'):DysV w' ts g cap:=
 ⟨h.fit,h.most,fun i t ht=>by
  obtain⟨so,sc,h1,h2⟩:=h.each i t ht;exact⟨so,sc,aC h1 hb,h2.l hb⟩⟩
def hdB (nb:Nat→Int→ak)(L G:Int)(d i:Nat):List ak:=[nb d (L+(i:Int)),nb d (G-(i:Int))]
def hdD (nb:Nat→Int→ak)(L G:Int)(d:Nat):Nat→List ak
 |0=>[]
 |i+1=>hdD nb L G d i++hdB nb L G d i
def hdF (nb:Nat→Int→ak)(L G:Int)(U:Nat)(ts:List ak):Nat→List ak
 |0=>ts
 |i+1=>hdF nb L G U ts i++hdD nb L G (U*2^i+1) 4
def HdW (w:World)(lv one up:Value)(U:Nat)(cs:List Value)(ts:List ak)(wr:World):Prop:=
 yB w wr∧au wr w.heap.size 40 cs∧HdI (w.heap.size+1) ts lv wr∧RowAt wr lv.ownBlock one [1]∧RowAt wr lv.ownBlock up (Dg.dg 4294967296 U)
theorem HdW.l {w wr w':World}{lv one up:Value}{U:Nat}{cs:List Value}{ts:List ak}(h:HdW w lv one up U cs ts wr)(hb:yB wr w'):HdW w lv one up U cs ts w':=
 ⟨aa h.1 hb,h.2.1.l hb,h.2.2.1.l hb,h.2.2.2.1.l hb,h.2.2.2.2.l hb⟩
theorem HdW.lt {w wr:World}{lv one up:Value}{U:Nat}{cs:List Value}{ts:List ak}(h:HdW w lv one up U cs ts wr)(b:Nat)(hb:lv.ownBlock=some b):w.heap.size+1≤b∧b<wr.heap.size:=h.2.2.1.lt b hb
theorem HdW.grow {w wr w':World}{lv v' one up:Value}{U:Nat}{cs:List Value}{ts us:List ak}(h:HdW w lv one up U cs ts wr)(hg:wr.grownBy w' lv.ownBlock)(hat:v'.ownBlock=lv.ownBlock∨v'.ownBlock=some wr.heap.size)(hn:HdI (w.heap.size+1) us v' w'):HdW w v' one up U cs us w':=by
 have hl:=h.lt;obtain⟨h1,h2,h3,h4,h5⟩:=h;exact⟨h1.grown hg h1.size (fun g hg=>by have:=hl g hg;omega),h2.grownO hg (fun g hg=>by have:=hl g hg;omega),hn,h4.grow hg hat,h5.grow hg hat⟩
def nbT (k d:Nat)(p:Int):ak:=(cC (ix (Dg.dg 4294967296 d) p (rdN k) (dgN k) (lsI k) (gsI k)) ⟨false,Dg.vl 4294967296 (Dg.dg 4294967296 d),(ai (rdN k):Int)*p⟩).1
def hdL (k:Nat):List ak:=hdF (nbT k) (lsI k) (gsI k) (rdN k^ (dgN k-1)) (if decide (k≤3)=true then[nbT k 1 (lsI k)] else[]) (ai (rdN k))
theorem dec_of {k:Nat}(hk:1≤k∧k≤8){c:Int}{g:Bool}{m:Nat}{p fl:Int}(h:(Dw k c g m p fl).2.2=0):
  dF k (Dw k c g m p fl).1=0∧((bM k (Dw k c g m p fl).1:Nat):Int)=c∧dz k (Dw k c g m p fl).1=g∧opT k (Dw k c g m p fl).1=if c=2 then bare ⟨g,m,(ai (rdN k):Int)*p⟩ else⟨false,0,0⟩:=by
 unfold Dw at h⊢
 by_cases he:gI k c g (Dg.dg 4294967296 m) p=0
 rotate_left
 ·rw[if_neg he] at h
  exact absurd h he
 rw[if_pos he];obtain⟨e1,e2,e3,e4,e5,e6,e7⟩:=oJ hk (Dg.small_dg _ _ (by omega)) he;simp only;have hp:=nj hk e1;refine⟨hp, ?_, ?_, ?_⟩
 ·unfold bM
  rw[if_pos hp,Int.toNat_natCast];exact e2
 ·unfold dz
  rw[if_pos hp,Int.toNat_natCast];exact e3
 ·unfold opT nxT
  rw[if_pos hp,Int.toNat_natCast]
  by_cases hc:c=2
  ·rw[if_pos hc]
   obtain⟨-,f1,f2,f3⟩:=e6 hc;rw[iq hk e4 e5 (by omega),wQ hk,f1,f3,Dg.vl_dg _ _ (by omega)]
  ·rw[if_neg hc]
   exact Fm hk (by omega)
theorem num_back {k:Nat}(hk:1≤k∧k≤8){s:ByteArray}(hp:dF k s=0)(hc:bM k s=2)(he:gI k 2 (dz k s) (Dg.dg 4294967296 (gJ k s)) (iF k s)=0):
  iZ (opT k s)∧(opT k s).n≠0∧bare (opT k s)=opT k s∧dA (rdN k) (dgN k) (lsI k) (gsI k) (decide (k≤3)) (opT k s).n (opT k s).e=true∧
   ∀way,1≤way∧way≤5→ ∀g,cvT k way 2 g (opT k s)=(fq k 2 (dz k s) (Dg.dg 4294967296 (gJ k s)) (iF k s),0,0):=by
 obtain⟨sx,-,n2⟩:=ir hk hp;obtain⟨h0,hs,hb⟩:=G5 hk hp hc;have hM:chk (Dg.dg 4294967296 (gJ k s))=0:=by
  have:=(oJ hk (Dg.small_dg _ _ (by omega)) he).2.2.2.2.2.1 rfl;exact this.1
 have hE:=he;rw[(xH hk hM).1] at hE;obtain⟨-,hh,-⟩:=Jo hk (Dg.small_dg _ _ (by omega)) hM hE;rw[Dg.vl_dg _ _ (by omega),hb] at hh;have hbb:bare (opT k s)=opT k s:=by rw[←hb,iH]
 refine⟨sx,h0,hbb,hh,fun way hw g=> ?_⟩
 have ha:=OC hk way g (opT k s) 0 h0 hh (Dg.small_dg _ _ (by omega)) hM (by rw[hs];exact hE) (by rw[hs,Dg.vl_dg _ _ (by omega),hb,hbb]);unfold m8 at ha;rw[if_pos rfl,or_set] at ha;unfold cvT;rw[if_pos rfl,fit_num hk hw sx h0,ha,hs];rfl
theorem redF_keep: ∀k n,(redF n k).1*5^k=n*5^ (redF n k).2
 |0,n=>rfl
 |k+1,n=>by
  unfold redF
  by_cases h:n % 5=0
  ·rw[if_pos h,Nat.pow_succ,←Nat.mul_assoc,redF_keep k (n/5),Nat.mul_right_comm]
   congr 1
   omega
  ·rw[if_neg h]
theorem bare_parts {g:Bool}{d:Nat}{e:Int}{x:ak}(hd:d≠0)(h:bare ⟨g,d,e⟩=x):d=x.n*2^tz d∧x.e=e+(tz d:Int)∧x.s=g:=by
 subst h;unfold bare;rw[if_neg hd];exact⟨(odd_of hd).2,rfl,rfl⟩
theorem dg_len0 {B n:Nat}(hB:2≤B):(Dg.dg B n).length=0↔n=0:=by rw[List.length_eq_zero_iff,Dg.dg_nil_iff B _ hB]
theorem ps_fit {k:Nat}(hk:1≤k∧k≤8){t:ByteArray}(he:raE t=0)(hN:(raV t).2.1≠0):
  psV k t 1=Dw k (pG k 1 (cI (rdN k) (dgN k) (lsI k) (gsI k) (decide (k≤3)) (raV t).1 (raV t).2.1 (raV t).2.2.1 (raV t).2.2.2 1)).1 (pG k 1 (cI (rdN k) (dgN k) (lsI k) (gsI k) (decide (k≤3)) (raV t).1 (raV t).2.1 (raV t).2.2.1 (raV t).2.2.2 1)).2.1 (pG k 1 (cI (rdN k) (dgN k) (lsI k) (gsI k) (decide (k≤3)) (raV t).1 (raV t).2.1 (raV t).2.2.1 (raV t).2.2.2 1)).2.2.1 (pG k 1 (cI (rdN k) (dgN k) (lsI k) (gsI k) (decide (k≤3)) (raV t).1 (raV t).2.1 (raV t).2.2.1 (raV t).2.2.2 1)).2.2.2.1 (pG k 1 (cI (rdN k) (dgN k) (lsI k) (gsI k) (decide (k≤3)) (raV t).1 (raV t).2.1 (raV t).2.2.1 (raV t).2.2.2 1)).2.2.2.2:=by
 have hg:=(eR hk).2.2.2.2.2.2.2.2.2.2.2;have hf:dK k≠0:=by rcases qt hk with h|h|h<;>omega
 have e0:eE (Dg.dg 4294967296 (raV t).2.1) (Dg.dg 4294967296 (raV t).2.2.1) (raV t).2.2.2 (rdN k) (dgN k) (lsI k) (gsI k) 1=0:=by rw[Bq (ra_fine he) hg,if_pos (by decide)]
 have hp:df (Dg.dg 4294967296 (raV t).2.1) (Dg.dg 4294967296 (raV t).2.2.1) (raV t).2.2.2 (rdN k) (dgN k) (lsI k) (gsI k) (decide (k≤3)) (raV t).1 1=if(Dg.dg 4294967296 (raV t).2.1).length=0 then⟨false,0,0,true,false,false⟩ else cI (rdN k) (dgN k) (lsI k) (gsI k) (decide (k≤3)) (raV t).1 (Dg.vl 4294967296 (Dg.dg 4294967296 (raV t).2.1)) (Dg.vl 4294967296 (Dg.dg 4294967296 (raV t).2.2.1)) (raV t).2.2.2 1:=if_pos e0
 rw[Dg.vl_dg _ _ (by omega),Dg.vl_dg _ _ (by omega),if_neg (fun c=>hN ((dg_len0 (by omega)).1 c))] at hp
 unfold psV;rw[if_neg hf,if_neg (fun c=>c he),Int.toNat_natCast]
 unfold fitT;rw[if_pos e0,hp]
theorem print_ra {x:ak}{j:Nat}(hx:x.n<2^64)(e1: -16500≤x.e)(e2:x.e≤16500)(h0:x.n≠0)(j1:1≤j)(j2:j≤60):
  raE (prR x.s (dcH x) (dcC x) (dcP x) j)=0∧ ∃(δ Q' m M0:Nat) (p:Int),p+((j:Int)-1-dcP x)=(δ:Int)∧Q'*10^δ=prQ (dcH x) (dcC x) j∧m≠0∧M0≠0∧m*5^ (-p).toNat=Q'*M0*5^p.toNat∧raV (prR x.s (dcH x) (dcC x) (dcP x) j)=(x.s,m/2^tz m,M0,p+(tz m:Int)):=by
 obtain⟨s1,s2⟩:=prR_nm x.s hx e1 e2 h0 j1 j2;obtain⟨v1,δ,v2,v3,v4,v5⟩:=dgS_val hx e1 e2 h0 j1 j2;have hP:=dcP_in hx e1 e2 h0;have nm:=nuS_nm x.s (dgS x j) (prN (dcH x) (dcC x) (dcP x) j) v1 (by omega) (by omega) (by omega) (by omega);rw[←s2] at nm;have hpv:pv (dgS x j) (dgS x j).size=lvD (dgS x j).data.toList:=by
  have:=pv_all (dgS x j).data.toList
  rwa [mk_list,←size_list] at this
 have e0:raE (prR x.s (dcH x) (dcC x) (dcP x) j)=0:=by
  unfold raE;rw[nm]
 obtain⟨p,hp⟩: ∃p,prN (dcH x) (dcC x) (dcP x) j-(((dgS x j).size-1:Nat):Int)=p:=⟨_,rfl⟩;rw[hp] at nm;refine⟨e0,δ,lvD (dgS x j).data.toList,(nrM (lvD (dgS x j).data.toList) p).1,(nrM (lvD (dgS x j).data.toList) p).2,p,by omega,v4, ?_, ?_, ?_, ?_⟩
 ·unfold nrM
  split
  ·exact Nat.mul_ne_zero v5 (Nat.ne_of_gt (Nat.pow_pos (by omega)))
  ·exact redF_pos _ _ v5
 ·unfold nrM
  split
  ·exact Nat.one_ne_zero
  ·exact Nat.ne_of_gt (Nat.pow_pos (by omega))
 ·unfold nrM
  by_cases c:0<p
  ·rw[if_pos c,show(-p).toNat=0 by omega,Nat.pow_zero,Nat.mul_one,Nat.mul_one]
  ·rw[if_neg c,show p.toNat=0 by omega,Nat.pow_zero,Nat.mul_one]
   exact redF_keep _ _
 ·unfold raV nrV
  rw[nm];simp only;rw[hpv,if_neg v5]
theorem fit_two {k:Nat}{P:fz}{g:Bool}{d:Nat}{κ:Int}(h1:P.s=g)(h2:P.d=d)(h3:P.p=κ)(h4:P.ov=false)(hκ:lsI k≤κ)(hd:d≠0): ∃fl,pG k 1 P=(2,g,d,κ,fl):=by
 refine⟨if P.ex=true then 0 else if P.un=true then 3 else 1, ?_⟩
 unfold pG;rw[if_neg (by rw[h4];decide),if_neg (by rintro⟨-,c⟩;omega),h1,h2,h3,if_neg hd]
theorem print_back {k:Nat}(hk:1≤k∧k≤8){s:ByteArray}(hp:dF k s=0)(hc:bM k s=2)(he:gI k 2 (dz k s) (Dg.dg 4294967296 (gJ k s)) (iF k s)=0)
  {j:Nat} (j1:1≤j) (j2:j≤60) (hT:2^ (ai (rdN k)*dgN k)<10^ (j-1)):
  ∃fl,psV k (ptS k s j) 1=(fq k 2 (dz k s) (Dg.dg 4294967296 (gJ k s)) (iF k s),fl,0):=by
 obtain⟨⟨x1,x2,x3⟩,h0,hbb,hh,hcv⟩:=num_back hk hp hc he;have hcv1:=hcv 1 ⟨by decide,by decide⟩ false;unfold ptS;generalize opT k s=x at x1 x2 x3 h0 hbb hh hcv1⊢;clear hcv;obtain⟨-,-,d1,-,-,-,lg,-,w64,-,-,hg⟩:=eR hk;have hD:(1:Int)≤(dgN k:Int):=by omega
 obtain⟨o1,o2,o3⟩:=mC (s:=x.s) (way:=1) hD lg h0 hh;obtain⟨q1,q2,q3,q4⟩:=oj (s:=x.s) (way:=1) hD lg h0 hh;have hsp:=nW hD lg h0 (show(1:Nat)≠0 by omega) o1 o2
 unfold cvT at hcv1;rw[if_pos rfl,fit_num hk ⟨by decide,by decide⟩ ⟨x1,x2,x3⟩ h0] at hcv1;unfold fY at hcv1;rw[q1] at o3;generalize cI (rdN k) (dgN k) (lsI k) (gsI k) (decide (k≤3)) x.s x.n 1 x.e 1=P at o1 o3 q1 q2 hsp hcv1;have hd:P.d≠0:=by rw[q2];exact q4
 clear q2 q3 q4 o2;obtain⟨hd,L1,G1,dlt,hf⟩:=hsp.resolve_left (fun c=>hd c.1)
 obtain⟨fl0,f0⟩:=fit_two q1 rfl rfl o1 L1 hd;rw[f0] at hcv1;have hxx:bare ⟨x.s,x.n,x.e⟩=x:=hbb;rw[hxx] at o3;obtain⟨b1,b2,-⟩:=bare_parts hd o3;generalize P.d=d at hd dlt hf hcv1 b1 b2 o3;generalize P.p=κ at L1 G1 hf hcv1 b1 b2 o3;clear o1 q1 f0 hxx;obtain⟨r0,δ,Q',m,M0,p,r1,r2,m0,M00,r3,r4⟩:=print_ra x1 x2 x3 h0 j1 j2;have hN0:m/2^tz m≠0:=fun c=>by
  have:=(odd_of m0).1;omega
 have hfit:=ps_fit hk r0 (by rw[r4];exact hN0);rw[r4] at hfit;simp only at hfit;have hw:=near_cross (tz:=tz m) (wk:=(ai (rdN k):Int)*κ) (e:=x.e) (xn:=x.n) (d:=d) r3 (odd_of m0).2.symm (by
  have e1:x.e.toNat+(-((ai (rdN k):Int)*κ)).toNat=tz d+((ai (rdN k):Int)*κ).toNat+(-x.e).toNat:=by omega
  rw[Nat.mul_assoc,←Nat.pow_add,e1,Nat.pow_add,Nat.pow_add,←Nat.mul_assoc,←Nat.mul_assoc,←b1]) r2 r1
 obtain⟨n0,hr⟩:=dg_round (k:=j) x1 x2 x3 h0 j1 j2 rfl rfl;have hten:=ten_move (P:=dcP x) (a:=dqN x) (b:=dqD x) (fun c=>by
  have:=(dc_less x1 x2 x3 h0 (dcP x)).1 c;omega) j1
 have hd2:0<dqD x*10^ (-((j:Int)-1-dcP x)).toNat:=Nat.mul_pos (Nat.pow_pos (by omega)) (Nat.pow_pos (by omega));rw[show x.n*2^x.e.toNat*10^ ((j:Int)-1-dcP x).toNat=dqN x*10^ ((j:Int)-1-dcP x).toNat from rfl,show(2:Nat)^ (-x.e).toNat=dqD x from rfl] at hw
 generalize dqN x*10^ ((j:Int)-1-dcP x).toNat=n2 at hw hr hten n0;generalize dqD x*10^ (-((j:Int)-1-dcP x)).toNat=d2 at hw hr hten hd2 n0;generalize prQ (dcH x) (dcC x) j=Q at hw hr r2;have hdm:=Nat.div_add_mod n2 d2;have hml:=Nat.mod_lt n2 hd2;have hcm: ∀a:Nat,(0<dm ((a:Nat):Int) ((d2:Nat):Int)→d2<a)∧(dm ((a:Nat):Int) ((d2:Nat):Int)=0→a=d2)∧(dm ((a:Nat):Int) ((d2:Nat):Int)<0→a<d2):=fun a=>by
  unfold dm;refine⟨fun h=> ?_,fun h=> ?_,fun h=> ?_⟩
  all_goals
   split at h
   ·omega
   ·split at h<;>omega
 have hQ:2*(Q*d2)≤2*n2+d2∧2*n2≤2*(Q*d2)+d2:=by
  obtain⟨c1,c2,c3⟩:=hcm (n2 % d2*2);rw[Nat.mul_comm Q]
  rcases hr with⟨h1,h2⟩| ⟨h1,-,h2⟩| ⟨h1,-,h2⟩| ⟨h1,h2⟩
  ·have:=c1 h1
   rw[h2,Nat.mul_add,Nat.mul_one];omega
  ·have:=c2 h1
   rw[h2,Nat.mul_add,Nat.mul_one];omega
  ·have:=c2 h1
   rw[h2];omega
  ·have:=c3 h1
   rw[h2];omega
 obtain⟨u1,u2⟩:=dec_near hd2 hT hten hQ.1 hQ.2;have eD:((dgN k:Int)).toNat=dgN k:=Int.toNat_natCast _;obtain⟨t1,t2⟩:=near_move (A:=eZ (m/2^tz m) (p+(tz m:Int)-(ai (rdN k):Int)*κ)) (B:=dX M0 (p+(tz m:Int)-(ai (rdN k):Int)*κ)) (d:=d) (by rw[fw,eM];exact hw) (Nat.mul_pos (Nat.pos_of_ne_zero hd) (by rw[eM];exact Nat.mul_pos (Nat.pos_of_ne_zero M00) (bG _))) u1 u2;obtain⟨z1,z2,z3,z4⟩:=near_round (R:=(rdN k:Int)) (D:=(dgN k:Int)) (L:=lsI k) (G:=gsI k) (gr:=decide (k≤3)) (qs:=x.s) (E:=p+(tz m:Int)) (k:=κ) hD hN0 M00 hd dlt L1 hf (by rw[eD];exact t1) (by rw[eD];exact t2);obtain⟨fl,f1⟩:=fit_two z1 z2 z3 (by rw[z4];exact decide_eq_false (by omega)) L1 hd;rw[f1] at hfit;simp only at hfit hcv1;unfold Dw at hfit hcv1
 by_cases hz:gI k 2 x.s (Dg.dg 4294967296 d) κ=0
 ·rw[if_pos hz] at hfit hcv1
  refine⟨fl, ?_⟩;rw[hfit];have e:=congrArg Prod.fst hcv1;simp only at e;rw[e]
 ·rw[if_neg hz] at hcv1
  have:=congrArg (fun r=>r.2.2) hcv1
  exact absurd this hz
theorem shF_spec (mk:Nat→Bool): ∀f a,a≤shF mk f a∧shF mk f a≤a+f∧(∀j,a≤j→j<shF mk f a→mk j=false)∧(shF mk f a<a+f→mk (shF mk f a)=true)
 |0,a=>⟨Nat.le_refl _,Nat.le_refl _,fun j h1 h2=>absurd (show j<a from h2) (by omega),fun h=>absurd (show a<a+0 from h) (by omega)⟩
 |f+1,a=>by
  unfold shF
  by_cases h:mk a=true
  ·rw[if_pos h]
   exact⟨Nat.le_refl _,by omega,fun j h1 h2=>by omega,fun _=>h⟩
  ·rw[if_neg h]
   obtain⟨i1,i2,i3,i4⟩:=shF_spec mk f (a+1);refine⟨by omega,by omega,fun j h1 h2=> ?_,fun h5=>i4 (by omega)⟩
   rcases Nat.lt_or_ge a j with c|c
   ·exact i3 j c h2
   ·obtain rfl:j=a:=by omega
    simpa using h
theorem bits_fit {k:Nat}(hk:1≤k∧k≤8):2^ (ai (rdN k)*dgN k)<10^ (21-1):=by
 rcases bO hk with rfl|rfl|rfl|rfl|rfl|rfl|rfl|rfl<;>decide
end Go.Proofs.YtpgijbdgljkeeaaGreatDoor
