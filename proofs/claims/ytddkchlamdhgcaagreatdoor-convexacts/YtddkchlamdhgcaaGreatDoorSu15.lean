/-
  Texts laid together: Dz, Minus, Co9, Co15, Co17, Co18, Gr1, Dy9, Dl8, Gk2, Dn2, Gk3, Ce4, Co20, Co21, Ce10, Ce11, Ce9, Cr11, Eg2, Eg3, Eb2, Eb3, Nx2, Cv3, Bl6, Eh5.
-/
import Derived.Test.YtddkchlamdhgcaaGreatDoorSu05
import Derived.Test.YtddkchlamdhgcaaGreatDoorSu06
import Derived.Test.YtddkchlamdhgcaaGreatDoorSu07
import Derived.Test.YtddkchlamdhgcaaGreatDoorSu08
import Derived.Test.YtddkchlamdhgcaaGreatDoorSu09
set_option maxRecDepth 100000
set_option maxHeartbeats 3200000
namespace Go.Proofs.YtddkchlamdhgcaaGreatDoor
open _root_.Go.Proofs.Tryz
open Go.RowKit
theorem dw {K:Nat}{a:ak}(ha: -(K:Int)≤a.e):V K (bare a)=V K a:=by
 rw[eV,eV];unfold bare
 by_cases h:a.n=0
 ·rw[if_pos h,h];simp[sz]
 ·rw[if_neg h]
  obtain⟨m,h1⟩:=fO h;simp only;rw[lI h1];have:(a.e+(tz a.n:Int)+K).toNat=tz a.n+(a.e+K).toNat:=by omega
  rw[this,Nat.pow_add,←Nat.mul_assoc,Nat.mul_comm _ (2^tz a.n),←h1]
theorem iH (a:ak):bare (bare a)=bare a:=by
 have h1: -((a.e.natAbs:Nat):Int)≤a.e:=by omega
 exact fH (eL h1) h1 (dw h1)
theorem adk {K:Nat}{a:ak}{e:Int}(h1: -(K:Int)≤e)(h2:e≤a.e):V K a=sz a.s (a.n*2^ (a.e-e).toNat)*((2^ (e+K).toNat:Nat):Int):=by
 rw[eV,Y5,Nat.mul_assoc,←Nat.pow_add];have:(a.e+K).toNat=(a.e-e).toNat+(e+K).toNat:=by omega
 rw[this]
theorem Jq {xs ys ps:List Nat}{k c x y:Nat}(h:Z7 xs ys ps k c)(hk:k<xs.length)(hx:xs.getD k 0=x)(hy:ys.getD k 0=y)(hxl:x<4294967296)(hyl:y<4294967296):
  Z7 xs ys (ps.set k ((x+4294967296-y-c) % 4294967296)) (k+1) (brw x y c):=by
 obtain⟨h1,h2,h3,h4⟩:=h;refine⟨by simpa using h1,Dg.small_set h2 _ _ (Nat.mod_lt _ (by omega)),RN _ _ _, ?_⟩;rw[sQ _ _ _ (by omega),pO xs,pO ys,hx,hy];have e:x+4294967296*brw x y c=(x+4294967296-y-c) % 4294967296+y+c:=by unfold brw;split<;>omega
 have e2:4294967296^k*(x+4294967296*brw x y c)=4294967296^k*((x+4294967296-y-c) % 4294967296+y+c):=by rw[e]
 have e3:4294967296^ (k+1)*brw x y c=4294967296^k*(4294967296*brw x y c):=by rw[Nat.pow_succ,Nat.mul_assoc]
 rw[Nat.mul_add,Nat.mul_add,Nat.mul_add] at e2;rw[e3];omega
theorem xX (k:Nat)(hk:1≤k∧k≤8)(w:World):yC 116 #[.agg (tS k).toArray] w (yR w (.int .u64 ((gW k:Nat):Int))):=by
 have hsf:=cD
 rcases bO hk with rfl|rfl|rfl|rfl|rfl|rfl|rfl|rfl
 all_goals
  change Calls _ _ #[.agg #[_,_,_,_,_,_,_,_,_]] _ _
  go_enter func116,ntmps116
  go_wp2
  go_ret
  exact⟨rfl,af _ _⟩
theorem KH (x:Nat)(hx:x<18446744073709551616)(w:World):
  yC 67 #[.int .u64 x] w fun z w'=> ∃v,z= .returned v∧Own w' w.heap.size 135 .u32 v (Dg.dg 4294967296 x)∧yB w w':=by
 have hlo:(x:Int) % 4294967296=((x % 4294967296:Nat):Int):=by omega
 have hhi:(x:Int)/4294967296=((x/4294967296:Nat):Int):=by omega
 have hx2:x/4294967296<4294967296:=by omega
 have hx1:x % 4294967296<4294967296:=Nat.mod_lt _ (by omega);have hd:=Nq x;obtain⟨lo,elo⟩: ∃n,x % 4294967296=n:=⟨_,rfl⟩;obtain⟨hi,ehi⟩: ∃n,x/4294967296=n:=⟨_,rfl⟩;rw[elo] at hlo hd hx1;rw[ehi] at hhi hd hx2;have own:Own (w.alloc (.cells #[.int .u32 (lo:Int),.int .u32 (hi:Int)] 135)) w.heap.size 135 .u32 (.slice (some ⟨w.heap.size,0,none⟩) 2 2) [lo,hi]:=
  pr (zs:=[lo,hi]) (heap_alloc_new _ _) (Nat.le_refl _) (by unfold maxLen;simp)
 have htr:=jD (some ⟨w.heap.size,0,none⟩) 2 2 [lo,hi] _ own.rd;have hsm:Dg.Small 4294967296 [lo,hi]:=by
  intro i
  match i with
  |0=>exact hx1
  |1=>exact hx2
  |i+2=>simp
 have b0:=af w (.cells #[.int .u32 (lo:Int),.int .u32 (hi:Int)] 135);have HH:Hid (_∧_):=⟨hd,hsm⟩;have hxI:(x:Int)<18446744073709551616:=by omega
 clear elo ehi hd hsm
 go_enter func67,ntmps67
 go_wp2_with fail
 refine htr.mono ?_;rintro z w1 ⟨n,rfl,ht,rfl⟩
 go_wp2
 go_ret
 obtain⟨hd,hsm⟩:=HH.out;refine⟨_,rfl, ?_,b0⟩;have:=Dg.trim_eq 4294967296 (by omega) [lo,hi] n hsm ht.1 ht.2.1 ht.2.2;rw[hd] at this;rw[←this];exact own.take n ht.1
theorem ab9 {k:Nat}(hk:1≤k∧k≤8){e:Nat}(he:e<65536): -100000≤ii k e∧ii k e≤100000:=by
 have h: -20000≤lsI k∧lsI k≤0:=by rcases bO hk with rfl|rfl|rfl|rfl|rfl|rfl|rfl|rfl<;>decide
 unfold ii
 split
 ·omega
 ·split<;>omega
def gJ (n:Int)(s:ByteArray):Nat:=if dF n s=0 then ge n.toNat (aZ n.toNat s) (aR n.toNat s) (aU n.toNat s) else 0
def iF (n:Int)(s:ByteArray):Int:=if dF n s=0 then gw n.toNat (aZ n.toNat s) (aR n.toNat s) (aU n.toNat s) else 0
theorem MW (D L G:Int)(gr:Bool)(w:World):
  yC 89 #[ygV 2 D L G gr] w (yR w (yi (bk 2 D L G))):=by
 have bA:=af w (.cells (ygA 2 D L G gr) 40);have l1:=ah w (ygL 2 D L G gr) 40;have c1:=l1.c 1 rfl;have c2:=l1.c 2 rfl;have c3:=l1.c 3 rfl;obtain⟨C,hC⟩: ∃C,bk 2 D L G=C:=⟨_,rfl⟩;have HC3:Hid (D<1∨120<D∨eJ 17000 L=true∨eJ 17000 G=true∨G<L→3=C):=fun h=>by rw[←hC];exact(zp (R:=2) (by omega) h).symm
 have HC0:Hid (¬(D<1∨120<D∨eJ 17000 L=true∨eJ 17000 G=true∨G<L)→0=C):=fun h=>by rw[←hC];exact(Bm (R:=2) (by omega) h).symm
 rw[hC];have H1:Hid (∀w1,yC 88 #[yi L,yi 17000] w1 fun z w'=>z= .returned (.bool (eJ 17000 L))∧w'=w1):=fun w1=>nK L 17000 w1 (by omega) (by omega)
 have H2:Hid (∀w1,yC 88 #[yi G,yi 17000] w1 fun z w'=>z= .returned (.bool (eJ 17000 G))∧w'=w1):=fun w1=>nK G 17000 w1 (by omega) (by omega)
 obtain⟨bl,hbl⟩: ∃b,eJ 17000 L=b:=⟨_,rfl⟩;obtain⟨bg,hbg⟩: ∃b,eJ 17000 G=b:=⟨_,rfl⟩;rw[hbl] at H1 HC3 HC0;rw[hbg] at H2 HC3 HC0;clear hC hbl hbg
 by_cases d1:D<1
 ·obtain rfl:=HC3.out (.inl d1)
  go_enter func89,ntmps89
  go_wp2
  go_ret
  exact⟨rfl,bA⟩
 ·by_cases d2:120<D
  ·obtain rfl:=HC3.out (.inr (.inl d2))
   go_enter func89,ntmps89
   go_wp2
   go_ret
   exact⟨rfl,bA⟩
  ·cases bl
   ·cases bg
    ·by_cases d3:G<L
     ·obtain rfl:=HC3.out (.inr (.inr (.inr (.inr d3))))
      go_enter func89,ntmps89
      go_wp2_with fail
      refine(H1.out _).mono ?_;rintro z w2 ⟨rfl,rfl⟩
      go_wp2_with fail
      refine(H2.out _).mono ?_;rintro z w3 ⟨rfl,rfl⟩
      go_wp2
      go_ret
      exact⟨rfl,bA⟩
     ·obtain rfl:=HC0.out (by simp[d1,d2,d3])
      go_enter func89,ntmps89
      go_wp2_with fail
      refine(H1.out _).mono ?_;rintro z w2 ⟨rfl,rfl⟩
      go_wp2_with fail
      refine(H2.out _).mono ?_;rintro z w3 ⟨rfl,rfl⟩
      go_wp2
      go_ret
      exact⟨rfl,bA⟩
    ·obtain rfl:=HC3.out (.inr (.inr (.inr (.inl rfl))))
     go_enter func89,ntmps89
     go_wp2_with fail
     refine(H1.out _).mono ?_;rintro z w2 ⟨rfl,rfl⟩
     go_wp2_with fail
     refine(H2.out _).mono ?_;rintro z w3 ⟨rfl,rfl⟩
     go_wp2
     go_ret
     exact⟨rfl,bA⟩
   ·obtain rfl:=HC3.out (.inr (.inr (.inl rfl)))
    go_enter func89,ntmps89
    go_wp2_with fail
    refine(H1.out _).mono ?_;rintro z w2 ⟨rfl,rfl⟩
    go_wp2
    go_ret
    exact⟨rfl,bA⟩
theorem Ky (D L G:Int)(gr:Bool)(w:World):
  yC 89 #[ygV 16 D L G gr] w (yR w (yi (bk 16 D L G))):=by
 have bA:=af w (.cells (ygA 16 D L G gr) 40);have l1:=ah w (ygL 16 D L G gr) 40;have c1:=l1.c 1 rfl;have c2:=l1.c 2 rfl;have c3:=l1.c 3 rfl;obtain⟨C,hC⟩: ∃C,bk 16 D L G=C:=⟨_,rfl⟩;have HC3:Hid (D<1∨120<D∨eJ 4000 L=true∨eJ 4000 G=true∨G<L→3=C):=fun h=>by rw[←hC];exact(zp (R:=16) (by omega) h).symm
 have HC0:Hid (¬(D<1∨120<D∨eJ 4000 L=true∨eJ 4000 G=true∨G<L)→0=C):=fun h=>by rw[←hC];exact(Bm (R:=16) (by omega) h).symm
 rw[hC];have H1:Hid (∀w1,yC 88 #[yi L,yi 4000] w1 fun z w'=>z= .returned (.bool (eJ 4000 L))∧w'=w1):=fun w1=>nK L 4000 w1 (by omega) (by omega)
 have H2:Hid (∀w1,yC 88 #[yi G,yi 4000] w1 fun z w'=>z= .returned (.bool (eJ 4000 G))∧w'=w1):=fun w1=>nK G 4000 w1 (by omega) (by omega)
 obtain⟨bl,hbl⟩: ∃b,eJ 4000 L=b:=⟨_,rfl⟩;obtain⟨bg,hbg⟩: ∃b,eJ 4000 G=b:=⟨_,rfl⟩;rw[hbl] at H1 HC3 HC0;rw[hbg] at H2 HC3 HC0;clear hC hbl hbg
 by_cases d1:D<1
 ·obtain rfl:=HC3.out (.inl d1)
  go_enter func89,ntmps89
  go_wp2
  go_ret
  exact⟨rfl,bA⟩
 ·by_cases d2:120<D
  ·obtain rfl:=HC3.out (.inr (.inl d2))
   go_enter func89,ntmps89
   go_wp2
   go_ret
   exact⟨rfl,bA⟩
  ·cases bl
   ·cases bg
    ·by_cases d3:G<L
     ·obtain rfl:=HC3.out (.inr (.inr (.inr (.inr d3))))
      go_enter func89,ntmps89
      go_wp2_with fail
      refine(H1.out _).mono ?_;rintro z w2 ⟨rfl,rfl⟩
      go_wp2_with fail
      refine(H2.out _).mono ?_;rintro z w3 ⟨rfl,rfl⟩
      go_wp2
      go_ret
      exact⟨rfl,bA⟩
     ·obtain rfl:=HC0.out (by simp[d1,d2,d3])
      go_enter func89,ntmps89
      go_wp2_with fail
      refine(H1.out _).mono ?_;rintro z w2 ⟨rfl,rfl⟩
      go_wp2_with fail
      refine(H2.out _).mono ?_;rintro z w3 ⟨rfl,rfl⟩
      go_wp2
      go_ret
      exact⟨rfl,bA⟩
    ·obtain rfl:=HC3.out (.inr (.inr (.inr (.inl rfl))))
     go_enter func89,ntmps89
     go_wp2_with fail
     refine(H1.out _).mono ?_;rintro z w2 ⟨rfl,rfl⟩
     go_wp2_with fail
     refine(H2.out _).mono ?_;rintro z w3 ⟨rfl,rfl⟩
     go_wp2
     go_ret
     exact⟨rfl,bA⟩
   ·obtain rfl:=HC3.out (.inr (.inr (.inl rfl)))
    go_enter func89,ntmps89
    go_wp2_with fail
    refine(H1.out _).mono ?_;rintro z w2 ⟨rfl,rfl⟩
    go_wp2
    go_ret
    exact⟨rfl,bA⟩
theorem vE (R D L G:Int)(gr:Bool)(w:World):
  yC 89 #[ygV R D L G gr] w (yR w (yi (bk R D L G))):=by
 by_cases h2:R=2
 ·subst h2
  exact MW D L G gr w
 ·by_cases h16:R=16
  ·subst h16
   exact Ky D L G gr w
  ·rw[FD h2 h16]
   have bA:=af w (.cells (ygA R D L G gr) 40);have e1:(R != 2)=true:=by simp;exact h2
   have e2:(R != 16)=true:=by simp;exact h16
   go_enter func89,ntmps89
   go_wp2
   go_ret
   exact⟨rfl,bA⟩
theorem qB (v:Value)(t:ak)(w:World)(hv:Dv w v t):yC 137 #[v] w (yR w (yi (dJ t))):=by
 obtain⟨s0,rfl,hr⟩:=hv;obtain⟨ao,ca,rfl⟩:=hr.shape;obtain⟨ts,n,e⟩:=t;have hnl:=Dg.dg_nil_iff 4294967296 n (by omega);simp only at hr⊢;unfold dJ;simp only;obtain⟨m,hm⟩: ∃m,(Dg.dg 4294967296 n).length=m:=⟨_,rfl⟩;have hz:m=0↔n=0:=by rw[←hm,List.length_eq_zero_iff];exact hnl
 rw[hm];have bA:=af w (.cells (ydA ts (.slice ao m ca) e) 187);clear hm hr hnl
 by_cases h:n=0
 ·rw[if_pos h]
  have hm0:=hz.2 h;subst hm0;clear hz h
  go_enter func137,ntmps137
  go_wp2
  go_ret
  exact⟨rfl,bA⟩
 ·rw[if_neg h]
  have hm0:((m:Int)==0)=false:=by
   have: ¬m=0:=fun e=>h (hz.1 e)
   simp;exact this
  clear hz h
  cases ts
  ·go_enter func137,ntmps137
   go_wp2
   go_ret
   exact⟨rfl,bA⟩
  ·go_enter func137,ntmps137
   go_wp2
   go_ret
   exact⟨rfl,bA⟩
theorem ja (s0:Value)(t:ak)(w:World)(hr:Rd w .i64 s0 (Dg.dg 65536 t.n)):yC 12 #[ydV t.s s0 t.e] w (yR w (.agg #[.bool (dB t).s,s0,yi (dB t).e])):=by
 obtain⟨ao,ca,rfl⟩:=hr.shape;obtain⟨ts,n,e⟩:=t;have hnl:=Dg.dg_nil_iff 65536 n (by omega);simp only at hr⊢;unfold dB;simp only;have hz:(0< (Dg.dg 65536 n).length)↔0<n:=by
  rw[List.length_pos_iff,Ne,hnl];omega
 obtain⟨m,hm⟩: ∃m,(Dg.dg 65536 n).length=m:=⟨_,rfl⟩;rw[hm] at hz hr⊢;clear hr
 by_cases h:0<n
 ·have h6:=hz.2 h
  rw[decide_eq_true h,Bool.and_true];clear hz h hm hnl
  cases ts
  ·go_enter func12,ntmps12
   go_wp2
   go_returns
   exact⟨rfl,aa (af w _) (af _ _)⟩
  ·go_enter func12,ntmps12
   go_wp2
   go_returns
   exact⟨rfl,aa (af w _) (af _ _)⟩
 ·have h6: ¬0<m:=fun e=>h (hz.1 e)
  rw[decide_eq_false h,Bool.and_false];clear hz h hm hnl
  cases ts
  ·go_enter func12,ntmps12
   go_wp2
   go_returns
   exact⟨rfl,aa (af w _) (af _ _)⟩
  ·go_enter func12,ntmps12
   go_wp2
   go_returns
   exact⟨rfl,aa (af w _) (af _ _)⟩
theorem nV (s:Bool)(n:Nat)(e k:Int)(hk:k≤e+(tz n:Int)):eZ n (e-k) % dX 1 (e-k)=0∧bare ⟨s,eZ n (e-k)/dX 1 (e-k),k⟩=bare ⟨s,n,e⟩:=by
 by_cases h0:n=0
 ·subst h0
  have e1:eZ 0 (e-k)=0:=by rw[fw];simp
  rw[e1];simp[bare]
 ·by_cases hle:k≤e
  ·have e1:dX 1 (e-k)=1:=by rw[eM,show(-(e-k)).toNat=0 by omega]
   rw[e1,fw,Nat.mod_one,Nat.div_one];refine⟨rfl, ?_⟩;refine fH (K:=(max (-k) 0).toNat) (by simp only;omega) (by simp only;omega) ?_;rw[eV,eV];simp only;rw[Nat.mul_assoc,←Nat.pow_add,show(e-k).toNat+(k+((max (-k) 0).toNat:Int)).toNat=(e+((max (-k) 0).toNat:Int)).toNat by omega]
  ·obtain⟨m,hm⟩:=fO h0
   obtain⟨q,hq⟩: ∃q,n=q*2^ (k-e).toNat:=by
    refine⟨2^ (tz n-(k-e).toNat)*(2*m+1), ?_⟩;rw[Nat.mul_right_comm,←Nat.pow_add,show tz n-(k-e).toNat+(k-e).toNat=tz n by omega]
    exact hm
   have e1:eZ n (e-k)=n:=by rw[fw,show(e-k).toNat=0 by omega,Nat.pow_zero,Nat.mul_one]
   have e2:dX 1 (e-k)=2^ (k-e).toNat:=by rw[eM,Nat.one_mul,show-(e-k)=k-e by omega]
   rw[e1,e2,hq,Nat.mul_mod_left,Nat.mul_div_cancel _ (bG _)];refine⟨rfl, ?_⟩;refine fH (K:=(max (-e) 0).toNat) (by simp only;omega) (by simp only;omega) ?_;rw[eV,eV];simp only;rw[Nat.mul_assoc,←Nat.pow_add,show(k-e).toNat+(e+((max (-e) 0).toNat:Int)).toNat=(k+((max (-e) 0).toNat:Int)).toNat by omega]
theorem wK {t:ak}(h1:(Dg.dg 4294967296 (bare t).n).length≤1200)(h2: -20000≤(bare t).e)(h3:(bare t).e≤20000):bU t=(bare t,0):=by
 unfold bU;rw[if_neg (by omega),if_neg (by omega)]
theorem qj {R D L G:Int}{gr:Bool}{d:Nat}{p:Int}(hg:bk R D L G=0)(h:ia R D L G gr d p):
  (Dg.dg 4294967296 d).length≤15∧ -17000≤p∧p≤17000∧ -17000≤(ai R:Int)*p∧(ai R:Int)*p≤17000∧tz d≤480:=by
 obtain⟨hR,d1,d2,l1,l2,g1,g2,lg,l16⟩:=cB hg
 rcases h with⟨rfl,rfl⟩| ⟨h0,h1,h2,h3,-⟩
 ·refine⟨Nat.zero_le _,by omega,by omega,by simp,by simp, ?_⟩
  exact Nat.le_trans (gZ 0 0 (Nat.le_refl _)) (by omega)
 ·have hw:=Nat.mul_le_mul (eN R).2 (show D.toNat≤120 by omega)
  have hl:(Dg.dg 4294967296 d).length≤15:=jq h3 (by omega);have:=gZ d 15 hl;refine⟨hl,by omega,by omega, ?_, ?_,by omega⟩<;>(unfold ai;split<;>simp<;>omega)
theorem Wp (zs:List Nat)(p b i:Nat)(hb:b<2)(hp:p/8<zs.length):fU (zs.set (p/8) (zs.getD (p/8) 0|||b*2^ (7-p % 8))) i=if i=p then(if b=1 then 1 else fU zs i) else fU zs i:=by
 rw[Ib,Ib,Dg.getD_set _ _ _ _ hp]
 by_cases h8:p/8=i/8
 ·rw[if_pos h8,Lp _ _ _ _ hb,h8]
  by_cases hi:i=p
  ·subst hi
   rw[if_pos rfl]
   rcases(show b=0∨b=1 by omega) with rfl|rfl
   ·simp
   ·simp
  ·rw[if_neg hi,decide_eq_false (show¬7-p % 8=7-i % 8 by omega)]
   simp
 ·rw[if_neg h8,if_neg (show¬i=p from fun e=>h8 (by rw[e]))]
theorem xO (f:Nat): ∀(c x:Nat) (zs:List Nat) (i:Nat),f+c≤8*zs.length→fU (iS f c x zs) i=if f≤i∧i<f+c then(if x/2^ (f+c-1-i) % 2=1 then 1 else fU zs i) else fU zs i
 |0,x,zs,i,_=>by
  rw[iS,if_neg (by omega)]
 |c+1,x,zs,i,h=>by
  rw[iS,xO f c (x/2) _ i (by rw[List.length_set];omega),Wp _ _ _ _ (Nat.mod_lt _ (by omega)) (by omega)]
  by_cases h1:f≤i∧i<f+c
  ·rw[if_pos h1,if_pos (show f≤i∧i<f+(c+1) by omega),if_neg (show¬i=f+c by omega),Nat.div_div_eq_div_mul,←Nat.pow_succ',show(f+c-1-i).succ=f+(c+1)-1-i from by omega]
  ·rw[if_neg h1]
   by_cases h2:i=f+c
   ·rw[if_pos h2,if_pos (show f≤i∧i<f+(c+1) by omega),show f+(c+1)-1-i=0 from by omega,Nat.pow_zero,Nat.div_one]
   ·rw[if_neg h2,if_neg (show¬(f≤i∧i<f+(c+1)) by omega)]
theorem OT (zs:List Nat)(hs:Dg.Small 256 zs):zs=byL (fun i=>decide (fU zs i=1)) zs.length:=by
 apply List.ext_getElem (by rw[xT]);intro p hp1 hp2;have e1:zs.getD p 0=zs[p]:=by simp[List.getD_eq_getElem?_getD,hp1]
 have e2:(byL (fun i=>decide (fU zs i=1)) zs.length).getD p 0=(byL (fun i=>decide (fU zs i=1)) zs.length)[p]:=by simp only[List.getD_eq_getElem?_getD,List.getElem?_eq_getElem hp2,Option.getD_some]
 rw[←e1,←e2,JB _ _ _ hp1];refine(Tk (zs.getD p 0) (hs p)).symm.trans (nz 8 (fun j hj=> ?_))
 unfold fU;rw[show(8*p+j)/8=p from by omega,show(8*p+j) % 8=j from by omega]
theorem Ic {f g:Nat→Bool}(n:Nat)(h: ∀i,i<8*n→f i=g i):byL f n=byL g n:=by
 unfold byL;apply List.map_congr_left;intro i hi;have:=List.mem_range.1 hi;exact nz 8 (fun j hj=>h _ (by omega))
theorem xP {k:Nat}(hk:1≤k∧k≤8)(ng:Bool)(e f:Nat):kU k ng e f=jT k (byL (Eb (exN k) (frN k) ng e f) (szN k)):=by
 obtain⟨h1,h2,h3,h4,-,h7⟩:=fZ hk;unfold kU
 congr 1
 have sm0:Dg.Small 256 (List.replicate (szN k) 0):=by
  intro i
  by_cases hi:i<szN k
  ·simp[List.getD_eq_getElem?_getD,hi]
  ·simp[List.getD_eq_getElem?_getD,hi]
 have key: ∀zs:List Nat,zs.length=szN k→Dg.Small 256 zs→(∀i,fU zs i=if i=0∧ng=true then 1 else 0)→iS (1+exN k) (frN k) f (iS 1 (exN k) e zs)=byL (Eb (exN k) (frN k) ng e f) (szN k):=fun zs hl hs hb=>by
  have hl2:(iS (1+exN k) (frN k) f (iS 1 (exN k) e zs)).length=szN k:=by rw[il,il,hl]
  rw[OT _ (mj _ _ _ _ (mj _ _ _ _ hs)),hl2];refine Ic _ (fun i hi=> ?_)
  rw[xO _ _ _ _ _ (by rw[il];omega),xO _ _ _ _ _ (by omega),hb i];unfold Eb
  by_cases h0:i=0
  ·subst h0
   rw[if_neg (by omega),if_neg (by omega),if_pos rfl]
   cases ng<;>rfl
  ·rw[if_neg h0]
   have hz:(if i=0∧ng=true then 1 else 0)=0:=if_neg (fun h=>h0 h.1)
   rw[hz]
   by_cases hx:i≤exN k
   ·rw[if_pos hx,if_neg (by omega),if_pos (show 1≤i∧i<1+exN k by omega),show 1+exN k-1-i=exN k-i from by omega]
    split
    ·rename_i h;rw[h]
    ·rename_i h;rw[decide_eq_false h];rfl
   ·rw[if_neg hx,if_pos (show 1+exN k≤i∧i<1+exN k+frN k by omega),if_neg (show¬(1≤i∧i<1+exN k) by omega),show 1+exN k+frN k-1-i=exN k+frN k-i from by omega]
    split
    ·rename_i h;rw[h]
    ·rename_i h;rw[decide_eq_false h];rfl
 cases ng
 ·rw[if_neg (by simp)]
  exact key _ List.length_replicate sm0 (fun i=>by rw[Ea];simp)
 ·rw[if_pos rfl]
  refine key _ (by rw[il];exact List.length_replicate) (mj _ _ _ _ sm0) (fun i=> ?_)
  rw[xO _ _ _ _ _ (by rw[List.length_replicate];omega),Ea]
  by_cases h0:i=0
  ·subst h0
   rfl
  ·rw[if_neg (by omega),if_neg (fun h=>h0 h.1)]
def lS (k c:Nat):Nat:=if k≤3 then(if c=3 then wrN k else if c=4 then wrN k|||gW k/2 else 0) else 0
def Fv (k c dn:Nat)(ng:Bool)(p:Int):ByteArray:=if qX k c dn ng p=0 then cF (kU k (pI k c||ng) (pg k c) (lS k c)) else⟨#[]⟩
theorem Fx {k:Nat}(c:Nat)(hk:1≤k∧k≤8):lS k c<18446744073709551616:=by
 have h1:wrN k<2^64:=by rcases bO hk with rfl|rfl|rfl|rfl|rfl|rfl|rfl|rfl<;>decide
 have h2:gW k<2^64:=by rcases bO hk with rfl|rfl|rfl|rfl|rfl|rfl|rfl|rfl<;>decide
 unfold lS
 split
 ·split
  ·exact h1
  ·split
   ·exact Nat.or_lt_two_pow (n:=64) h1 (by omega)
   ·omega
 ·omega
theorem Re {k:Nat}(hk:1≤k∧k≤8):gW k<18446744073709551616:=by
 rcases bO hk with rfl|rfl|rfl|rfl|rfl|rfl|rfl|rfl<;>decide
theorem wI {c:Int}{t r:ak}(h:cC c t=(r,0)):r=bare t∧aS (Dg.dg 4294967296 r.n) r.e=0:=by
 unfold cC at h
 by_cases h0:c=0
 ·rw[if_pos h0] at h
  unfold bU at h
  by_cases h1:1200< (Dg.dg 4294967296 (bare t).n).length
  ·rw[if_pos h1] at h
   simp at h
  ·rw[if_neg h1] at h
   by_cases h2:(bare t).e< -20000∨20000< (bare t).e
   ·rw[if_pos h2] at h
    simp at h
   ·rw[if_neg h2] at h
    simp only[Prod.mk.injEq,and_true] at h;subst h;have hn:=Dg.norm_dg 4294967296 (bare t).n (by omega);refine⟨rfl, ?_⟩;unfold aS;rw[if_pos (pJ hn (by omega)),if_neg h2]
 ·rw[if_neg h0] at h
  simp only[Prod.mk.injEq] at h;exact absurd h.2 h0
def enN (k:Nat)(ng:Bool)(xs:List Nat)(p:Int):ak×Int:=
 cC (ix xs p (rdN k) (dgN k) (lsI k) (gsI k)) ⟨ng,Dg.vl 4294967296 xs,(ai (rdN k):Int)*p⟩
theorem XS (bf:Nat→Bool)(n i:Nat)(h:i<8*n):fU (byL bf n) i=if bf i then 1 else 0:=by
 unfold fU;rw[JB bf n _ (by omega)];have:=MF (fun j=>bf (8*(i/8)+j)) 8 (i % 8) (by omega)
 rw[show 8-1-i % 8=7-i % 8 from by omega,show 8*(i/8)+i % 8=i from by omega] at this
 exact this
theorem zk (bf:Nat→Bool)(m f:Nat): ∀n,f+n≤8*m→eH (byL bf m) f n=jY (fun j=>bf (f+j)) n
 |0,_=>rfl
 |n+1,h=>by
  rw[eH,jY,zk bf m f n (by omega),XS bf m (f+n) (by omega)];omega
theorem Fu: ∀(n e:Nat),jY (fun j=>decide (e/2^ (n-1-j) % 2=1)) n=e % 2^n
 |0,e=>by simp[jY,Nat.mod_one]
 |n+1,e=>by
  rw[jY,nz (g:=fun j=>decide (e/2/2^ (n-1-j) % 2=1)) n (fun j hj=>by
   rw[Nat.div_div_eq_div_mul,←Nat.pow_succ',show(n-1-j).succ=n+1-1-j from by omega]),Fu n (e/2),show n+1-1-n=0 from by omega,Nat.pow_zero,Nat.div_one,Nat.pow_succ]
  have h1:e % (2^n*2)=e/2 % 2^n*2+e % 2:=by
   rw[Nat.mul_comm (2^n) 2,Nat.mod_mul];omega
  rw[h1]
  rcases(show e % 2=0∨e % 2=1 by omega) with h|h<;>rw[h]<;>rfl
theorem Va {k:Nat}(hk:1≤k∧k≤8){ng:Bool}{E F:Nat}(hE:E<2^exN k)(hF:F<2^frN k)(hF64:F<2^64)(hc:dh k ng E F=2)(hr:rdN k=2):
  ge k ng E F=(ji k ng E F).n∧gw k ng E F=(ji k ng E F).e:=by
 rw[iq hk hE hF hc];unfold ge gw;rw[if_pos hc,if_pos hc,hr];have h0:=jX hc;have hl:=vS hk E hF64;generalize iI k E F=D at*;generalize ii k E=P at*;obtain⟨m,hm⟩:=fO (n:=D) (by omega);have hd:=lI hm;have hs:=FZ 2 (by omega) (tz D) 64 (2*m+1) P (by omega) (by rw[←hm];exact hl);rw[←hm] at hs;rw[hs];unfold bare;rw[if_neg (by show¬D=0;omega)]
 refine⟨hd.symm, ?_⟩
 show P+(tz D:Int)=wdI ((2:Nat):Int)*P+(tz D:Int)
 rw[show wdI ((2:Nat):Int)=1 from by decide,Int.one_mul]
theorem AE {t:ak}(h0:t.n≠0):(Dg.dg 65536 (bare t).n).length≤(Dg.dg 65536 t.n).length∧t.e≤(bare t).e∧(bare t).e≤t.e+(bitLen t.n:Int):=by
 obtain⟨-,h2,h3⟩:=gN h0;refine⟨IZ (kR t),by omega,by omega⟩
theorem JN {xs:List Nat}(hc:chk xs=0)(hx:xs.length≠0):Dg.vl 4294967296 xs≠0:=fun h=>by
 obtain⟨n1,-⟩:=aF hc;exact Dg.vl_ne_zero 4294967296 (by omega) xs (by intro e;subst e;simp at hx) n1 h
theorem rT {k:Nat}(hk:1≤k∧k≤8){ng:Bool}{E F:Nat}(hE:E<2^exN k)(hF:F<2^frN k)(hF64:F<2^64)(hc:dh k ng E F=2)(h0:iI k E F≠0):
  bare ⟨ng,ge k ng E F,(ai (rdN k):Int)*gw k ng E F⟩=bare ⟨ng,iI k E F,(ai (rdN k):Int)*ii k E⟩:=by
 have hT:=iq hk hE hF hc;rw[zr] at hT
 by_cases hr:rdN k=2
 ·obtain⟨v1,v2⟩:=Va hk hE hF hF64 hc hr
  have hw:ai (rdN k)=1:=by rw[hr];rfl
  rw[v1,v2,hT,hw,show((1:Nat):Int)*(bare ⟨ng,iI k E F,((1:Nat):Int)*ii k E⟩).e=(bare ⟨ng,iI k E F,((1:Nat):Int)*ii k E⟩).e from by omega,NQ (a:=⟨ng,iI k E F,((1:Nat):Int)*ii k E⟩) h0 rfl,iH]
 ·have hr16:rdN k=16:=by rcases bO hk with rfl|rfl|rfl|rfl|rfl|rfl|rfl|rfl<;>revert hr<;>decide
  obtain⟨v1,v2,v3⟩:=I5 hk hE hF hF64 hc hr16;have hw:ai (rdN k)=4:=by rw[hr16];rfl
  rw[hw] at hT⊢;rw[v3,hT];rw[hT] at v1;have hp:=(nV ng (bare ⟨ng,iI k E F,((4:Nat):Int)*ii k E⟩).n (bare ⟨ng,iI k E F,((4:Nat):Int)*ii k E⟩).e (((4:Nat):Int)*gw k ng E F) (by omega)).2;rw[Jv] at hp;rw[show 4*gw k ng E F=((4:Nat):Int)*gw k ng E F from rfl,hp,NQ (a:=⟨ng,iI k E F,((4:Nat):Int)*ii k E⟩) h0 rfl,iH]
theorem Ry {k m:Nat}(hk:1≤k∧k≤8)(hm:m=1∨m=3∨m=4∨m=5)(g:Bool)(hs:iR k m=true)(hg:g=true→Bk k m=true):
  pg k m<2^exN k∧lS k m<2^frN k∧dh k (pI k m||g) (pg k m) (lS k m)=m∧kt k (pI k m||g) (pg k m) (lS k m)=g:=by
 revert hs hg
 rcases bO hk with rfl|rfl|rfl|rfl|rfl|rfl|rfl|rfl<;>rcases hm with rfl|rfl|rfl|rfl<;>cases g<;>decide
theorem uR (s:Bool)(e:Int):bU ⟨s,0,e⟩=(⟨false,0,0⟩,0):=by
 have hb:bare ⟨s,0,e⟩=⟨false,0,0⟩:=by simp[bare]
 unfold bU;rw[hb];simp only;rw[show Dg.dg 4294967296 0=[] from(Dg.dg_nil_iff _ _ (by omega)).2 rfl]
 rfl
theorem TS {k:Nat}(hk:1≤k∧k≤8){E:Nat}(hE:E<2^exN k): -16445≤(ai (rdN k):Int)*ii k E∧(ai (rdN k):Int)*ii k E≤16400∧ -16445≤ii k E∧ii k E≤16400:=by
 have hf:(rdN k=16∧ai (rdN k)=4∧ -78≤lsI k∧lsI k≤0∧2^exN k=128)∨(rdN k≠16∧ai (rdN k)=1∧ -16445≤lsI k∧lsI k+((2^exN k:Nat):Int)≤16400):=by
  rcases bO hk with rfl|rfl|rfl|rfl|rfl|rfl|rfl|rfl<;>decide
 unfold ii
 rcases hf with⟨h1,h2,h3,h4,h5⟩| ⟨h1,h2,h3,h4⟩
 ·rw[if_pos h1,h2]
  omega
 ·rw[if_neg h1,h2]
  split<;>omega
theorem J8 {k:Nat}(hk:1≤k∧k≤8)(ng:Bool)(E:Nat){F:Nat}(hF:F<2^64):ge k ng E F<2^64:=by
 unfold ge
 split
 ·exact Nat.lt_of_le_of_lt (GI _ _ _ _) (vS hk E hF)
 ·decide
theorem J9 {k:Nat}(hk:1≤k∧k≤8){ng:Bool}{E F:Nat}(hE:E<2^exN k)(hF:F<2^frN k)(hc:dh k ng E F=2):
  -16445≤(ji k ng E F).e∧(ji k ng E F).e≤16464∧ -16460≤gw k ng E F∧gw k ng E F≤16464:=by
 have h64:=mZ hk hF;obtain⟨p1,p2,-,-⟩:=TS hk hE;have hT:=iq hk hE hF hc;rw[wQ hk] at hT;have hp:=jX hc;have hl:=vS hk E h64;have hb:=AE (t:=⟨ng,iI k E F,(ai (rdN k):Int)*ii k E⟩) (Nat.ne_of_gt hp);have hbl:bitLen (iI k E F)≤64:=bF _ _ hl;rw[←hT] at hb;simp only at hb;obtain⟨-,b1,b2⟩:=hb;refine⟨by omega,by omega, ?_⟩;have hr:rdN k=2∨rdN k=16:=by
  rcases bO hk with rfl|rfl|rfl|rfl|rfl|rfl|rfl|rfl<;>decide
 rcases hr with hr|hr
 ·have:=(Va hk hE hF h64 hc hr).2
  omega
 ·have:=I5 hk hE hF h64 hc hr
  omega
theorem convBegun_W (st:ByteArray)(w:World)(HX:yH w 42 #[yi 3,yi 4,yi 1] (.tuple #[.string st,yi 0,yi 0]))
  (HY:yH w 7 #[yi 4,.string st,yi 1] (.tuple #[yi 3,yi 0,yi 0])):
  yC 16 #[] w (yR w (.bool true)):=by
 replace HX:Hid _:=HX;replace HY:Hid _:=HY
 go_enter func16,ntmps16
 have b0:=Below.refl w.heap.size w
 go_wp2_with fail
 refine(HX.out _ b0).mono ?_;rintro zz w1 ⟨rfl,bb2⟩;have b3:=aa b0 bb2;clear b0 bb2 HX
 go_wp2_with fail
 refine(HY.out _ b3).mono ?_;rintro zz w4 ⟨rfl,bb5⟩;have b6:=aa b3 bb5;clear b3 bb5 HY
 go_wp2
 go_ret
 exact⟨by simp,b6⟩
theorem ZB6.rd {w:World}{b:Nat}{v:Value}{zs:List Nat}(h:ZB6 w b)(hr:Rd w .i64 v zs)(hn:Dg.Norm zs)(x0 x1 x2 x3 x4 x5:Value):
  Rd ((((((w.setCell ⟨b,0,none⟩ x0).setCell ⟨b,1,none⟩ x1).setCell ⟨b,2,none⟩ x2).setCell ⟨b,3,none⟩ x3).setCell ⟨b,4,none⟩ x4).setCell ⟨b,5,none⟩ x5) .i64 v zs:=by
 obtain⟨hl,ty,hh⟩:=h;obtain⟨ao,cap,rfl,h1,h2,h3⟩:=hr;refine⟨ao,cap,rfl,h1,h2,fun hp=> ?_⟩
 obtain⟨c,off,rfl,hc⟩:=h3 hp;refine⟨c,off,rfl,fun i hi=> ?_⟩
 have hne:c≠b:=by
  intro e;subst e;have k1:=hc (zs.length-1) (by omega);have hz:=hn (List.length_pos_iff.1 hp);unfold World.cell? at k1;simp only[hh] at k1;obtain⟨o,ho⟩: ∃o,off+(zs.length-1)=o:=⟨_,rfl⟩;rw[ho] at k1;generalize zs.getD (zs.length-1) 0=d at*
  match o,k1 with
  |0,k1=>simp at k1
  |1,k1=>simp at k1
  |2,k1=>simp at k1;omega
  |3,k1=>simp at k1
  |4,k1=>simp at k1
  |5,k1=>simp at k1;omega
  |o+6,k1=>simp at k1
 rw[World.cell?_setCell_other (h:=by simp),World.cell?_setCell_other (h:=by simp),World.cell?_setCell_other (h:=by simp),World.cell?_setCell_other (h:=by simp),World.cell?_setCell_other (h:=by simp),World.cell?_setCell_other (h:=by simp)];exact hc i hi
def nbT (k d:Nat)(p:Int):ak:=(cC (ix (Dg.dg 4294967296 d) p (rdN k) (dgN k) (lsI k) (gsI k)) ⟨false,Dg.vl 4294967296 (Dg.dg 4294967296 d),(ai (rdN k):Int)*p⟩).1
def hdL (k:Nat):List ak:=hdF (nbT k) (lsI k) (gsI k) (rdN k^ (dgN k-1)) (if decide (k≤3)=true then[nbT k 1 (lsI k)] else[]) (ai (rdN k))
end Go.Proofs.YtddkchlamdhgcaaGreatDoor
