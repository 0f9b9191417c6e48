/-
  ConvToInts, paid.
-/
import Derived.Test.YtddkchlamdhgcaaGreatDoorSu45
namespace Go.Proofs.YtddkchlamdhgcaaGreatDoor
open Go.RowKit
def unQ (N M:Nat)(E:Int):Nat:=eZ N E/dX M E
def unL (N M:Nat)(E:Int):Nat:=eZ N E % dX M E
def unD (qs:Bool)(N M:Nat)(E way:Int):Nat:=
 if decide (unL N M E=0)=false∧gY way (dm ((unL N M E*2:Nat):Int) ((dX M E:Nat):Int)) (decide (unQ N M E % 2=1)) qs=true then unQ N M E+1 else unQ N M E
theorem unit_cut {D:Int}{N M:Nat}{E:Int}(h:dY N M E≤D-1):dj 2 D 0 true N M E=0:=by
 unfold dj aT;rw[show ai 2=1 from rfl]
 simp;omega
theorem unit_dig {D:Int}{N M:Nat}{E:Int}(h:dY N M E≤D-1)(qs:Bool)(way:Int):fM 2 D 0 true qs N M E way=unD qs N M E way∧gF 2 D 0 true N M E=unL N M E:=by
 have hs:shP 2 D 0 true N M E=E:=by
  unfold shP;rw[unit_cut h];omega
 unfold fM rf cH gF;rw[hs];exact⟨rfl,rfl⟩
theorem unit_ge {N M:Nat}{E:Int}(hN:N≠0)(hM:M≠0)(j:Nat):2^j≤unQ N M E↔(j:Int)≤dY N M E:=by
 unfold unQ;rw[BD N M E j hN hM,qD N M E];omega
theorem unit_le (qs:Bool)(N M:Nat)(E way:Int):unQ N M E≤unD qs N M E way∧unD qs N M E way≤unQ N M E+1:=by
 unfold unD
 split<;>omega
theorem unit_round {D G:Int}{N M:Nat}{E:Int}(d1:1≤D)(hG:0≤G)(h:dY N M E≤D-1)(qs:Bool)(way:Int)(hN:N≠0)(hM:M≠0)(hn:unD qs N M E way≠2^D.toNat):
  ∃un,cI 2 D 0 G true qs N M E way=⟨qs,unD qs N M E way,0,decide (unL N M E=0),false,un⟩:=by
 obtain⟨e1,e2⟩:=unit_dig h qs way;rw[kJ true qs N M E way d1 hG hN hM,e1,e2,unit_cut h];have c1:io 2 D (unD qs N M E way)=unD qs N M E way:=by
  unfold io;rw[show ai 2=1 from rfl,Nat.one_mul,if_neg hn]
 have c2:gD 2 D (unD qs N M E way) 0=0:=by
  unfold gD;rw[show ai 2=1 from rfl,Nat.one_mul,if_neg hn]
 rw[c1,c2];refine⟨decide (aT 2 D (dY N M E)<0), ?_⟩;rw[decide_eq_false (show¬G<0 by omega),ite_self]
theorem unit_over {D:Int}{N M:Nat}{E:Int}(d1:1≤D)(qs:Bool)(way:Int)(hN:N≠0)(hM:M≠0)(h:D≤dY N M E∨(dY N M E≤D-1∧unD qs N M E way=2^D.toNat)):
  (cI 2 D 0 0 true qs N M E way).ov=true:=by
 rw[kJ true qs N M E way d1 (Int.le_refl 0) hN hM];refine decide_eq_true ?_;unfold gD;rw[show ai 2=1 from rfl,Nat.one_mul]
 rcases h with h| ⟨h,hd⟩
 ·have:1≤dj 2 D 0 true N M E:=by
   unfold dj aT;rw[show ai 2=1 from rfl]
   simp
   split<;>omega
  split<;>omega
 ·rw[(unit_dig h qs way).1,unit_cut h,if_pos hd]
  omega
theorem unit_s {D G:Int}(gr qs:Bool)(N M:Nat)(E way:Int)(d1:1≤D)(hG:0≤G)(hN:N≠0)(hM:M≠0):(cI 2 D 0 G gr qs N M E way).s=qs∧(cI 2 D 0 G gr qs N M E way).d<2^D.toNat:=by
 rw[kJ gr qs N M E way d1 hG hN hM];refine⟨rfl, ?_⟩
 show io 2 D (fM 2 D 0 gr qs N M E way)<2^D.toNat
 have h:=rP 2 D 0 gr N M E d1 hN hM;have h2:fM 2 D 0 gr qs N M E way≤cH 2 D 0 gr N M E+1:=by
  unfold fM
  split<;>omega
 rw[show ai 2=1 from rfl,Nat.one_mul] at h
 unfold io;rw[show ai 2=1 from rfl,Nat.one_mul,Nat.one_mul]
 by_cases hc:fM 2 D 0 gr qs N M E way=2^D.toNat
 ·rw[if_pos hc]
  exact Nat.pow_lt_pow_right (by omega) (by omega)
 ·rw[if_neg hc]
  omega
def inW (s:Bool)(d:Nat):Bool:=if s=true then decide (d≤9223372036854775808) else decide (d<9223372036854775808)
theorem whB_is (s:Bool)(d:Nat):whB false s d=inW s d:=by
 unfold whB inW
 cases s<;>rw[Bool.eq_iff_iff]<;>simp<;>omega
theorem whR_is {s:Bool}{d:Nat}(h:inW s d=true):whR false s d=if s=true then-(d:Int) else d:=by
 unfold whR;rw[whB_is,if_pos h];unfold inW at h
 cases s<;>simp at h⊢
 ·rw[IntKind.wrap_i64]
  omega
 ·rw[IntKind.wrap_i64,IntKind.wrap_u64]
  omega
def tiT (c way:Int)(x:ak):Int×Int:=
 if c=1 then(0,0) else if c=2 then(if inW x.s (unD x.s x.n 1 x.e way)=true then(if x.s=true then-(unD x.s x.n 1 x.e way:Int) else(unD x.s x.n 1 x.e way:Int),if unL x.n 1 x.e=0 then 0 else 1) else(0,16)) else(0,16)
theorem inW_big {s:Bool}{d:Nat}(h:2^64≤d):inW s d=false:=by
 unfold inW
 cases s<;>simp<;>omega
theorem unit_prog (x:ak)(way:Int)(h0:x.n≠0):(if whB (cI 2 64 0 0 true x.s x.n 1 x.e way).ov (cI 2 64 0 0 true x.s x.n 1 x.e way).s ((cI 2 64 0 0 true x.s x.n 1 x.e way).d:Int)=true then whR (cI 2 64 0 0 true x.s x.n 1 x.e way).ov (cI 2 64 0 0 true x.s x.n 1 x.e way).s ((cI 2 64 0 0 true x.s x.n 1 x.e way).d:Int) else 0)=(tiT 2 way x).1∧
  (if whB (cI 2 64 0 0 true x.s x.n 1 x.e way).ov (cI 2 64 0 0 true x.s x.n 1 x.e way).s ((cI 2 64 0 0 true x.s x.n 1 x.e way).d:Int)=true then(if(cI 2 64 0 0 true x.s x.n 1 x.e way).ex=true then 0 else 1) else 16)=(tiT 2 way x).2:=by
 have hle:=unit_le x.s x.n 1 x.e way
 by_cases h:(64:Int)≤dY x.n 1 x.e∨(dY x.n 1 x.e≤64-1∧unD x.s x.n 1 x.e way=2^64)
 ·have ho:=unit_over (D:=64) (by omega) x.s way h0 (by omega) h
  have hb:inW x.s (unD x.s x.n 1 x.e way)=false:=by
   rcases h with h| ⟨-,h⟩
   ·exact inW_big (Nat.le_trans ((unit_ge h0 (by omega) 64).2 h) hle.1)
   ·exact inW_big (Nat.le_of_eq h.symm)
  have hw: ∀s N,whB true s N=false:=fun s N=>by
   unfold whB;simp
  have e:tiT 2 way x=(0,16):=by
   unfold tiT;rw[if_neg (by decide),if_pos rfl,if_neg (by rw[hb];decide)]
  rw[ho,hw,e];exact⟨rfl,rfl⟩
 ·obtain⟨un,e⟩:=unit_round (D:=64) (G:=0) (by omega) (by omega) (show dY x.n 1 x.e≤64-1 by omega) x.s way h0 (by omega) (fun c=>h (.inr ⟨by omega,c⟩))
  rw[e]
  show(if whB false x.s (unD x.s x.n 1 x.e way:Int)=true then whR false x.s (unD x.s x.n 1 x.e way:Int) else 0)=_∧(if whB false x.s (unD x.s x.n 1 x.e way:Int)=true then(if decide (unL x.n 1 x.e=0)=true then(0:Int) else 1) else 16)=_
  have e:tiT 2 way x=if inW x.s (unD x.s x.n 1 x.e way)=true then(if x.s=true then-(unD x.s x.n 1 x.e way:Int) else(unD x.s x.n 1 x.e way:Int),if unL x.n 1 x.e=0 then 0 else 1) else(0,16):=by
   unfold tiT;rw[if_neg (by decide),if_pos rfl]
  rw[whB_is,e]
  by_cases hi:inW x.s (unD x.s x.n 1 x.e way)=true
  ·rw[if_pos hi,if_pos hi,if_pos hi,whR_is hi]
   refine⟨rfl, ?_⟩
   show(if decide (unL x.n 1 x.e=0)=true then(0:Int) else 1)=if unL x.n 1 x.e=0 then 0 else 1
   simp
  ·rw[if_neg hi,if_neg hi,if_neg hi]
   exact⟨rfl,rfl⟩
theorem toInt_any (k:Nat)(hk:1≤k∧k≤8)(s:ByteArray)(way:Int)(w:World)(hT:Tab w)(hp:dF k s=0)(hw:1≤way∧way≤5):
  yC 7 #[yi k,.string s,yi way] w (yR w (.tuple #[yi (tiT ((bM k s:Nat):Int) way (opT k s)).1,yi (tiT ((bM k s:Nat):Int) way (opT k s)).2,yi 0])):=by
 obtain⟨sx,z2,n2⟩:=ir hk hp;have HQ:=fun w1 (b:yB w w1)=>(convread_any k s way w1 (hT.l b)).2.2 hp hw
 have HR:=fun xo xc eo ec w1 (_:yB w w1) (rx:Rd w1 .u32 (.slice xo (Dg.dg 4294967296 (opT k s).n).length xc) (Dg.dg 4294967296 (opT k s).n)) (re:Rd w1 .u32 (.slice eo 1 ec) [1])=>(jM (opT k s).s xo xc (Dg.dg 4294967296 (opT k s).n) eo ec [1] (opT k s).e 2 64 0 0 true way w1 rx re (Dg.small_dg _ _ (by omega)) small_one).mono (fun z w' h=>by
  obtain⟨v,h1,h2,h3⟩:=h;obtain⟨po,pc,e⟩:=h2.rd.shape;subst e;exact(⟨po,pc,h1,h2.rd,h3⟩: ∃po pc,z= .returned (.tuple #[.agg #[.bool (df (Dg.dg 4294967296 (opT k s).n) [1] (opT k s).e 2 64 0 0 true (opT k s).s way).s,.slice po (Dg.dg 4294967296 (df (Dg.dg 4294967296 (opT k s).n) [1] (opT k s).e 2 64 0 0 true (opT k s).s way).d).length pc,yi (df (Dg.dg 4294967296 (opT k s).n) [1] (opT k s).e 2 64 0 0 true (opT k s).s way).p,.bool (df (Dg.dg 4294967296 (opT k s).n) [1] (opT k s).e 2 64 0 0 true (opT k s).s way).ex,.bool (df (Dg.dg 4294967296 (opT k s).n) [1] (opT k s).e 2 64 0 0 true (opT k s).s way).ov,.bool (df (Dg.dg 4294967296 (opT k s).n) [1] (opT k s).e 2 64 0 0 true (opT k s).s way).un],yi (eE (Dg.dg 4294967296 (opT k s).n) [1] (opT k s).e 2 64 0 0 way)])∧Rd w' .u32 (.slice po (Dg.dg 4294967296 (df (Dg.dg 4294967296 (opT k s).n) [1] (opT k s).e 2 64 0 0 true (opT k s).s way).d).length pc) (Dg.dg 4294967296 (df (Dg.dg 4294967296 (opT k s).n) [1] (opT k s).e 2 64 0 0 true (opT k s).s way).d)∧yB w1 w'))
 have HT:=fun xo xc w1=>wratio_any (opT k s) xo xc w1
 have hW: ∀(t:fz),t.d<2^64→ ∀po pc w1,yB w w1→Rd w1 .u32 (yT po t.d pc) (Dg.dg 4294967296 t.d)→yC 33 #[ypV t.s (yT po t.d pc) t.p t.ex t.ov t.un] w1 (yR w1 (.tuple #[yi (whR t.ov t.s (t.d:Int)),.bool (whB t.ov t.s (t.d:Int))])):=fun t ht po pc w1 _ r=>cwhole_any (t.d:Int) t.s t.ov t.p t.ex t.un t.d po pc w1 (fun w2 b2=>by
  have:=XF (yT po t.d pc) (Dg.dg 4294967296 t.d) w2 (r.l b2) (Dg.small_dg _ _ (by omega)) (jq ht (by omega));rw[Dg.vl_dg _ _ (by omega)] at this;exact this.mono (fun z w' h=>⟨h.1,by rw[h.2];exact Below.refl _ _⟩))
 have hl:(Dg.dg 4294967296 (opT k s).n).length≤1200:=jq sx.1 (by omega);have hq:eA (Dg.dg 4294967296 (opT k s).n) [1] (opT k s).e=0:=by
  unfold eA;rw[if_pos (pJ (Dg.norm_dg _ _ (by omega)) hl),if_pos (show chk [1]=0 from rfl),if_neg]
  rintro(c|c)
  ·cases c
  ·unfold eJ at c
   simp at c;have:=sx.2;omega
 have hC:eE (Dg.dg 4294967296 (opT k s).n) [1] (opT k s).e 2 64 0 0 way=0:=by rw[Bq hq (by decide),if_pos (way_is.2 hw)]
 rw[hC] at HR;have hc:=zl hp
 by_cases h2:((bM k s:Nat):Int)=2
 ·have h0:=n2 (by omega)
  have hP:df (Dg.dg 4294967296 (opT k s).n) [1] (opT k s).e 2 64 0 0 true (opT k s).s way=cI 2 64 0 0 true (opT k s).s (opT k s).n 1 (opT k s).e way:=by
   unfold df;rw[if_pos hC,if_neg (fun c=>h0 ((Dg.dg_nil_iff 4294967296 _ (by omega)).1 (List.length_eq_zero_iff.1 c))),Dg.vl_dg _ _ (by omega)]
   rfl
  rw[hP] at HR;have hd:=(unit_s (D:=64) (G:=0) true (opT k s).s (opT k s).n 1 (opT k s).e way (by omega) (by omega) h0 (by omega)).2;have he:=unit_prog (opT k s) way h0;rw[h2] at HQ⊢;exact toInt_num2 2 k way _ _ _ _ _ _ _ _ _ _ _ _ _ (opT k s) s w (by decide) (by decide) he.1.symm he.2.symm HQ HT HR (hW _ hd)
 ·have hx:=z2 (by omega)
  by_cases h1:((bM k s:Nat):Int)=1
  ·have hP:df (Dg.dg 4294967296 (opT k s).n) [1] (opT k s).e 2 64 0 0 true (opT k s).s way=⟨false,0,0,true,false,false⟩:=by
    unfold df;rw[if_pos hC,if_pos (by rw[hx];rfl)]
   rw[hP] at HR;rw[h1] at HQ⊢;exact toInt_num1 1 k way _ _ _ _ _ _ _ _ _ _ _ _ _ (opT k s) s w (by decide) rfl rfl HQ HT HR (hW ⟨false,0,0,true,false,false⟩ (by decide))
  ·have e:tiT ((bM k s:Nat):Int) way (opT k s)=(0,16):=by
    unfold tiT;rw[if_neg h1,if_neg h2]
   rw[e];exact toInt_oth _ k way _ _ _ _ s w (by simpa using h1) (by simpa using h2) HQ
theorem opn_one (n way:Int)(s:ByteArray):CK n way [s]=if dF n s=0 then(if iC way=true then 0 else 6) else dF n s:=by
 unfold CK fT fT
 by_cases hf:dK n=0
 ·rw[if_pos hf,show dF n s=6 from if_pos hf]
  rfl
 ·rw[if_neg hf]
  by_cases hp:dF n s=0
  ·rw[if_pos hp,if_pos rfl,if_pos hp]
  ·simp[hp]
theorem two63 (j:Nat)(h:j=63):2^j=9223372036854775808:=by
 subst h;rfl
theorem convToInts_walk (n:Int)(s:ByteArray)(way:Int)(w:World)(hT:Tab w):yC 3 #[yi n,.string s,yi way] w (yR w (.bool true)):=by
 have HB:=fun w1 (b:yB w w1)=>convBegun_any w1 (hT.l b)
 by_cases h:CK n way [s]=0
 rotate_left
 ·refine toInts_err _ n way s w (by simpa using h) (fun w1 b1=> ?_) (fun pb w1 hl=>open_err h (by simp) pb w1 hl) HB
  rw[opn_one] at h⊢
  by_cases hp:dF n s=0
  ·rw[if_pos hp] at h⊢
   cases hy:iC way
   ·exact toInt_err _ 6 n way _ _ _ _ s w1 (by decide) (fun w2 b2=>(convread_any n s way w2 ((hT.l b1).l b2)).2.1 hp (fun c=>by rw[way_is.2 c] at hy;cases hy))
   ·rw[hy] at h
    exact absurd rfl h
  ·rw[if_neg hp]
   exact toInt_err _ _ n way _ _ _ _ s w1 hp (fun w2 b2=>(convread_any n s way w2 ((hT.l b1).l b2)).1 hp)
 obtain⟨k,hk,rfl,hf,he,hw⟩:=opn_right h;have ha:=eU he s (by simp);obtain⟨a1,a2,-,-⟩:=acu hk ha;have hOk: ∀c,((bM (k:Int) s:Nat):Int)=c→ ∀pb w1,au w1 pb 9 [.string s]→yC 8 #[yi (k:Int),yi way,.slice (some ⟨pb,0,none⟩) 1 1] w1 fun zz w'=> ∃gb cap xo xc,zz= .returned (.tuple #[.slice (some ⟨gb,0,none⟩) 1 cap,yi 0])∧w'.rangeAt gb 0 [yi c,.bool (dz (k:Int) s),.bool (opT (k:Int) s).s,.slice xo (Dg.dg 65536 (opT (k:Int) s).n).length xc,yi (opT (k:Int) s).e]∧Rd w' .i64 (.slice xo (Dg.dg 65536 (opT (k:Int) s).n).length xc) (Dg.dg 65536 (opT (k:Int) s).n)∧yB w1 w':=fun c hc pb w1 hl=>(open_ok h (by simp) (by simp) pb w1 hl).mono (fun z w' hz=>by
  obtain⟨gb,cap,e,hr,bl⟩:=hz;obtain⟨xo,xc,r0,k0⟩:=hr.each 0 s rfl;unfold rfC at r0;rw[←a1,←a2] at r0;rw[←a1] at k0;subst hc;exact⟨gb,cap,xo,xc,e,r0,k0,bl⟩)
 have HA:=fun w1 (b1:yB w w1)=>toInt_any k hk s way w1 (hT.l b1) ha hw
 obtain⟨sx,z2,n2⟩:=ir hk ha;generalize hx:opT (k:Int) s=x at*
 by_cases h1:((bM (k:Int) s:Nat):Int)=1
 ·rw[h1] at HA
  exact toInts_nil _ x (k:Int) way s w HA (hOk 1 h1) HB
 by_cases h2:((bM (k:Int) s:Nat):Int)=2
 rotate_left
 ·have e:tiT ((bM (k:Int) s:Nat):Int) way x=(0,16):=by
   unfold tiT;rw[if_neg h1,if_neg h2]
  rw[e] at HA;exact toInts_oth _ _ x (k:Int) way s w (by simpa using h1) (by simpa using h2) HA (hOk _ rfl) HB
 have h0:=n2 (by omega);rw[h2] at HA;have hbits:=adR sx;obtain⟨hxn,e1,e2⟩:=sx;have htop:dY x.n 1 x.e≤16564:=by
  have:=Ve 2 1 x.n 1 x.e;unfold aT at this;rw[show ai 2=1 from rfl,show bitLen 1=1 from rfl] at this
  omega
 obtain⟨d,hd⟩: ∃d,unD x.s x.n 1 x.e way=d:=⟨_,rfl⟩;have hle:=unit_le x.s x.n 1 x.e way;obtain⟨J,hJ⟩: ∃J:Nat,J=16565:=⟨_,rfl⟩;have hQ:unQ x.n 1 x.e<2^J:=Nat.lt_of_not_le fun c=>by
  have:=(unit_ge h0 (by omega) J).1 c;omega
 have hd2:d≤2^J:=by omega
 obtain⟨un,hP⟩:=unit_round (D:=17000) (G:=17000) (by omega) (by omega) (show dY x.n 1 x.e≤17000-1 by omega) x.s way h0 (by omega) (fun c=>by
  have:2^J<2^ (17000:Int).toNat:=Nat.pow_lt_pow_right (by omega) (by omega);omega)
 rw[hd] at hP;have HR:=fun xo xc eo ec w1 (_:yB w w1) (rx:Rd w1 .i64 (yS xo x.n xc) (Dg.dg 65536 x.n)) (re:Rd w1 .i64 (.slice eo 1 ec) [1])=>(roundTo_long 2 17000 0 17000 true x.s xo xc eo ec x.n 1 x.e way w1 rfl rfl rfl rfl (way_is.2 hw) rx re (Nat.le_trans (UI (k:=64) (Nat.le_of_lt hxn) (L:=5) (by omega)) (by omega)) (by decide) h0 (by omega) (by omega) (by omega) (by rw[show bitLen 1=1 from rfl];omega) (by rw[show bitLen 1=1 from rfl];omega)).mono (fun z w' h=>by
  rw[hP] at h;obtain⟨v,h1,h2,h3⟩:=h;obtain⟨po,pc,e⟩:=h2.shape;subst e;exact(⟨po,pc,h1,h2,h3⟩: ∃po pc,z= .returned (ypV x.s (yS po d pc) 0 (decide (unL x.n 1 x.e=0)) false un)∧Rd w' .i64 (yS po d pc) (Dg.dg 65536 d)∧yB w1 w'))
 have HP:=fun w1=>vJ 63 (by omega) w1
 obtain⟨H,hH⟩: ∃H,2^63=H:=⟨_,rfl⟩;rw[hH] at HP;have hH1:H=9223372036854775808:=by rw[←hH]
 have hHl:(Dg.dg 65536 H).length≤30000:=Nat.le_trans (UI (k:=63) (L:=4) (Nat.le_of_eq hH.symm) (by omega)) (by omega);have hdl:(Dg.dg 65536 d).length≤30000:=Nat.le_trans (UI (L:=1036) hd2 (by omega)) (by omega);have HM:=fun mo mc w1 (_:yB w w1) (r:Rd w1 .i64 (yS mo H mc) (Dg.dg 65536 H))=>uI (ydV false (yS mo H mc) 0) ⟨false,H,0⟩ w1 ⟨_,rfl,r⟩
 have HN:=fun q w1 (l:au w1 q 3 [yi 1])=>uI (ydV false (.slice (some ⟨q,0,none⟩) 1 1) 0) ⟨false,1,0⟩ w1 ⟨_,rfl,rd_one16 (l.c 0 rfl)⟩
 have k0: -((0:Nat):Int)≤(dB ⟨false,H,0⟩).e:=by show 0≤0;omega
 have k1: -((0:Nat):Int)≤(dB ⟨false,1,0⟩).e:=by show 0≤0;omega
 have kd: -((0:Nat):Int)≤(⟨x.s,d,0⟩:ak).e:=by show 0≤0;omega
 have kh: -((0:Nat):Int)≤(⟨false,H,0⟩:ak).e:=by show 0≤0;omega
 have HL:=fun uo uc vo vc w1 (_:yB w w1) (ru:Rd w1 .i64 (.slice uo (Dg.dg 65536 (dB ⟨false,H,0⟩).n).length uc) (Dg.dg 65536 (dB ⟨false,H,0⟩).n)) (rv:Rd w1 .i64 (.slice vo (Dg.dg 65536 (dB ⟨false,1,0⟩).n).length vc) (Dg.dg 65536 (dB ⟨false,1,0⟩).n))=>lw _ _ (dB ⟨false,H,0⟩) (dB ⟨false,1,0⟩) w1 ⟨_,rfl,ru⟩ ⟨_,rfl,rv⟩ hHl (by decide) (by show(-200000:Int)≤0;omega) (by show 0≤200000;omega) (by show(-200000:Int)≤0;omega) (by show 0≤200000;omega)
 have hlw:bare (cO (dB ⟨false,H,0⟩) (dB ⟨false,1,0⟩))=⟨true,9223372036854775809,0⟩:=by
  rw[hH1]
  kernel_rfl
 rw[hlw] at HL;have kl: -((0:Nat):Int)≤(⟨true,9223372036854775809,0⟩:ak).e:=by show 0≤0;omega
 have HC:=fun jo jc qo qc w1 (_:yB w w1) (rj:Rd w1 .i64 (yS jo 9223372036854775809 jc) (Dg.dg 65536 9223372036854775809)) (rq:Rd w1 .i64 (yS qo d qc) (Dg.dg 65536 d))=>gQ (ydV true (yS jo 9223372036854775809 jc) 0) (ydV x.s (yS qo d qc) 0) ⟨true,9223372036854775809,0⟩ ⟨x.s,d,0⟩ w1 ⟨_,rfl,rj⟩ ⟨_,rfl,rq⟩ (by decide) hdl (by show(-200000:Int)≤0;omega) (by show 0≤200000;omega) (by show(-200000:Int)≤0;omega) (by show 0≤200000;omega)
 have HE:=fun qo qc ko kc w1 (_:yB w w1) (rq:Rd w1 .i64 (yS qo d qc) (Dg.dg 65536 d)) (rk:Rd w1 .i64 (yS ko H kc) (Dg.dg 65536 H))=>gQ (ydV x.s (yS qo d qc) 0) (ydV false (yS ko H kc) 0) ⟨x.s,d,0⟩ ⟨false,H,0⟩ w1 ⟨_,rfl,rq⟩ ⟨_,rfl,rk⟩ hdl hHl (by show(-200000:Int)≤0;omega) (by show 0≤200000;omega) (by show(-200000:Int)≤0;omega) (by show 0≤200000;omega)
 rw[Z0 kl kd] at HC;rw[Z0 kd kh] at HE;have v1:V 0 (⟨true,9223372036854775809,0⟩:ak)= -9223372036854775809:=by decide
 have v2:V 0 (⟨x.s,d,0⟩:ak)=if x.s=true then-(d:Int) else(d:Int):=by
  unfold V sz;simp
 have v3:V 0 (⟨false,H,0⟩:ak)=9223372036854775808:=by
  rw[hH1]
  decide
 rw[v1] at HC;rw[v3] at HE;have hs: ∀z:Int,sgn z<0↔z<0:=fun z=>by
  unfold sgn
  split
  ·omega
  ·split<;>omega
 unfold tiT at HA;rw[if_neg (by decide),if_pos rfl,hd] at HA
 cases hi:inW x.s d
 ·rw[hi,if_neg (by decide)] at HA
  unfold inW at hi
  by_cases c1:sgn (-9223372036854775809-V 0 (⟨x.s,d,0⟩:ak))<0
  ·refine toInts_high _ x.s _ false un x _ _ _ d H 0 _ _ (k:Int) way s w c1 ?_ HA (hOk 2 h2) (fun xo xc w1=>refOfD_any x xo xc w1) HR HP HM HN HL HC HE HB
   rw[hs,v2] at c1⊢
   cases hxs:x.s<;>rw[hxs] at hi c1<;>simp at hi c1⊢ <;>omega
  ·exact toInts_low _ x.s _ false un x _ _ _ d H 0 _ (k:Int) way s w c1 HA (hOk 2 h2) (fun xo xc w1=>refOfD_any x xo xc w1) HR HP HM HN HL HC HB
 ·rw[hi,if_pos rfl] at HA
  unfold inW at hi;have hd63:d≤9223372036854775808:=by
   cases hxs:x.s<;>rw[hxs] at hi<;>simp at hi<;>omega
  refine toInts_in _ x.s _ false un x _ _ _ d H 0 _ _ d (k:Int) way _ _ s w ?_ ?_ (UI (k:=63) (by omega) (by omega)) hd63 (fun c=> ?_) rfl (by simp) HA (hOk 2 h2) (fun xo xc w1=>refOfD_any x xo xc w1) HR HP HM HN HL HC HE (fun qo qc w1 _ rq=> ?_) HB
  ·rw[hs,v2]
   cases hxs:x.s<;>rw[hxs] at hi<;>simp at hi⊢ <;>omega
  ·rw[hs,v2]
   cases hxs:x.s<;>rw[hxs] at hi<;>simp at hi⊢ <;>omega
  ·rw[c] at hi
   simpa using hi
  ·have:=sN (ydV false (yS qo d qc) 0) ⟨false,d,0⟩ w1 ⟨_,rfl,rq⟩ (Nat.le_trans hdl (by omega)) (by show(-1000000:Int)≤0;omega) (by show 0≤1000000;omega)
   have e:shN d 0=d:=by
    unfold shN;simp
   rw[show shN (⟨false,d,0⟩:ak).n (⟨false,d,0⟩:ak).e=shN d 0 from rfl,e] at this
   exact this
end Go.Proofs.YtddkchlamdhgcaaGreatDoor
