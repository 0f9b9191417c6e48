/-
  The whole: TopDigits, paid.
-/
import Derived.Test.YtlgkfdcmokchgaaGreatDoorTo1
import Derived.Test.YtlgkfdcmokchgaaGreatDoorUt39
namespace Go.Proofs.YtlgkfdcmokchgaaGreatDoor
open Go.RowKit
theorem nm_of {R S:List UInt8}{p:Int}(g:Bool)(h:nmL R=some (S,p))(hR:R.head? ≠some 45)(hl:R.length≤390)(p1: -6000≤p)(p2:p≤6000):
  nmV ⟨((if g=true then[45] else[])++R).toArray⟩=((g,⟨S.toArray⟩,p),0):=by
 have hsz:(ByteArray.mk ((if g=true then[45] else[])++R).toArray).size≤400:=by
  rw[mk_size,List.length_append];have:(if g=true then[(45:UInt8)] else[]).length≤1:=by split<;>simp
  omega
 obtain⟨d1,d2⟩:=dash_list ((if g=true then[45] else[])++R)
 have hg:decide (((if g=true then[(45:UInt8)] else[])++R).head? =some 45)=g:=by
  cases g
  ·exact decide_eq_false hR
  ·rfl
 have hu:(undash ⟨((if g=true then[45] else[])++R).toArray⟩).data.toList=R:=by
  rw[d2,hg]
  cases g<;>rfl
 rw[nm_list _ hsz,hu,h];simp only;rw[if_neg (by omega),d1,hg]
theorem nmL_dec (N:Nat):nmL (Lib.decDigits N)=some (Lib.decDigits N,0):=by
 obtain⟨i1,i2,i3⟩:=decDig_all N;unfold nmL;rw[cutc_none 101 _ (dig_ne (by decide) i1)];simp only;rw[cutc_none 46 _ (dig_ne (by decide) i1)];simp only;rw[List.append_nil,if_neg (by rintro(c|c|c);exact i3 c;exact c i1;cases c.1)]
 rfl
theorem dec_ra (g:Bool){N:Nat}(hN:N<2^64){t:ByteArray}(ht:t=⟨((if g=true then[45] else[])++Lib.decDigits N).toArray⟩):
  raE t=0∧raV t=if N=0 then(false,0,1,0) else(g,N/2^tz N,1,(tz N:Int)):=by
 obtain⟨i1,i2,i3⟩:=decDig_all N;have hl:(Lib.decDigits N).length≤390:=by
  have:(oW N).size≤20:=decS_le (Nat.lt_of_lt_of_le hN (by decide)) (by decide);rw[decS_list,mk_size] at this;omega
 have hh:=head_dig i1 [] i3;rw[List.append_nil] at hh;have nm:=nm_of g (nmL_dec N) hh hl (by decide) (by decide);rw[←ht] at nm;refine⟨by unfold raE;rw[nm], ?_⟩;unfold raV nrV;rw[nm];simp only;rw[mk_size,pv_all,i2]
 by_cases h:N=0
 ·rw[if_pos h,if_pos h]
 ·rw[if_neg h,if_neg h]
  have hm:nrM N 0=(N,1):=by
   unfold nrM;rw[if_neg (by decide)];rfl
  rw[hm];simp
theorem ratio_one {N:Nat}{E:Int}(hN:N<2^64)(e1: -20000≤E)(e2:E≤20000):eA (Dg.dg 4294967296 N) [1] E=0:=by
 unfold eA;rw[if_pos (pJ (Dg.norm_dg _ _ (by omega)) (Nat.le_trans (jq (L:=2) hN (by omega)) (by omega))),if_pos (show chk [1]=0 from rfl),if_neg]
 rintro(c|c)
 ·cases c
 ·unfold eJ at c
  simp at c;omega
theorem fit_whole {k:Nat}(hk:1≤k∧k≤8)(way:Int)(g:Bool){N:Nat}(h0:N≠0)(hN:N<2^64):
  fitT k way g (Dg.dg 4294967296 (N/2^tz N)) [1] (tz N:Int)=fitT k way g (Dg.dg 4294967296 N) [1] 0:=by
 obtain⟨-,-,d1,-,-,-,lg,-,w64,-,-,hg⟩:=eR hk;obtain⟨o1,o2⟩:=odd_of h0;have hD:(1:Int)≤(dgN k:Int):=by omega
 have htz:tz N≤64:=tz_bits h0 hN;have hle:=Nat.div_le_self N (2^tz N);have n0:N/2^tz N≠0:=by omega
 have r1:=ratio_one (N:=N/2^tz N) (E:=(tz N:Int)) (by omega) (by omega) (by omega);have r2:=ratio_one (N:=N) (E:=0) hN (by decide) (by decide);have hrd:cI (rdN k) (dgN k) (lsI k) (gsI k) (decide (k≤3)) g (N/2^tz N) 1 (tz N:Int) way=cI (rdN k) (dgN k) (lsI k) (gsI k) (decide (k≤3)) g N 1 0 way:=by
  refine AC (J:=dY (N/2^tz N) 1 (tz N:Int)-64) n0 (by omega) h0 (by omega) hD (by rw[Int.toNat_natCast];exact w64) (aep 0 (by omega) (by omega) (by omega) (by omega) ?_ _) (by omega);rw[show((tz N:Int)+((0:Nat):Int)).toNat=tz N by omega,show((0:Int)+((0:Nat):Int)).toNat=0 by decide,Nat.pow_zero]
  simp only[Nat.mul_one];exact o2.symm
 have hl: ∀m:Nat,m≠0→ ¬(Dg.dg 4294967296 m).length=0:=fun m hm c=>hm ((dg_len0 (by omega)).1 c)
 have hP:df (Dg.dg 4294967296 (N/2^tz N)) [1] (tz N:Int) (rdN k) (dgN k) (lsI k) (gsI k) (decide (k≤3)) g way=df (Dg.dg 4294967296 N) [1] 0 (rdN k) (dgN k) (lsI k) (gsI k) (decide (k≤3)) g way:=by
  unfold df;rw[Bq r1 hg,Bq r2 hg,if_neg (hl _ n0),if_neg (hl _ h0),Dg.vl_dg _ _ (by omega),Dg.vl_dg _ _ (by omega),show Dg.vl 4294967296 [1]=1 from rfl,hrd]
 unfold fitT;rw[hP,Bq r1 hg,Bq r2 hg]
theorem parse_whole {f:Int}(hf:dK f≠0)(way:Int)(n:Int)(h1: -9223372036854775808≤n)(h2:n≤9223372036854775807){t:ByteArray}(ht:t=⟨((if decide (n<0)=true then[45] else[])++Lib.decDigits n.natAbs).toArray⟩):psV f t way=frT n f way:=by
 obtain⟨k1,k2,k3⟩:=fF hf;obtain⟨k,rfl⟩: ∃j:Nat,f=(j:Int):=⟨f.toNat,k3.symm⟩;rw[Int.toNat_natCast] at k1 k2;have hN:n.natAbs<2^64:=by omega
 obtain⟨e1,e2⟩:=dec_ra (decide (n<0)) hN ht;unfold psV frT;rw[if_neg hf,if_neg hf,if_neg (fun c=>c e1),e2,Int.toNat_natCast]
 by_cases h0:n.natAbs=0
 ·rw[if_pos h0,h0,decide_eq_false (by omega)]
  rfl
 ·rw[if_neg h0]
  exact fit_whole ⟨k1,k2⟩ way (decide (n<0)) h0 hN
theorem dec_small (N:Nat)(hN:N<2^64):(Dg.dg 4294967296 N).length≤2∧chk (Dg.dg 4294967296 N)=0∧(Dg.dg 65536 N).length≤100:=by
 have l1:=jq (L:=2) hN (by omega);obtain⟨a,ha⟩: ∃a,a=64:=⟨_,rfl⟩;exact⟨l1,pJ (Dg.norm_dg _ _ (by omega)) (by omega),Nat.le_trans (UI (k:=a) (L:=5) (by rw[ha];exact Nat.le_of_lt hN) (by omega)) (by omega)⟩
theorem whole_back {k:Nat}(hk:1≤k∧k≤8){way:Int}(hw:1≤way∧way≤5)(n:Int)(h1: -9223372036854775808≤n)(h2:n≤9223372036854775807)(he:(frT n k way).2.2=0)(hfl:(frT n k way).2.1=0):
  dF k (frT n k way).1=0∧tiT ((bM k (frT n k way).1:Nat):Int) way (opT k (frT n k way).1)=(n,0):=by
 have hf:dK k≠0:=by rcases qt hk with h|h|h<;>omega
 obtain⟨-,-,d1,-,-,-,lg,-,w64,-,-,hg⟩:=eR hk;have hD:(1:Int)≤(dgN k:Int):=by omega
 have hN:n.natAbs<2^64:=by omega
 have hr:=ratio_one (N:=n.natAbs) (E:=0) hN (by decide) (by decide);have e0:eE (Dg.dg 4294967296 n.natAbs) [1] 0 (rdN k) (dgN k) (lsI k) (gsI k) way=0:=by rw[Bq hr hg,if_pos (way_is.2 hw)]
 have hp:df (Dg.dg 4294967296 n.natAbs) [1] 0 (rdN k) (dgN k) (lsI k) (gsI k) (decide (k≤3)) (decide (n<0)) way=if(Dg.dg 4294967296 n.natAbs).length=0 then⟨false,0,0,true,false,false⟩ else cI (rdN k) (dgN k) (lsI k) (gsI k) (decide (k≤3)) (decide (n<0)) (Dg.vl 4294967296 (Dg.dg 4294967296 n.natAbs)) (Dg.vl 4294967296 [1]) 0 way:=if_pos e0
 rw[Dg.vl_dg _ _ (by omega),show Dg.vl 4294967296 [1]=1 from rfl] at hp
 have hF:frT n k way=Dw k (pG k way (df (Dg.dg 4294967296 n.natAbs) [1] 0 (rdN k) (dgN k) (lsI k) (gsI k) (decide (k≤3)) (decide (n<0)) way)).1 (pG k way (df (Dg.dg 4294967296 n.natAbs) [1] 0 (rdN k) (dgN k) (lsI k) (gsI k) (decide (k≤3)) (decide (n<0)) way)).2.1 (pG k way (df (Dg.dg 4294967296 n.natAbs) [1] 0 (rdN k) (dgN k) (lsI k) (gsI k) (decide (k≤3)) (decide (n<0)) way)).2.2.1 (pG k way (df (Dg.dg 4294967296 n.natAbs) [1] 0 (rdN k) (dgN k) (lsI k) (gsI k) (decide (k≤3)) (decide (n<0)) way)).2.2.2.1 (pG k way (df (Dg.dg 4294967296 n.natAbs) [1] 0 (rdN k) (dgN k) (lsI k) (gsI k) (decide (k≤3)) (decide (n<0)) way)).2.2.2.2:=by
  unfold frT;rw[if_neg hf,Int.toNat_natCast];unfold fitT;rw[if_pos e0]
 rw[hF] at he hfl⊢;rw[hp] at he hfl⊢
 by_cases h0:n.natAbs=0
 ·obtain rfl:n=0:=by omega
  rw[if_pos (show(Dg.dg 4294967296 (0:Int).natAbs).length=0 from rfl)] at he hfl⊢
  obtain⟨y1,y2,-,y4⟩:=dec_of hk he;rw[y2,y4];exact⟨y1,rfl⟩
 rw[if_neg (fun c=>h0 ((dg_len0 (by omega)).1 c))] at he hfl⊢
 have hex:=Q6 (s:=decide (n<0)) (n:=n.natAbs) (e:=0) (way:=way) (R:=(rdN k:Int)) (D:=(dgN k:Int)) (L:=lsI k) (G:=gsI k) (gr:=decide (k≤3)) hD lg h0;generalize cI (rdN k) (dgN k) (lsI k) (gsI k) (decide (k≤3)) (decide (n<0)) n.natAbs 1 0 way=P at he hfl hex⊢;obtain⟨y1,y2,-,y4⟩:=dec_of hk he;have hfl2:(pG k way P).2.2.2.2=0:=by
  unfold Dw at he hfl
  by_cases c:gI k (pG k way P).1 (pG k way P).2.1 (Dg.dg 4294967296 (pG k way P).2.2.1) (pG k way P).2.2.2.1=0
  ·rw[if_pos c] at hfl
   exact hfl
  ·rw[if_neg c] at he
   exact absurd he c
 have hset:P.ex=true∧pG k way P=(if P.d=0 then 1 else 2,P.s,P.d,P.p,0):=by
  unfold pG at hfl2⊢
  by_cases ho:P.ov=true
  ·rw[if_pos ho] at hfl2
   simp at hfl2
  rw[if_neg ho] at hfl2⊢
  by_cases hl:P.un=true∧P.p<lsI k
  ·rw[if_pos hl] at hfl2
   simp at hfl2
  rw[if_neg hl] at hfl2⊢
  by_cases hx:P.ex=true
  ·exact⟨hx,by rw[if_pos hx]⟩
  ·simp only[if_neg hx] at hfl2
   by_cases hu:P.un=true
   ·rw[if_pos hu] at hfl2
    simp at hfl2
   ·rw[if_neg hu] at hfl2
    simp at hfl2
 obtain⟨hx,hs⟩:=hset;obtain⟨q1,q2,q3,-,-⟩:=hex hx;rw[hs] at y1 y2 y4⊢;simp only[if_neg q3] at y1 y2 y4⊢;refine⟨y1, ?_⟩;rw[y2,y4,if_pos trivial,q1,q2];obtain⟨o1,o2⟩:=odd_of h0;have hb:bare ⟨decide (n<0),n.natAbs,0⟩=⟨decide (n<0),n.natAbs/2^tz n.natAbs,(tz n.natAbs:Int)⟩:=by
  unfold bare;rw[if_neg h0];simp
 rw[hb];have hq:unQ (n.natAbs/2^tz n.natAbs) 1 (tz n.natAbs:Int)=n.natAbs∧unL (n.natAbs/2^tz n.natAbs) 1 (tz n.natAbs:Int)=0:=by
  unfold unQ unL;rw[fw,eM,show(-(tz n.natAbs:Int)).toNat=0 by omega,Int.toNat_natCast,Nat.pow_zero,Nat.mul_one,←o2]
  exact⟨Nat.div_one _,Nat.mod_one _⟩
 have hu:unD (decide (n<0)) (n.natAbs/2^tz n.natAbs) 1 (tz n.natAbs:Int) way=n.natAbs:=by
  unfold unD;rw[hq.1,hq.2];simp
 unfold tiT;simp only;rw[if_neg (by decide),if_pos trivial,hu,hq.2,if_pos rfl];have hin:inW (decide (n<0)) n.natAbs=true:=by
  unfold inW
  by_cases c:n<0
  ·rw[decide_eq_true c,if_pos rfl]
   exact decide_eq_true (by omega)
  ·rw[decide_eq_false c,if_neg (by decide)]
   exact decide_eq_true (by omega)
 rw[if_pos hin]
 congr 1
 by_cases c:n<0
 ·rw[decide_eq_true c,if_pos rfl]
  omega
 ·rw[decide_eq_false c,if_neg (by decide)]
  omega
theorem topDigits_walk (n f way:Int)(h1: -9223372036854775808≤n)(h2:n≤9223372036854775807)(w:World)(hT:TxW w):yC 3 #[yi n,yi f,yi way] w (yR w (.bool true)):=by
 have HB:=fun w1 (h:yB w w1)=>textBegun_any w1 (hT.l h)
 have HX:=fun w1 (h:yB w w1)=>convBegun_any w1 (hT.l h).1
 have HN:=fun w1 (_:yB w w1)=>bH w1
 have HI:=fun w1 (b:yB w w1)=>fromInt_any n f way h1 h2 w1 (hT.l b).1
 unfold mM at HI
 by_cases he:(frT n f way).2.2=0
 rotate_left
 ·exact topd_err _ _ _ n f way w he HX HB HN HI
 have hf:dK f≠0:=fun c=>by
  unfold frT at he;rw[if_pos c] at he;exact absurd he (by decide)
 rw[he] at HI;have hN:n.natAbs<2^64:=by omega
 obtain⟨l1,l2,l3⟩:=dec_small n.natAbs hN;have htz:n.natAbs≠0→tz n.natAbs≤64:=fun h=>tz_bits h hN
 have hbn:(bare (intT n)).n≤n.natAbs∧0≤(bare (intT n)).e∧(bare (intT n)).e≤64∧shN (bare (intT n)).n (bare (intT n)).e=n.natAbs:=by
  unfold bare
  by_cases h0:(intT n).n=0
  ·have:n.natAbs=0:=h0
   rw[if_pos h0,this];exact⟨by decide,by decide,by decide,rfl⟩
  ·have h0':n.natAbs≠0:=h0
   rw[if_neg h0];have e:(intT n).e+(tz (intT n).n:Int)=(tz n.natAbs:Int):=by show(0:Int)+(tz n.natAbs:Int)=_;omega
   simp only;rw[e];have:=htz h0';refine⟨Nat.div_le_self _ _,by omega,by omega, ?_⟩;rw[CE _ _ (by omega),Int.toNat_natCast];exact(odd_of h0').2.symm
 have HWh:=fun w1 (_:yB w w1)=>lwhole_any n h1 h2 w1
 have HFl: ∀xo xc w1,yB w w1→Rd w1 .i64 (.slice xo (Dg.dg 65536 (bare (intT n)).n).length xc) (Dg.dg 65536 (bare (intT n)).n)→yC 10 #[.agg #[.bool (bare (intT n)).s,.slice xo (Dg.dg 65536 (bare (intT n)).n).length xc,yi (bare (intT n)).e]] w1 (cG w1 n.natAbs):=fun xo xc w1 _ r=>by
  have:=sN _ (bare (intT n)) w1 ⟨_,rfl,r⟩ (Nat.le_trans (aH 65536 _ _ (by omega) hbn.1) (by omega)) (by omega) (by omega)
  rwa [hbn.2.2.2] at this
 have HDe:=fun(vo:Option Addr) (vc:Nat) w1 (_:yB w w1) (r:Rd w1 .i64 (yS vo n.natAbs vc) (Dg.dg 65536 n.natAbs))=>Kc _ n.natAbs 100 w1 r l3 (by omega)
 have HRe: ∀w1,yB w w1→yC 12 #[.string (oW n.natAbs)] w1 fun z w'=> ∃v,z= .returned (.tuple #[v,yi 0])∧Rd w' .u32 v (Dg.dg 4294967296 n.natAbs)∧yB w1 w':=fun w1 _=>by
  have:=Ud (Dg.dg 4294967296 n.natAbs) w1 (Dg.small_dg _ _ (by omega)) l2;rw[Dg.vl_dg _ _ (by omega)] at this;exact this.mono fun z w' ⟨v,a,b,c⟩=>⟨v,a,b.rd,c⟩
 have HPn: ∀vo vc w1,yB w w1→Rd w1 .u32 (yT vo n.natAbs vc) (Dg.dg 4294967296 n.natAbs)→yC 13 #[yT vo n.natAbs vc] w1 (yR w1 (.tuple #[.string (oW n.natAbs),yi 0])):=fun vo vc w1 _ r=>by
  have:=Cw _ _ w1 r (Dg.small_dg _ _ (by omega));unfold prS at this;rw[l2,if_pos rfl,Dg.vl_dg _ _ (by omega)] at this;exact this
 have hsz:(oW n.natAbs).size≤1000:=Nat.le_trans (decS_le (Nat.lt_of_lt_of_le hN (by decide:2^64≤10^20)) (by decide)) (by decide);have HP: ∀t,t=⟨((if decide (n<0)=true then[45] else[])++Lib.decDigits n.natAbs).toArray⟩→yH w 14 #[yi f,.string t,yi way] (.tuple #[.string (frT n f way).1,yi (frT n f way).2.1,yi 0]):=fun t ht w1 b=>by
  have:=tParse_any f t way w1 (hT.l b);rw[parse_whole hf way n h1 h2 ht] at this;unfold mM at this;rw[he] at this;exact this
 have HT:(frT n f way).2.1=0→yH w 15 #[yi f,.string (frT n f way).1,yi way] (.tuple #[yi n,yi 0,yi 0]):=fun hfl w1 b=>by
  obtain⟨k1,k2,k3⟩:=fF hf;obtain⟨k,rfl⟩: ∃j:Nat,f=(j:Int):=⟨f.toNat,k3.symm⟩;rw[Int.toNat_natCast] at k1 k2;have hw:1≤way∧way≤5:=by
   have hg:=(eR ⟨k1,k2⟩).2.2.2.2.2.2.2.2.2.2.2;have hr:=ratio_one (N:=n.natAbs) (E:=0) hN (by decide) (by decide);refine way_is.1 ?_
   cases hy:iC way
   ·unfold frT fitT at he
    rw[if_neg hf,Int.toNat_natCast,Bq hr hg,hy,if_neg (by decide),if_neg (by decide)] at he;exact absurd he (by decide)
   ·rfl
  obtain⟨p1,p2⟩:=whole_back ⟨k1,k2⟩ hw n h1 h2 he hfl;have:=toInt_any k ⟨k1,k2⟩ (frT n (k:Int) way).1 way w1 (hT.l b).1 p1 hw;rw[p2] at this;exact this
 by_cases hn:n<0
 ·have ht:(⟨#[45]⟩:ByteArray)++oW n.natAbs=⟨((if decide (n<0)=true then[45] else[])++Lib.decDigits n.natAbs).toArray⟩:=by
   rw[decide_eq_true hn,if_pos rfl,decS_list];apply ByteArray.ext;simp
  by_cases hfl:(frT n f way).2.1=0
  ·rw[hfl] at HI
   have HP':=HP _ ht;rw[hfl] at HP';exact topd_ne (bare (intT n)) n.natAbs _ (oW n.natAbs) n f way w hn hsz HX HB HN HI HWh HFl HDe HRe HPn HP' (HT hfl)
  ·exact topd_nx _ (bare (intT n)) n.natAbs _ (oW n.natAbs) n f way w hn hfl hsz HX HB HN HI HWh HFl HDe HRe HPn (HP _ ht)
 ·have ht:oW n.natAbs=⟨((if decide (n<0)=true then[45] else[])++Lib.decDigits n.natAbs).toArray⟩:=by
   rw[decide_eq_false hn,if_neg (by decide),decS_list,List.nil_append]
  by_cases hfl:(frT n f way).2.1=0
  ·rw[hfl] at HI
   have HP':=HP _ ht;rw[hfl] at HP';exact topd_pe (bare (intT n)) n.natAbs _ (oW n.natAbs) n f way w hn HX HB HN HI HWh HFl HDe HRe HPn HP' (HT hfl)
  ·exact topd_px _ (bare (intT n)) n.natAbs _ (oW n.natAbs) n f way w hn hfl HX HB HN HI HWh HFl HDe HRe HPn (HP _ ht)
end Go.Proofs.YtlgkfdcmokchgaaGreatDoor
