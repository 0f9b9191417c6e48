/-
  Texts laid together: Se5a, Sr1, Sp5, Sp6, Sp10, Se7, Sr6.
-/
import Derived.Test.YtiakgfmlpdfhdaaDoorSy01
import Derived.Test.YtiakgfmlpdfhdaaDoorSy03
set_option maxRecDepth 100000
set_option maxHeartbeats 3200000
namespace Go.Proofs.YtiakgfmlpdfhdaaDoor
open Go.RowKit
def SumR (w:World)(n k tn:Nat)(R:Nat×Nat×Nat)(tv pv mv kv:Value)(wr:World):Prop:=
 ∃f i t s r d:Nat,kv=yi (d:Int)∧Rd wr .i64 tv (Dg.dg 65536 t)∧Rd wr .i64 pv (Dg.dg 65536 s)∧Rd wr .i64 mv (Dg.dg 65536 r)∧yB w wr∧Hid (InvN n k tn R f i t s r∧d=2*i+1)
theorem sumOf_W0 (n k:Nat)(w:World)(hn:2≤n∧n<65536)(hk:k≤60000)
  (HP2: ∀(m:Nat) w1,m≤k→yC 37 #[yi m] w1 (cG w1 (2^m)))
  (HF: ∀(m:Nat) w1,m<9223372036854775808→yC 32 #[yi m] w1 (cG w1 m))
  (HI: ∀(m d:Nat) v u w1,Rd w1 .i64 v (Dg.dg 65536 m)→Rd w1 .i64 u (Dg.dg 65536 d)→0<d∧d<9223372036854775808∧m≤2^k→yC 36 #[v,u] w1 (JI w1 (m/d) (m % d)))
  (HP: ∀(a b:Nat) v u w1,Rd w1 .i64 v (Dg.dg 65536 a)→Rd w1 .i64 u (Dg.dg 65536 b)→a≤(k+2)*2^k∧b≤2^k→yC 34 #[v,u] w1 (cG w1 (a+b)))
  (HL: ∀(a b:Nat) v u w1,Rd w1 .i64 v (Dg.dg 65536 a)→Rd w1 .i64 u (Dg.dg 65536 b)→a≤(k+2)*2^k∧b≤a→yC 33 #[v,u] w1 (cG w1 (a-b))):
  yC 17 #[yi n,yi k,.bool false] w (cG w ((lp (n*n) 0 (k+1) 0 (2^k/n) 0 0).2.1-(lp (n*n) 0 (k+1) 0 (2^k/n) 0 0).2.2)):=by
 replace HP2:Hid _:=HP2;replace HF:Hid _:=HF;replace HI:Hid _:=HI;replace HP:Hid _:=HP;replace HL:Hid _:=HL;obtain⟨R,hR⟩: ∃R,lp (n*n) 0 (k+1) 0 (2^k/n) 0 0=R:=⟨_,rfl⟩;rw[hR];replace hR:Hid _:=hR;have hp0:Hid (n<9223372036854775808):=by
  show n<9223372036854775808
  omega
 have hpk:Hid (0<n∧n<9223372036854775808∧2^k≤2^k):=⟨by omega,hp0.out,Nat.le_refl _⟩;replace hn:Hid _:=hn;replace hk:Hid _:=hk
 go_enter Tryd.func17,Tryd.ntmps17
 have b0:=Below.refl w.heap.size w
 go_wp2_with fail
 refine(HP2.out k _ (Nat.le_refl _)).mono ?_;rintro zz w1 ⟨v1x3,rfl,r1x4,bb2⟩;have b5:=aa b0 bb2;obtain⟨ho,hc,hv⟩:=r1x4.shape;subst hv;clear b0 bb2
 go_wp2_with fail
 refine(HF.out n _ hp0.out).mono ?_;rintro zz w6 ⟨v1x8,rfl,r1x9,bb7⟩;have r10:=r1x4.l bb7;have b11:=aa b5 bb7;obtain⟨eo,ec,hv⟩:=r1x9.shape;subst hv;clear r1x4 b5 bb7
 go_wp2_with fail
 refine(HI.out (2^k) n _ _ _ r10 r1x9 hpk.out).mono ?_;rintro zz w12 ⟨v1x14,v2x15,rfl,r1x16,r2x17,bb13⟩;have b18:=aa b11 bb13;obtain⟨go,gc,hv⟩:=r1x16.shape;subst hv;obtain⟨mo,mc,hv⟩:=r2x17.shape;subst hv;clear r10 r1x9 b11 bb13;have hbb:=b18;have rg:=r1x16;clear r1x16 r2x17 b18
 go_wp2
 go_loopw [7,9,10,11] (fun tv pv mv kv wr=>SumR w n k 0 R tv pv mv kv wr) (fun _ _ _ kv _=>(((2*k+3:Nat):Int)-intOf kv).toNat)
 case atStart=>exact⟨k+1,0,2^k/n,0,0,1,rfl,rg,aN _ _,aN _ _,hbb,by rw[←hR.out];exact inv_zero hn.out.1,rfl⟩
 case round=>
  clear rg hbb;obtain⟨f,i,t,s,r,d,rfl,rg,rs,rr,hb0,hI⟩:=hrel;obtain⟨go,gc,hv⟩:=rg.shape;subst hv;obtain⟨so,sc,hv⟩:=rs.shape;subst hv;obtain⟨ro,rc,hv⟩:=rr.shape;subst hv
  by_cases ht:t=0
  ·subst ht
   obtain⟨hR2,hrs,hik,hsk⟩:=inv_end hI.out.1;subst hR2;have hmm:Hid (s≤(k+2)*2^k∧r≤s):=⟨hsk,hrs⟩;clear hI hik hsk hrs hR
   go_wp2_with fail
   refine(HL.out s r _ _ _ rs rr hmm.out).mono ?_;rintro zz w301 ⟨v1x303,rfl,r1x304,bb302⟩;have b305:=aa hb0 bb302;obtain⟨jo,jc,hv⟩:=r1x304.shape;subst hv;clear rg rs rr hb0 bb302
   go_wp2
   go_ret
   exact⟨_,rfl,r1x304,b305⟩
  ·have hk0:=hk.out
   have hb3:t≤2^k:=hI.out.1.2.2.2.2.1;have hbs0:s≤i*2^k:=hI.out.1.2.2.2.1;have hif:i+f≤k+1:=hI.out.1.2.2.1;have hf0:f≠0:=by rintro rfl;exact ht (by simpa using hI.out.1.2.1)
   have hik:i≤k:=by omega
   have hbs:s≤(k+2)*2^k:=Nat.le_trans hbs0 (Nat.mul_le_mul_right _ (by omega));have hbt:t≤2^k:=hb3;have hbr:r≤s:=by
    rcases Nat.mod_two_eq_zero_or_one i with c|c
    ·exact hI.out.1.2.2.2.2.2.1 c
    ·exact Nat.le_trans (Nat.le_add_right _ _) (hI.out.1.2.2.2.2.2.2.1 c)
   have hl0:0< (Dg.dg 65536 t).length:=by
    rcases Nat.eq_zero_or_pos (Dg.dg 65536 t).length with c|c
    ·exact absurd ((Dg.dg_nil_iff 65536 _ (by omega)).1 (List.length_eq_zero_iff.1 c)) ht
    ·exact c
   have hd:=hI.out.2;obtain⟨i1,hi1⟩: ∃x,x=i+1:=⟨_,rfl⟩;obtain⟨d2,hd2⟩: ∃x,x=d+2:=⟨_,rfl⟩;obtain⟨nn,hnn⟩: ∃x,x=n*n:=⟨_,rfl⟩;have hnb:nn<4294967296∧0<nn:=by
    have h1:=hn.out;have h2:n*n≤65535*n:=Nat.mul_le_mul_right _ (by omega);have h3:0<n*n:=Nat.mul_pos (by omega) (by omega);omega
   have hw1:IntKind.i64.wrap ((n:Int)*(n:Int))=(nn:Int):=by
    have e:(n:Int)*(n:Int)=(nn:Int):=by rw[hnn,Int.natCast_mul]
    rw[e];exact IntWalk.i64_in _ ⟨by omega,by omega⟩
   have hw2:IntKind.i64.wrap ((d:Int)+2)=(d2:Int):=by
    rw[show d+2=(d2:Int) by omega]
    exact IntWalk.i64_in _ ⟨by omega,by omega⟩
   have hpd:Hid (d<9223372036854775808):=by
    show d<9223372036854775808
    omega
   have hpo:Hid (0<d∧d<9223372036854775808∧t≤2^k):=⟨by omega,by omega,hb3⟩;have hpnn:Hid (nn<9223372036854775808):=by
    show nn<9223372036854775808
    omega
   have hpn:Hid (0<nn∧nn<9223372036854775808∧t≤2^k):=⟨by omega,by omega,hb3⟩;have hpar:0*(i % 2)=0:=Nat.zero_mul _;obtain⟨f',hf,hI1⟩:=inv_up hn.out.1 hI.out.1 ht hpar (by omega);rw[←hi1,←hd,←hnn] at hI1;have hI2:Hid (InvN n k 0 R f' i1 (t/nn) (s+t/d) r∧d2=2*i1+1):=⟨hI1,by omega⟩;have hpp:Hid (s≤(k+2)*2^k∧t/d≤2^k):=⟨hbs,Nat.le_trans (Nat.div_le_self _ _) hbt⟩;have hms:Hid (d2=d+2∧d≤2*k+1):=⟨hd2,by omega⟩;clear hI1 hf hpar hI hd hbt hbs hbr hik hnb hnn hi1 hd2 hbs0 hif hf0 hb3 hk0;replace ht:Hid _:=ht
   go_wp2_with fail
   refine(HF.out d _ hpd.out).mono ?_;rintro zz w201 ⟨v1x203,rfl,r1x204,bb202⟩;have r205:=rg.l bb202;have r206:=rs.l bb202;have r207:=rr.l bb202;have b208:=aa hb0 bb202;obtain⟨eo,ec,hv⟩:=r1x204.shape;subst hv;clear rg rs rr hb0 bb202
   go_wp2_with fail
   refine(HI.out t d _ _ _ r205 r1x204 hpo.out).mono ?_;rintro zz w209 ⟨v1x211,v2x212,rfl,r1x213,r2x214,bb210⟩;have r215:=r205.l bb210;have r216:=r206.l bb210;have r217:=r207.l bb210;have b218:=aa b208 bb210;obtain⟨yo,yc,hv⟩:=r1x213.shape;subst hv;obtain⟨mo,mc,hv⟩:=r2x214.shape;subst hv;clear r205 r206 r207 r1x204 b208 bb210
   go_wp2_with fail
   refine(HP.out s (t/d) _ _ _ r216 r1x213 hpp.out).mono ?_;rintro zz w219 ⟨v1x221,rfl,r1x222,bb220⟩;have r223:=r215.l bb220;have r224:=r217.l bb220;have b225:=aa b218 bb220;obtain⟨zo,zc,hv⟩:=r1x222.shape;subst hv;clear r215 r216 r217 r1x213 r2x214 b218 bb220
   go_wp2_with fail
   refine(HF.out nn _ hpnn.out).mono ?_;rintro zz w226 ⟨v1x228,rfl,r1x229,bb227⟩;have r230:=r223.l bb227;have r231:=r224.l bb227;have r232:=r1x222.l bb227;have b233:=aa b225 bb227;obtain⟨vo,vc,hv⟩:=r1x229.shape;subst hv;clear r223 r224 r1x222 b225 bb227
   go_wp2_with fail
   refine(HI.out t nn _ _ _ r230 r1x229 hpn.out).mono ?_;rintro zz w234 ⟨v1x236,v2x237,rfl,r1x238,r2x239,bb235⟩;have r240:=r231.l bb235;have r241:=r232.l bb235;have b242:=aa b233 bb235;obtain⟨ao,ac,hv⟩:=r1x238.shape;subst hv;obtain⟨oo,oc,hv⟩:=r2x239.shape;subst hv;clear r230 r231 r232 r1x229 b233 bb235
   go_wp2
   go_roundw
   case rel=>exact⟨f',i1,t/nn,s+t/d,r,d2,rfl,r1x238,r241,r240,b242,hI2⟩
   case measure=>have:=hms.out;simp[intOf];omega
theorem sumOf_W1 (n k:Nat)(w:World)(hn:2≤n∧n<65536)(hk:k≤60000)
  (HP2: ∀(m:Nat) w1,m≤k→yC 37 #[yi m] w1 (cG w1 (2^m)))
  (HF: ∀(m:Nat) w1,m<9223372036854775808→yC 32 #[yi m] w1 (cG w1 m))
  (HI: ∀(m d:Nat) v u w1,Rd w1 .i64 v (Dg.dg 65536 m)→Rd w1 .i64 u (Dg.dg 65536 d)→0<d∧d<9223372036854775808∧m≤2^k→yC 36 #[v,u] w1 (JI w1 (m/d) (m % d)))
  (HP: ∀(a b:Nat) v u w1,Rd w1 .i64 v (Dg.dg 65536 a)→Rd w1 .i64 u (Dg.dg 65536 b)→a≤(k+2)*2^k∧b≤2^k→yC 34 #[v,u] w1 (cG w1 (a+b)))
  (HL: ∀(a b:Nat) v u w1,Rd w1 .i64 v (Dg.dg 65536 a)→Rd w1 .i64 u (Dg.dg 65536 b)→a≤(k+2)*2^k∧b≤a→yC 33 #[v,u] w1 (cG w1 (a-b))):
  yC 17 #[yi n,yi k,.bool true] w (cG w ((lp (n*n) 1 (k+1) 0 (2^k/n) 0 0).2.1-(lp (n*n) 1 (k+1) 0 (2^k/n) 0 0).2.2)):=by
 replace HP2:Hid _:=HP2;replace HF:Hid _:=HF;replace HI:Hid _:=HI;replace HP:Hid _:=HP;replace HL:Hid _:=HL;obtain⟨R,hR⟩: ∃R,lp (n*n) 1 (k+1) 0 (2^k/n) 0 0=R:=⟨_,rfl⟩;rw[hR];replace hR:Hid _:=hR;have hp0:Hid (n<9223372036854775808):=by
  show n<9223372036854775808
  omega
 have hpk:Hid (0<n∧n<9223372036854775808∧2^k≤2^k):=⟨by omega,hp0.out,Nat.le_refl _⟩;replace hn:Hid _:=hn;replace hk:Hid _:=hk
 go_enter Tryd.func17,Tryd.ntmps17
 have b0:=Below.refl w.heap.size w
 go_wp2_with fail
 refine(HP2.out k _ (Nat.le_refl _)).mono ?_;rintro zz w1 ⟨v1x3,rfl,r1x4,bb2⟩;have b5:=aa b0 bb2;obtain⟨ho,hc,hv⟩:=r1x4.shape;subst hv;clear b0 bb2
 go_wp2_with fail
 refine(HF.out n _ hp0.out).mono ?_;rintro zz w6 ⟨v1x8,rfl,r1x9,bb7⟩;have r10:=r1x4.l bb7;have b11:=aa b5 bb7;obtain⟨eo,ec,hv⟩:=r1x9.shape;subst hv;clear r1x4 b5 bb7
 go_wp2_with fail
 refine(HI.out (2^k) n _ _ _ r10 r1x9 hpk.out).mono ?_;rintro zz w12 ⟨v1x14,v2x15,rfl,r1x16,r2x17,bb13⟩;have b18:=aa b11 bb13;obtain⟨go,gc,hv⟩:=r1x16.shape;subst hv;obtain⟨mo,mc,hv⟩:=r2x17.shape;subst hv;clear r10 r1x9 b11 bb13;have hbb:=b18;have rg:=r1x16;clear r1x16 r2x17 b18
 go_wp2
 go_loopw [7,9,10,11] (fun tv pv mv kv wr=>SumR w n k 1 R tv pv mv kv wr) (fun _ _ _ kv _=>(((2*k+3:Nat):Int)-intOf kv).toNat)
 case atStart=>exact⟨k+1,0,2^k/n,0,0,1,rfl,rg,aN _ _,aN _ _,hbb,by rw[←hR.out];exact inv_zero hn.out.1,rfl⟩
 case round=>
  clear rg hbb;obtain⟨f,i,t,s,r,d,rfl,rg,rs,rr,hb0,hI⟩:=hrel;obtain⟨go,gc,hv⟩:=rg.shape;subst hv;obtain⟨so,sc,hv⟩:=rs.shape;subst hv;obtain⟨ro,rc,hv⟩:=rr.shape;subst hv
  by_cases ht:t=0
  ·subst ht
   obtain⟨hR2,hrs,hik,hsk⟩:=inv_end hI.out.1;subst hR2;have hmm:Hid (s≤(k+2)*2^k∧r≤s):=⟨hsk,hrs⟩;clear hI hik hsk hrs hR
   go_wp2_with fail
   refine(HL.out s r _ _ _ rs rr hmm.out).mono ?_;rintro zz w301 ⟨v1x303,rfl,r1x304,bb302⟩;have b305:=aa hb0 bb302;obtain⟨jo,jc,hv⟩:=r1x304.shape;subst hv;clear rg rs rr hb0 bb302
   go_wp2
   go_ret
   exact⟨_,rfl,r1x304,b305⟩
  ·have hk0:=hk.out
   have hb3:t≤2^k:=hI.out.1.2.2.2.2.1;have hbs0:s≤i*2^k:=hI.out.1.2.2.2.1;have hif:i+f≤k+1:=hI.out.1.2.2.1;have hf0:f≠0:=by rintro rfl;exact ht (by simpa using hI.out.1.2.1)
   have hik:i≤k:=by omega
   have hbs:s≤(k+2)*2^k:=Nat.le_trans hbs0 (Nat.mul_le_mul_right _ (by omega));have hbt:t≤2^k:=hb3;have hbr:r≤s:=by
    rcases Nat.mod_two_eq_zero_or_one i with c|c
    ·exact hI.out.1.2.2.2.2.2.1 c
    ·exact Nat.le_trans (Nat.le_add_right _ _) (hI.out.1.2.2.2.2.2.2.1 c)
   have hl0:0< (Dg.dg 65536 t).length:=by
    rcases Nat.eq_zero_or_pos (Dg.dg 65536 t).length with c|c
    ·exact absurd ((Dg.dg_nil_iff 65536 _ (by omega)).1 (List.length_eq_zero_iff.1 c)) ht
    ·exact c
   have hd:=hI.out.2;obtain⟨i1,hi1⟩: ∃x,x=i+1:=⟨_,rfl⟩;obtain⟨d2,hd2⟩: ∃x,x=d+2:=⟨_,rfl⟩;obtain⟨nn,hnn⟩: ∃x,x=n*n:=⟨_,rfl⟩;have hnb:nn<4294967296∧0<nn:=by
    have h1:=hn.out;have h2:n*n≤65535*n:=Nat.mul_le_mul_right _ (by omega);have h3:0<n*n:=Nat.mul_pos (by omega) (by omega);omega
   have hw1:IntKind.i64.wrap ((n:Int)*(n:Int))=(nn:Int):=by
    have e:(n:Int)*(n:Int)=(nn:Int):=by rw[hnn,Int.natCast_mul]
    rw[e];exact IntWalk.i64_in _ ⟨by omega,by omega⟩
   have hw2:IntKind.i64.wrap ((d:Int)+2)=(d2:Int):=by
    rw[show d+2=(d2:Int) by omega]
    exact IntWalk.i64_in _ ⟨by omega,by omega⟩
   have hpd:Hid (d<9223372036854775808):=by
    show d<9223372036854775808
    omega
   have hpo:Hid (0<d∧d<9223372036854775808∧t≤2^k):=⟨by omega,by omega,hb3⟩;have hpnn:Hid (nn<9223372036854775808):=by
    show nn<9223372036854775808
    omega
   have hpn:Hid (0<nn∧nn<9223372036854775808∧t≤2^k):=⟨by omega,by omega,hb3⟩
   rcases Nat.mod_two_eq_zero_or_one i with hp2|hp2
   ·have hpar:1*(i % 2)=0:=by omega
    obtain⟨f',hf,hI1⟩:=inv_up hn.out.1 hI.out.1 ht hpar (by omega);rw[←hi1,←hd,←hnn] at hI1;have hI2:Hid (InvN n k 1 R f' i1 (t/nn) (s+t/d) r∧d2=2*i1+1):=⟨hI1,by omega⟩;have hpp:Hid (s≤(k+2)*2^k∧t/d≤2^k):=⟨hbs,Nat.le_trans (Nat.div_le_self _ _) hbt⟩;have hmd:(d:Int).tmod 4=1:=by rw[Int.tmod_eq_emod_of_nonneg (by omega)];omega
    have hms:Hid (d2=d+2∧d≤2*k+1):=⟨hd2,by omega⟩;clear hI1 hf hpar hI hd hbt hbs hbr hik hnb hnn hi1 hd2 hbs0 hif hf0 hb3 hk0;replace ht:Hid _:=ht
    go_wp2_with fail
    refine(HF.out d _ hpd.out).mono ?_;rintro zz w201 ⟨v1x203,rfl,r1x204,bb202⟩;have r205:=rg.l bb202;have r206:=rs.l bb202;have r207:=rr.l bb202;have b208:=aa hb0 bb202;obtain⟨eo,ec,hv⟩:=r1x204.shape;subst hv;clear rg rs rr hb0 bb202
    go_wp2_with fail
    refine(HI.out t d _ _ _ r205 r1x204 hpo.out).mono ?_;rintro zz w209 ⟨v1x211,v2x212,rfl,r1x213,r2x214,bb210⟩;have r215:=r205.l bb210;have r216:=r206.l bb210;have r217:=r207.l bb210;have b218:=aa b208 bb210;obtain⟨yo,yc,hv⟩:=r1x213.shape;subst hv;obtain⟨mo,mc,hv⟩:=r2x214.shape;subst hv;clear r205 r206 r207 r1x204 b208 bb210
    go_wp2_with fail
    refine(HP.out s (t/d) _ _ _ r216 r1x213 hpp.out).mono ?_;rintro zz w219 ⟨v1x221,rfl,r1x222,bb220⟩;have r223:=r215.l bb220;have r224:=r217.l bb220;have b225:=aa b218 bb220;obtain⟨zo,zc,hv⟩:=r1x222.shape;subst hv;clear r215 r216 r217 r1x213 r2x214 b218 bb220
    go_wp2_with fail
    refine(HF.out nn _ hpnn.out).mono ?_;rintro zz w226 ⟨v1x228,rfl,r1x229,bb227⟩;have r230:=r223.l bb227;have r231:=r224.l bb227;have r232:=r1x222.l bb227;have b233:=aa b225 bb227;obtain⟨vo,vc,hv⟩:=r1x229.shape;subst hv;clear r223 r224 r1x222 b225 bb227
    go_wp2_with fail
    refine(HI.out t nn _ _ _ r230 r1x229 hpn.out).mono ?_;rintro zz w234 ⟨v1x236,v2x237,rfl,r1x238,r2x239,bb235⟩;have r240:=r231.l bb235;have r241:=r232.l bb235;have b242:=aa b233 bb235;obtain⟨ao,ac,hv⟩:=r1x238.shape;subst hv;obtain⟨oo,oc,hv⟩:=r2x239.shape;subst hv;clear r230 r231 r232 r1x229 b233 bb235
    go_wp2
    go_roundw
    case rel=>exact⟨f',i1,t/nn,s+t/d,r,d2,rfl,r1x238,r241,r240,b242,hI2⟩
    case measure=>have:=hms.out;simp[intOf];omega
   ·have hpar:1*(i % 2)=1:=by omega
    obtain⟨f',hf,hI1⟩:=inv_down hn.out.1 hI.out.1 ht hpar;rw[←hi1,←hd,←hnn] at hI1;have hI2:Hid (InvN n k 1 R f' i1 (t/nn) s (r+t/d)∧d2=2*i1+1):=⟨hI1,by omega⟩;have hpp:Hid (r≤(k+2)*2^k∧t/d≤2^k):=⟨Nat.le_trans hbr hbs,Nat.le_trans (Nat.div_le_self _ _) hbt⟩;have hmd:(d:Int).tmod 4=3:=by rw[Int.tmod_eq_emod_of_nonneg (by omega)];omega
    have hms:Hid (d2=d+2∧d≤2*k+1):=⟨hd2,by omega⟩;clear hI1 hf hpar hI hd hbt hbs hbr hik hnb hnn hi1 hd2 hbs0 hif hf0 hb3 hk0;replace ht:Hid _:=ht
    go_wp2_with fail
    refine(HF.out d _ hpd.out).mono ?_;rintro zz w201 ⟨v1x203,rfl,r1x204,bb202⟩;have r205:=rg.l bb202;have r206:=rs.l bb202;have r207:=rr.l bb202;have b208:=aa hb0 bb202;obtain⟨eo,ec,hv⟩:=r1x204.shape;subst hv;clear rg rs rr hb0 bb202
    go_wp2_with fail
    refine(HI.out t d _ _ _ r205 r1x204 hpo.out).mono ?_;rintro zz w209 ⟨v1x211,v2x212,rfl,r1x213,r2x214,bb210⟩;have r215:=r205.l bb210;have r216:=r206.l bb210;have r217:=r207.l bb210;have b218:=aa b208 bb210;obtain⟨yo,yc,hv⟩:=r1x213.shape;subst hv;obtain⟨mo,mc,hv⟩:=r2x214.shape;subst hv;clear r205 r206 r207 r1x204 b208 bb210
    go_wp2_with fail
    refine(HP.out r (t/d) _ _ _ r217 r1x213 hpp.out).mono ?_;rintro zz w219 ⟨v1x221,rfl,r1x222,bb220⟩;have r223:=r215.l bb220;have r224:=r216.l bb220;have b225:=aa b218 bb220;obtain⟨zo,zc,hv⟩:=r1x222.shape;subst hv;clear r215 r216 r217 r1x213 r2x214 b218 bb220
    go_wp2_with fail
    refine(HF.out nn _ hpnn.out).mono ?_;rintro zz w226 ⟨v1x228,rfl,r1x229,bb227⟩;have r230:=r223.l bb227;have r231:=r224.l bb227;have r232:=r1x222.l bb227;have b233:=aa b225 bb227;obtain⟨vo,vc,hv⟩:=r1x229.shape;subst hv;clear r223 r224 r1x222 b225 bb227
    go_wp2_with fail
    refine(HI.out t nn _ _ _ r230 r1x229 hpn.out).mono ?_;rintro zz w234 ⟨v1x236,v2x237,rfl,r1x238,r2x239,bb235⟩;have r240:=r231.l bb235;have r241:=r232.l bb235;have b242:=aa b233 bb235;obtain⟨ao,ac,hv⟩:=r1x238.shape;subst hv;obtain⟨oo,oc,hv⟩:=r2x239.shape;subst hv;clear r230 r231 r232 r1x229 b233 bb235
    go_wp2
    go_roundw
    case rel=>exact⟨f',i1,t/nn,s,r+t/d,d2,rfl,r1x238,r240,r241,b242,hI2⟩
    case measure=>have:=hms.out;simp[intOf];omega
theorem rlessS (k a b:Nat)(v u:Value)(w:World)(hv:Rd w .i64 v (Dg.dg 65536 a))(hu:Rd w .i64 u (Dg.dg 65536 b))(h:a≤(k+2)*2^k∧b≤a)(hk:k≤60000):yC 33 #[v,u] w (cG w (a-b)):=by
 have l1:=len16_big h.1 hk;have:=kI v u _ _ w hv hu (Dg.small_dg _ _ (by omega)) (Dg.small_dg _ _ (by omega)) (by omega) (Nat.le_of_not_lt fun hl=>absurd (Dg.vl_lt_of_len _ (by omega) _ _ (Dg.small_dg _ _ (by omega)) (Dg.norm_dg _ _ (by omega)) hl) (by rw[Dg.vl_dg _ _ (by omega),Dg.vl_dg _ _ (by omega)];omega)) (by rw[Dg.vl_dg _ _ (by omega),Dg.vl_dg _ _ (by omega)];exact h.2)
 rwa [Dg.vl_dg _ _ (by omega),Dg.vl_dg _ _ (by omega)] at this
theorem sumOf_any (n k:Nat)(tn:Bool)(w:World)(hn:2≤n∧n<65536)(hk:k≤60000):yC 17 #[yi n,yi k,.bool tn] w (cG w (XA n (if tn=true then 1 else 0) k)):=by
 cases tn
 ·exact sumOf_W0 n k w hn hk (fun m w1 h=>pow2S k m w1 h hk) (fun m w1 h=>fromN_any m w1 h) (fun m d v u w1 hv hu h=>intoS k m d v u w1 hv hu h hk) (fun a b v u w1 hv hu h=>rplusS k a b v u w1 hv hu h hk) (fun a b v u w1 hv hu h=>rlessS k a b v u w1 hv hu h hk)
 ·exact sumOf_W1 n k w hn hk (fun m w1 h=>pow2S k m w1 h hk) (fun m w1 h=>fromN_any m w1 h) (fun m d v u w1 hv hu h=>intoS k m d v u w1 hv hu h hk) (fun a b v u w1 hv hu h=>rplusS k a b v u w1 hv hu h hk) (fun a b v u w1 hv hu h=>rlessS k a b v u w1 hv hu h hk)
theorem not_small {X D a wr k:Nat}(hX:2^k*D≤X)(h:X≤(a+wr)*D)(hD:0<D)(hw:2*wr≤2^k):wr≤a:=by
 have h1:2^k≤a+wr:=Nat.le_of_mul_le_mul_right (Nat.le_trans hX h) hD;omega
theorem inv_tell {n tn b:Nat}(hn:2≤n)(ht:tn≤1)(hb:10≤b∧b≤1000)(hX:chkN (XA n tn 1120)=true):
  ∃c q B,2^b≤2*c∧c<2^b∧((c*2^q:Nat):Int)≤V (b+64) (invLo (lp (n*n) tn (b+64+1) 0 (2^ (b+64)/n) 0 0) (b+64))∧V (b+64) (invLo (lp (n*n) tn (b+64+1) 0 (2^ (b+64)/n) 0 0) (b+64))≤V (b+64) (invHi (lp (n*n) tn (b+64+1) 0 (2^ (b+64)/n) 0 0) (b+64))∧V (b+64) (invHi (lp (n*n) tn (b+64+1) 0 (2^ (b+64)/n) 0 0) (b+64))< (((c+1)*2^q:Nat):Int)∧(c+1)*2^q≤2^B∧B≤9000∧GoodB (XA n tn 1120) b (bare (aY (invLo (lp (n*n) tn (b+64+1) 0 (2^ (b+64)/n) 0 0) (b+64)) b false)) (bare (aY (invHi (lp (n*n) tn (b+64+1) 0 (2^ (b+64)/n) 0 0) (b+64)) b true)):=by
 obtain⟨p1,p2,p3⟩:=inv_lies hn ht hb;obtain⟨L,L1,L2,L0,L3,L4,-⟩:=chk_len hX;obtain⟨e1,e2⟩:=inv_e (lp (n*n) tn (b+64+1) 0 (2^ (b+64)/n) 0 0) (b+64);obtain⟨v1,v2⟩:=V_inv (lp (n*n) tn (b+64+1) 0 (2^ (b+64)/n) 0 0) (b+64);have hD0:0<2^ (1120-(b+64)):=Nat.pow_pos (by omega);have hw:3+3*NA n tn (b+64)≤XA n tn (b+64):=by
  refine not_small (k:=L-1-(1120-(b+64))) ?_ p2 hD0 ?_
  ·rw[←Nat.pow_add,show L-1-(1120-(b+64))+(1120-(b+64))=L-1 by omega]
   exact L3
  ·have h1:=two_mono (a:=13) (b:=L-1-(1120-(b+64))) (by omega)
   have h2:(2:Nat)^13=8192:=by decide
   omega
 have f1:V (b+64) (invLo (lp (n*n) tn (b+64+1) 0 (2^ (b+64)/n) 0 0) (b+64))=((XA n tn (b+64)-(3+3*NA n tn (b+64)):Nat):Int):=by
  rw[v1,Int.ofNat_sub hw];rfl
 have f2:V (b+64) (invHi (lp (n*n) tn (b+64+1) 0 (2^ (b+64)/n) 0 0) (b+64))=((XA n tn (b+64)+(3+3*NA n tn (b+64)):Nat):Int):=by
  rw[v2,Int.natCast_add];rfl
 refine fam_tell (A:=1110) hX (by omega) (by omega) hb (by omega) (by omega) f1 f2 ?_ p2 (by omega);rw[Nat.sub_mul];omega
theorem serAtan_ex (n b:Nat)(hn:2≤n∧n≤1000)(hb:10≤b∧b≤1000)(hX:chkN (XA n 1 1120)=true):
  ∃l h,GoodB (XA n 1 1120) b l h∧ ∀w,Tab w→yC 16 #[yi n,yi b] w (BRd w l h 0):=by
 obtain⟨c,q,B,c1,c2,t1,t2,t3,t4,t5,hG⟩:=inv_tell (tn:=1) hn.1 (by omega) hb hX;obtain⟨f1,f2,-⟩:=inv_fits n (b+64) 1 hn.1 (by omega) (by omega);obtain⟨e1,e2⟩:=inv_e (lp (n*n) 1 (b+64+1) 0 (2^ (b+64)/n) 0 0) (b+64);exact⟨_,_,hG,fun w hT=>serAtan_W _ _ _ _ 0 w (fun w1 q1=>ofinvAtan_W _ _ _ _ 0 w1 (by omega) (by omega) (fun pf pn w2 q2 hf hp=>told_inv_any pf pn _ _ b c q B w2 hb (hT.l (aa q1 q2)) f1 f2 (by omega) (by omega) c1 c2 t1 t2 t3 t4 t5 (fun w3 q3=>invAtan_W pf pn _ _ _ _ w3 (hf.l q3).range (hp.l q3).range (fun w4 _=>satan_any n (b+64) w4 ⟨hn.1,by omega⟩ (by omega)))))⟩
theorem serAtanh_ex (n b:Nat)(hn:2≤n∧n≤1000)(hb:10≤b∧b≤1000)(hX:chkN (XA n 0 1120)=true):
  ∃l h,GoodB (XA n 0 1120) b l h∧ ∀w,Tab w→yC 15 #[yi n,yi b] w (BRd w l h 0):=by
 obtain⟨c,q,B,c1,c2,t1,t2,t3,t4,t5,hG⟩:=inv_tell (tn:=0) hn.1 (by omega) hb hX;obtain⟨f1,f2,-⟩:=inv_fits n (b+64) 0 hn.1 (by omega) (by omega);obtain⟨e1,e2⟩:=inv_e (lp (n*n) 0 (b+64+1) 0 (2^ (b+64)/n) 0 0) (b+64);exact⟨_,_,hG,fun w hT=>serAtanh_W _ _ _ _ 0 w (fun w1 q1=>ofinvAtanh_W _ _ _ _ 0 w1 (by omega) (by omega) (fun pf pn w2 q2 hf hp=>told_inv_any pf pn _ _ b c q B w2 hb (hT.l (aa q1 q2)) f1 f2 (by omega) (by omega) c1 c2 t1 t2 t3 t4 t5 (fun w3 q3=>invAtanh_W pf pn _ _ _ _ w3 (hf.l q3).range (hp.l q3).range (fun w4 _=>satanh_any n (b+64) w4 ⟨hn.1,by omega⟩ (by omega)))))⟩
theorem serAtan_out (n b:Int)(w:World)(h:n<2∨1000<n∨b<10∨1000<b):yC 16 #[yi n,yi b] w (BRd w ⟨false,0,0⟩ ⟨false,0,0⟩ 3):=by
 refine serAtan_W _ _ n b 3 w (fun w1 _=> ?_)
 by_cases c:n<2
 ·exact(ofinvAtan_e1 n b w1 c).mono fun _ _ ⟨h1,h2⟩=>⟨_,_,h1,aN _ _,aN _ _,h2⟩
 ·by_cases d:1000<n
  ·exact(ofinvAtan_e2 n b w1 c d).mono fun _ _ ⟨h1,h2⟩=>⟨_,_,h1,aN _ _,aN _ _,h2⟩
  ·exact ofinvAtan_W _ _ n b 3 w1 c d (fun pf pn w2 _ _ _=>told_out b _ _ w2 (by omega))
theorem serAtanh_out (n b:Int)(w:World)(h:n<2∨1000<n∨b<10∨1000<b):yC 15 #[yi n,yi b] w (BRd w ⟨false,0,0⟩ ⟨false,0,0⟩ 3):=by
 refine serAtanh_W _ _ n b 3 w (fun w1 _=> ?_)
 by_cases c:n<2
 ·exact(ofinvAtanh_e1 n b w1 c).mono fun _ _ ⟨h1,h2⟩=>⟨_,_,h1,aN _ _,aN _ _,h2⟩
 ·by_cases d:1000<n
  ·exact(ofinvAtanh_e2 n b w1 c d).mono fun _ _ ⟨h1,h2⟩=>⟨_,_,h1,aN _ _,aN _ _,h2⟩
  ·exact ofinvAtanh_W _ _ n b 3 w1 c d (fun pf pn w2 _ _ _=>told_out b _ _ w2 (by omega))
theorem serSums_e1 (n b:Int)(w:World)(h:b<10)
  (HA: ∀w1,yB w w1→yC 15 #[yi n,yi b] w1 fun z w'=> ∃po pc qo qc,z= .returned (.tuple #[.agg #[.bool false,.slice po 0 pc,yi 0,.bool false,.slice qo 0 qc,yi 0],yi 3])∧Hid (pc≤maxLen∧qc≤maxLen)∧yB w1 w')
  (HC: ∀w1,yB w w1→yC 16 #[yi n,yi b] w1 fun z w'=> ∃ro rc so sc,z= .returned (.tuple #[.agg #[.bool false,.slice ro 0 rc,yi 0,.bool false,.slice so 0 sc,yi 0],yi 3])∧Hid (rc≤maxLen∧sc≤maxLen)∧yB w1 w')
  (HB:yH w 8 #[] (.bool true))
  (HS: ∀po pc qo qc w1,Hid (pc≤maxLen∧qc≤maxLen)→yB w w1→yC 9 #[.agg #[.bool false,.slice po 0 pc,yi 0,.bool false,.slice qo 0 qc,yi 0],.agg #[.bool false,yN,yi 0,.bool false,yN,yi 0]] w1 (yR w1 (.bool true))):
  yC 5 #[yi n,yi b] w (yR w (.bool true)):=by
 replace HA:Hid _:=HA;replace HC:Hid _:=HC;replace HB:Hid _:=HB;replace HS:Hid _:=HS
 go_enter Tryd.func5,Tryd.ntmps5
 have b0:=Below.refl w.heap.size w
 go_wp2_with fail
 refine(HA.out _ b0).mono ?_;rintro zz w1 ⟨po,pc,qo,qc,rfl,hmp,bb2⟩;have b3:=aa b0 bb2;clear b0 bb2 HA;obtain⟨W6,hW5,q7,al4⟩:=cA w1 [.bool false,.slice po 0 pc,yi 0,.bool false,.slice qo 0 qc,yi 0] 27;replace hW5:Hid _:=hW5;have hl8:w.heap.size≤w1.heap.size:=b3.size;have b9:=aa b3 al4;clear b3 al4
 go_upto_region 2 with fail
 rw[hW5.out];clear hW5
 go_wp2_with fail
 refine(HC.out _ b9).mono ?_;rintro zz w10 ⟨ro,rc,so,sc,rfl,hmr,bb11⟩;have q12:=q7.l bb11;have b13:=aa b9 bb11;clear q7 b9 bb11 HC;obtain⟨W16,hW15,q17,al14⟩:=cA w10 [.bool false,.slice ro 0 rc,yi 0,.bool false,.slice so 0 sc,yi 0] 27;replace hW15:Hid _:=hW15;have hl18:w.heap.size≤w10.heap.size:=b13.size;have hl19:=q12.lt;have q20:=q12.l al14;have b21:=aa b13 al14;clear q12 b13 al14
 go_upto_region 3 with fail
 rw[hW15.out];clear hW15
 go_wp2_with fail
 refine(HB.out _ b21).mono ?_;rintro zz w22 ⟨rfl,bb23⟩;have q24:=q20.l bb23;have q25:=q17.l bb23;have b26:=aa b21 bb23;clear q20 q17 b21 bb23 HB;obtain⟨c27,c28,c29,c30,c31,c32⟩:=q24.cs6
 go_wp2_with fail
 refine(HS.out _ _ _ _ _ hmp b26).mono ?_;rintro zz w33 ⟨rfl,bb34⟩;have q35:=q25.l bb34;have b36:=aa b26 bb34;clear q24 q25 b26 bb34 c27 c28 c29 c30 c31 c32;obtain⟨c37,c38,c39,c40,c41,c42⟩:=q35.cs6
 go_wp2_with fail
 refine(HS.out _ _ _ _ _ hmr b36).mono ?_;rintro zz w43 ⟨rfl,bb44⟩;have b45:=aa b36 bb44;clear q35 b36 bb44 HS c37 c38 c39 c40 c41 c42
 go_wp2
 go_ret
 exact⟨by simp,b45⟩
theorem serSums_e2 (n b:Int)(w:World)(h0: ¬b<10)(h:1000<b)
  (HA: ∀w1,yB w w1→yC 15 #[yi n,yi b] w1 fun z w'=> ∃po pc qo qc,z= .returned (.tuple #[.agg #[.bool false,.slice po 0 pc,yi 0,.bool false,.slice qo 0 qc,yi 0],yi 3])∧Hid (pc≤maxLen∧qc≤maxLen)∧yB w1 w')
  (HC: ∀w1,yB w w1→yC 16 #[yi n,yi b] w1 fun z w'=> ∃ro rc so sc,z= .returned (.tuple #[.agg #[.bool false,.slice ro 0 rc,yi 0,.bool false,.slice so 0 sc,yi 0],yi 3])∧Hid (rc≤maxLen∧sc≤maxLen)∧yB w1 w')
  (HB:yH w 8 #[] (.bool true))
  (HS: ∀po pc qo qc w1,Hid (pc≤maxLen∧qc≤maxLen)→yB w w1→yC 9 #[.agg #[.bool false,.slice po 0 pc,yi 0,.bool false,.slice qo 0 qc,yi 0],.agg #[.bool false,yN,yi 0,.bool false,yN,yi 0]] w1 (yR w1 (.bool true))):
  yC 5 #[yi n,yi b] w (yR w (.bool true)):=by
 replace HA:Hid _:=HA;replace HC:Hid _:=HC;replace HB:Hid _:=HB;replace HS:Hid _:=HS
 go_enter Tryd.func5,Tryd.ntmps5
 have b0:=Below.refl w.heap.size w
 go_wp2_with fail
 refine(HA.out _ b0).mono ?_;rintro zz w1 ⟨po,pc,qo,qc,rfl,hmp,bb2⟩;have b3:=aa b0 bb2;clear b0 bb2 HA;obtain⟨W6,hW5,q7,al4⟩:=cA w1 [.bool false,.slice po 0 pc,yi 0,.bool false,.slice qo 0 qc,yi 0] 27;replace hW5:Hid _:=hW5;have hl8:w.heap.size≤w1.heap.size:=b3.size;have b9:=aa b3 al4;clear b3 al4
 go_upto_region 2 with fail
 rw[hW5.out];clear hW5
 go_wp2_with fail
 refine(HC.out _ b9).mono ?_;rintro zz w10 ⟨ro,rc,so,sc,rfl,hmr,bb11⟩;have q12:=q7.l bb11;have b13:=aa b9 bb11;clear q7 b9 bb11 HC;obtain⟨W16,hW15,q17,al14⟩:=cA w10 [.bool false,.slice ro 0 rc,yi 0,.bool false,.slice so 0 sc,yi 0] 27;replace hW15:Hid _:=hW15;have hl18:w.heap.size≤w10.heap.size:=b13.size;have hl19:=q12.lt;have q20:=q12.l al14;have b21:=aa b13 al14;clear q12 b13 al14
 go_upto_region 3 with fail
 rw[hW15.out];clear hW15
 go_wp2_with fail
 refine(HB.out _ b21).mono ?_;rintro zz w22 ⟨rfl,bb23⟩;have q24:=q20.l bb23;have q25:=q17.l bb23;have b26:=aa b21 bb23;clear q20 q17 b21 bb23 HB;obtain⟨c27,c28,c29,c30,c31,c32⟩:=q24.cs6
 go_wp2_with fail
 refine(HS.out _ _ _ _ _ hmp b26).mono ?_;rintro zz w33 ⟨rfl,bb34⟩;have q35:=q25.l bb34;have b36:=aa b26 bb34;clear q24 q25 b26 bb34 c27 c28 c29 c30 c31 c32;obtain⟨c37,c38,c39,c40,c41,c42⟩:=q35.cs6
 go_wp2_with fail
 refine(HS.out _ _ _ _ _ hmr b36).mono ?_;rintro zz w43 ⟨rfl,bb44⟩;have b45:=aa b36 bb44;clear q35 b36 bb44 HS c37 c38 c39 c40 c41 c42
 go_wp2
 go_ret
 exact⟨by simp,b45⟩
theorem serSums_e3 (n b:Int)(w:World)(h0: ¬b<10)(h1: ¬1000<b)(h:n<2)
  (HA: ∀w1,yB w w1→yC 15 #[yi n,yi b] w1 fun z w'=> ∃po pc qo qc,z= .returned (.tuple #[.agg #[.bool false,.slice po 0 pc,yi 0,.bool false,.slice qo 0 qc,yi 0],yi 3])∧Hid (pc≤maxLen∧qc≤maxLen)∧yB w1 w')
  (HC: ∀w1,yB w w1→yC 16 #[yi n,yi b] w1 fun z w'=> ∃ro rc so sc,z= .returned (.tuple #[.agg #[.bool false,.slice ro 0 rc,yi 0,.bool false,.slice so 0 sc,yi 0],yi 3])∧Hid (rc≤maxLen∧sc≤maxLen)∧yB w1 w')
  (HB:yH w 8 #[] (.bool true))
  (HS: ∀po pc qo qc w1,Hid (pc≤maxLen∧qc≤maxLen)→yB w w1→yC 9 #[.agg #[.bool false,.slice po 0 pc,yi 0,.bool false,.slice qo 0 qc,yi 0],.agg #[.bool false,yN,yi 0,.bool false,yN,yi 0]] w1 (yR w1 (.bool true))):
  yC 5 #[yi n,yi b] w (yR w (.bool true)):=by
 replace HA:Hid _:=HA;replace HC:Hid _:=HC;replace HB:Hid _:=HB;replace HS:Hid _:=HS
 go_enter Tryd.func5,Tryd.ntmps5
 have b0:=Below.refl w.heap.size w
 go_wp2_with fail
 refine(HA.out _ b0).mono ?_;rintro zz w1 ⟨po,pc,qo,qc,rfl,hmp,bb2⟩;have b3:=aa b0 bb2;clear b0 bb2 HA;obtain⟨W6,hW5,q7,al4⟩:=cA w1 [.bool false,.slice po 0 pc,yi 0,.bool false,.slice qo 0 qc,yi 0] 27;replace hW5:Hid _:=hW5;have hl8:w.heap.size≤w1.heap.size:=b3.size;have b9:=aa b3 al4;clear b3 al4
 go_upto_region 2 with fail
 rw[hW5.out];clear hW5
 go_wp2_with fail
 refine(HC.out _ b9).mono ?_;rintro zz w10 ⟨ro,rc,so,sc,rfl,hmr,bb11⟩;have q12:=q7.l bb11;have b13:=aa b9 bb11;clear q7 b9 bb11 HC;obtain⟨W16,hW15,q17,al14⟩:=cA w10 [.bool false,.slice ro 0 rc,yi 0,.bool false,.slice so 0 sc,yi 0] 27;replace hW15:Hid _:=hW15;have hl18:w.heap.size≤w10.heap.size:=b13.size;have hl19:=q12.lt;have q20:=q12.l al14;have b21:=aa b13 al14;clear q12 b13 al14
 go_upto_region 3 with fail
 rw[hW15.out];clear hW15
 go_wp2_with fail
 refine(HB.out _ b21).mono ?_;rintro zz w22 ⟨rfl,bb23⟩;have q24:=q20.l bb23;have q25:=q17.l bb23;have b26:=aa b21 bb23;clear q20 q17 b21 bb23 HB;obtain⟨c27,c28,c29,c30,c31,c32⟩:=q24.cs6
 go_wp2_with fail
 refine(HS.out _ _ _ _ _ hmp b26).mono ?_;rintro zz w33 ⟨rfl,bb34⟩;have q35:=q25.l bb34;have b36:=aa b26 bb34;clear q24 q25 b26 bb34 c27 c28 c29 c30 c31 c32;obtain⟨c37,c38,c39,c40,c41,c42⟩:=q35.cs6
 go_wp2_with fail
 refine(HS.out _ _ _ _ _ hmr b36).mono ?_;rintro zz w43 ⟨rfl,bb44⟩;have b45:=aa b36 bb44;clear q35 b36 bb44 HS c37 c38 c39 c40 c41 c42
 go_wp2
 go_ret
 exact⟨by simp,b45⟩
theorem serSums_e4 (n b:Int)(w:World)(h0: ¬b<10)(h1: ¬1000<b)(h2: ¬n<2)(h:1000<n)
  (HA: ∀w1,yB w w1→yC 15 #[yi n,yi b] w1 fun z w'=> ∃po pc qo qc,z= .returned (.tuple #[.agg #[.bool false,.slice po 0 pc,yi 0,.bool false,.slice qo 0 qc,yi 0],yi 3])∧Hid (pc≤maxLen∧qc≤maxLen)∧yB w1 w')
  (HC: ∀w1,yB w w1→yC 16 #[yi n,yi b] w1 fun z w'=> ∃ro rc so sc,z= .returned (.tuple #[.agg #[.bool false,.slice ro 0 rc,yi 0,.bool false,.slice so 0 sc,yi 0],yi 3])∧Hid (rc≤maxLen∧sc≤maxLen)∧yB w1 w')
  (HB:yH w 8 #[] (.bool true))
  (HS: ∀po pc qo qc w1,Hid (pc≤maxLen∧qc≤maxLen)→yB w w1→yC 9 #[.agg #[.bool false,.slice po 0 pc,yi 0,.bool false,.slice qo 0 qc,yi 0],.agg #[.bool false,yN,yi 0,.bool false,yN,yi 0]] w1 (yR w1 (.bool true))):
  yC 5 #[yi n,yi b] w (yR w (.bool true)):=by
 replace HA:Hid _:=HA;replace HC:Hid _:=HC;replace HB:Hid _:=HB;replace HS:Hid _:=HS
 go_enter Tryd.func5,Tryd.ntmps5
 have b0:=Below.refl w.heap.size w
 go_wp2_with fail
 refine(HA.out _ b0).mono ?_;rintro zz w1 ⟨po,pc,qo,qc,rfl,hmp,bb2⟩;have b3:=aa b0 bb2;clear b0 bb2 HA;obtain⟨W6,hW5,q7,al4⟩:=cA w1 [.bool false,.slice po 0 pc,yi 0,.bool false,.slice qo 0 qc,yi 0] 27;replace hW5:Hid _:=hW5;have hl8:w.heap.size≤w1.heap.size:=b3.size;have b9:=aa b3 al4;clear b3 al4
 go_upto_region 2 with fail
 rw[hW5.out];clear hW5
 go_wp2_with fail
 refine(HC.out _ b9).mono ?_;rintro zz w10 ⟨ro,rc,so,sc,rfl,hmr,bb11⟩;have q12:=q7.l bb11;have b13:=aa b9 bb11;clear q7 b9 bb11 HC;obtain⟨W16,hW15,q17,al14⟩:=cA w10 [.bool false,.slice ro 0 rc,yi 0,.bool false,.slice so 0 sc,yi 0] 27;replace hW15:Hid _:=hW15;have hl18:w.heap.size≤w10.heap.size:=b13.size;have hl19:=q12.lt;have q20:=q12.l al14;have b21:=aa b13 al14;clear q12 b13 al14
 go_upto_region 3 with fail
 rw[hW15.out];clear hW15
 go_wp2_with fail
 refine(HB.out _ b21).mono ?_;rintro zz w22 ⟨rfl,bb23⟩;have q24:=q20.l bb23;have q25:=q17.l bb23;have b26:=aa b21 bb23;clear q20 q17 b21 bb23 HB;obtain⟨c27,c28,c29,c30,c31,c32⟩:=q24.cs6
 go_wp2_with fail
 refine(HS.out _ _ _ _ _ hmp b26).mono ?_;rintro zz w33 ⟨rfl,bb34⟩;have q35:=q25.l bb34;have b36:=aa b26 bb34;clear q24 q25 b26 bb34 c27 c28 c29 c30 c31 c32;obtain⟨c37,c38,c39,c40,c41,c42⟩:=q35.cs6
 go_wp2_with fail
 refine(HS.out _ _ _ _ _ hmr b36).mono ?_;rintro zz w43 ⟨rfl,bb44⟩;have b45:=aa b36 bb44;clear q35 b36 bb44 HS c37 c38 c39 c40 c41 c42
 go_wp2
 go_ret
 exact⟨by simp,b45⟩
theorem serSums_ok (n b k:Int)(m j:Nat)(a c p q u v x y:ak)(w:World)(h1: ¬b<10)(h2: ¬1000<b)(h3: ¬n<2)(h4: ¬1000<n)(hk:IntKind.i64.wrap (b+100)=k)
  (HA: ∀w1,yB w w1→yC 15 #[yi n,yi b] w1 (BRd w1 a c 0))
  (HC: ∀w1,yB w w1→yC 16 #[yi n,yi b] w1 (BRd w1 p q 0))
  (HB:yH w 8 #[] (.bool true))
  (S1: ∀w1,yB w w1→yC 17 #[yi n,yi k,.bool false] w1 (cG w1 m))
  (N1: ∀mo mc w1,yB w w1→Rd w1 .i64 (yS mo m mc) (Dg.dg 65536 m)→yC 11 #[yS mo m mc,yi k] w1 (tR w1 u v))
  (K1: ∀ao ac co cc uo uc vo vc w1,yB w w1→Rd w1 .u32 (yT ao a.n ac) (Dg.dg 4294967296 a.n)→Rd w1 .u32 (yT co c.n cc) (Dg.dg 4294967296 c.n)→Rd w1 .i64 (yS uo u.n uc) (Dg.dg 65536 u.n)→Rd w1 .i64 (yS vo v.n vc) (Dg.dg 65536 v.n)→yC 10 #[.agg #[.bool a.s,yT ao a.n ac,yi a.e,.bool c.s,yT co c.n cc,yi c.e],.agg #[.bool u.s,yS uo u.n uc,yi u.e,.bool v.s,yS vo v.n vc,yi v.e],yi b] w1 (yR w1 (.bool true)))
  (S2: ∀w1,yB w w1→yC 17 #[yi n,yi k,.bool true] w1 (cG w1 j))
  (N2: ∀jo jc w1,yB w w1→Rd w1 .i64 (yS jo j jc) (Dg.dg 65536 j)→yC 11 #[yS jo j jc,yi k] w1 (tR w1 x y))
  (K2: ∀po pc qo qc xo xc yo yc w1,yB w w1→Rd w1 .u32 (yT po p.n pc) (Dg.dg 4294967296 p.n)→Rd w1 .u32 (yT qo q.n qc) (Dg.dg 4294967296 q.n)→Rd w1 .i64 (yS xo x.n xc) (Dg.dg 65536 x.n)→Rd w1 .i64 (yS yo y.n yc) (Dg.dg 65536 y.n)→yC 10 #[.agg #[.bool p.s,yT po p.n pc,yi p.e,.bool q.s,yT qo q.n qc,yi q.e],.agg #[.bool x.s,yS xo x.n xc,yi x.e,.bool y.s,yS yo y.n yc,yi y.e],yi b] w1 (yR w1 (.bool true))):
  yC 5 #[yi n,yi b] w (yR w (.bool true)):=by
 replace HA:Hid _:=HA;replace HC:Hid _:=HC;replace HB:Hid _:=HB;replace S1:Hid _:=S1;replace N1:Hid _:=N1;replace K1:Hid _:=K1;replace S2:Hid _:=S2;replace N2:Hid _:=N2;replace K2:Hid _:=K2
 go_enter Tryd.func5,Tryd.ntmps5
 have b0:=Below.refl w.heap.size w
 go_wp2_with fail
 refine(HA.out _ b0).mono ?_;rintro zz w1 ⟨v1x3,v2x4,rfl,r1x5,r2x6,bb2⟩;have b7:=aa b0 bb2;obtain⟨ao,ac,hv⟩:=r1x5.shape;subst hv;obtain⟨co,cc,hv⟩:=r2x6.shape;subst hv;clear b0 bb2 HA;obtain⟨W10,hW9,q11,al8⟩:=cA w1 [.bool a.s,yT ao a.n ac,yi a.e,.bool c.s,yT co c.n cc,yi c.e] 27;replace hW9:Hid _:=hW9;have hl12:w.heap.size≤w1.heap.size:=b7.size;have r13:=r1x5.l al8;have r14:=r2x6.l al8;have b15:=aa b7 al8;clear r1x5 r2x6 b7 al8
 go_upto_region 2 with fail
 rw[hW9.out];clear hW9
 go_wp2_with fail
 refine(HC.out _ b15).mono ?_;rintro zz w16 ⟨v1x18,v2x19,rfl,r1x20,r2x21,bb17⟩;have q22:=q11.l bb17;have r23:=r13.l bb17;have r24:=r14.l bb17;have b25:=aa b15 bb17;obtain⟨po,pc,hv⟩:=r1x20.shape;subst hv;obtain⟨qo,qc,hv⟩:=r2x21.shape;subst hv;clear q11 r13 r14 b15 bb17 HC;obtain⟨W28,hW27,q29,al26⟩:=cA w16 [.bool p.s,yT po p.n pc,yi p.e,.bool q.s,yT qo q.n qc,yi q.e] 27;replace hW27:Hid _:=hW27;have hl30:w.heap.size≤w16.heap.size:=b25.size;have hl31:=q22.lt;have q32:=q22.l al26;have r33:=r23.l al26;have r34:=r24.l al26;have r35:=r1x20.l al26;have r36:=r2x21.l al26;have b37:=aa b25 al26;clear q22 r23 r24 r1x20 r2x21 b25 al26
 go_upto_region 3 with fail
 rw[hW27.out];clear hW27
 go_upto_region 6 with fail
 have bW38:yB W28 W28.drew:=(Below.refl _ _).drew;have q39:=q32.l bW38;have q40:=q29.l bW38;have r41:=r33.l bW38;have r42:=r34.l bW38;have r43:=r35.l bW38;have r44:=r36.l bW38;have b45:=aa b37 bW38;clear q32 q29 r33 r34 r35 r36 b37 bW38;refine wp_region_held_drew (S:=fun wq=>au wq w1.heap.size 27 [.bool a.s,yT ao a.n ac,yi a.e,.bool c.s,yT co c.n cc,yi c.e]∧au wq w16.heap.size 27 [.bool p.s,yT po p.n pc,yi p.e,.bool q.s,yT qo q.n qc,yi q.e]) (by kernel_rfl) ⟨q39,q40⟩ (fun hS0=> ?_)
 generalize W28.drew=WD46 at q39 q40 r41 r42 r43 r44 b45 hS0⊢;refine wpAnyH_ready (rs:=[0]) (by kernel_rfl) (by simp) ?_;refine AllReadyH.cons rfl (fun K hK=> ?_) AllReadyH.nil
 go_simp
 refine(HB.out _ b45).mono ?_;rintro zz w47 ⟨rfl,bb48⟩;have q49:=q39.l bb48;have q50:=q40.l bb48;have r51:=r41.l bb48;have r52:=r42.l bb48;have r53:=r43.l bb48;have r54:=r44.l bb48;have b55:=aa b45 bb48;clear q39 q40 r41 r42 r43 r44 b45 bb48 HB;refine hK.out _ _ ⟨q49,q50⟩ (fun hS56=> ?_)
 clear hK K;refine tq 1 (.bool true) rfl (fun _ _=>by kernel_rfl) hS56 ?_
 refine tq 2 (yi 0) rfl (fun _ _=>by kernel_rfl) hS56 ?_
 refine tq 3 (.bool true) rfl (fun _ _=>by go_simp) hS56 ?_
 refine tq 4 (.bool true) rfl (fun _ _=>by kernel_rfl) hS56 ?_
 refine tq 5 (.bool true) rfl (fun _ _=>by kernel_rfl) hS56 ?_
 refine tq 6 (yi 0) rfl (fun _ _=>by kernel_rfl) hS56 ?_
 refine tq 7 (.bool true) rfl (fun _ _=>by go_simp) hS56 ?_
 refine tq 8 (.bool true) rfl (fun _ _=>by kernel_rfl) hS56 ?_
 refine tq 9 (.bool true) rfl (fun _ _=>by kernel_rfl) hS56 ?_
 refine tq 10 (.agg #[.bool a.s,yT ao a.n ac,yi a.e,.bool c.s,yT co c.n cc,yi c.e]) rfl (fun _ hw0=>fy 27 (.tmp 5) rfl w1.heap.size 0 (by kernel_rfl) _ _ hw0.1.range Tryd.underlying27 rfl (by kernel_rfl)) hS56 ?_
 refine tq 11 (yi n) rfl (fun _ _=>by kernel_rfl) hS56 ?_
 refine tq 12 (yi k) rfl (fun _ _=>by kernel_rfl) hS56 ?_
 refine tq 14 (yi k) rfl (fun _ _=>by kernel_rfl) hS56 ?_
 refine tq 16 (yi b) rfl (fun _ _=>by kernel_rfl) hS56 ?_
 refine wpAnyH_ready (rs:=[13]) (by kernel_rfl) (by simp) ?_;refine AllReadyH.cons rfl (fun K hK=> ?_) AllReadyH.nil
 go_simp
 refine(S1.out _ b55).mono ?_;rintro zz w57 ⟨v1x59,rfl,r1x60,bb58⟩;have q61:=q49.l bb58;have q62:=q50.l bb58;have r63:=r51.l bb58;have r64:=r52.l bb58;have r65:=r53.l bb58;have r66:=r54.l bb58;have b67:=aa b55 bb58;obtain⟨mo,mc,hv⟩:=r1x60.shape;subst hv;clear q49 q50 r51 r52 r53 r54 b55 bb58 S1;refine hK.out _ _ ⟨q61,q62⟩ (fun hS68=> ?_)
 clear hK K;refine wpAnyH_ready (rs:=[15]) (by kernel_rfl) (by simp) ?_;refine AllReadyH.cons rfl (fun K hK=> ?_) AllReadyH.nil
 go_simp
 refine(N1.out _ _ _ b67 r1x60).mono ?_;rintro zz w69 ⟨v1x71,v2x72,rfl,r1x73,r2x74,bb70⟩;have q75:=q61.l bb70;have q76:=q62.l bb70;have r77:=r63.l bb70;have r78:=r64.l bb70;have r79:=r65.l bb70;have r80:=r66.l bb70;have b81:=aa b67 bb70;obtain⟨uo,uc,hv⟩:=r1x73.shape;subst hv;obtain⟨vo,vc,hv⟩:=r2x74.shape;subst hv;clear q61 q62 r63 r64 r65 r66 r1x60 b67 bb70 N1;refine hK.out _ _ ⟨q75,q76⟩ (fun hS82=> ?_)
 clear hK K;refine wpAnyH_ready (rs:=[17]) (by kernel_rfl) (by simp) ?_;refine AllReadyH.cons rfl (fun K hK=> ?_) AllReadyH.nil
 go_simp
 refine(K1.out _ _ _ _ _ _ _ _ _ b81 r77 r78 r1x73 r2x74).mono ?_;rintro zz w83 ⟨rfl,bb84⟩;have q85:=q75.l bb84;have q86:=q76.l bb84;have r87:=r79.l bb84;have r88:=r80.l bb84;have b89:=aa b81 bb84;clear q75 q76 r77 r78 r79 r80 r1x73 r2x74 b81 bb84 K1;refine hK.out _ _ ⟨q85,q86⟩ (fun hS90=> ?_)
 clear hK K;refine tq 18 (.bool true) rfl (fun _ _=>by kernel_rfl) hS90 ?_
 refine tq 19 (.bool true) rfl (fun _ _=>by kernel_rfl) hS90 ?_
 refine tq 20 (.agg #[.bool p.s,yT po p.n pc,yi p.e,.bool q.s,yT qo q.n qc,yi q.e]) rfl (fun _ hw0=>fy 27 (.tmp 7) rfl w16.heap.size 0 (by kernel_rfl) _ _ hw0.2.range Tryd.underlying27 rfl (by kernel_rfl)) hS90 ?_
 refine tq 21 (yi n) rfl (fun _ _=>by kernel_rfl) hS90 ?_
 refine tq 22 (yi k) rfl (fun _ _=>by kernel_rfl) hS90 ?_
 refine tq 24 (yi k) rfl (fun _ _=>by kernel_rfl) hS90 ?_
 refine tq 26 (yi b) rfl (fun _ _=>by kernel_rfl) hS90 ?_
 refine wpAnyH_ready (rs:=[23]) (by kernel_rfl) (by simp) ?_;refine AllReadyH.cons rfl (fun K hK=> ?_) AllReadyH.nil
 go_simp
 refine(S2.out _ b89).mono ?_;rintro zz w91 ⟨v1x93,rfl,r1x94,bb92⟩;have q95:=q85.l bb92;have q96:=q86.l bb92;have r97:=r87.l bb92;have r98:=r88.l bb92;have b99:=aa b89 bb92;obtain⟨jo,jc,hv⟩:=r1x94.shape;subst hv;clear q85 q86 r87 r88 b89 bb92 S2;refine hK.out _ _ ⟨q95,q96⟩ (fun hS100=> ?_)
 clear hK K;refine wpAnyH_ready (rs:=[25]) (by kernel_rfl) (by simp) ?_;refine AllReadyH.cons rfl (fun K hK=> ?_) AllReadyH.nil
 go_simp
 refine(N2.out _ _ _ b99 r1x94).mono ?_;rintro zz w101 ⟨v1x103,v2x104,rfl,r1x105,r2x106,bb102⟩;have q107:=q95.l bb102;have q108:=q96.l bb102;have r109:=r97.l bb102;have r110:=r98.l bb102;have b111:=aa b99 bb102;obtain⟨xo,xc,hv⟩:=r1x105.shape;subst hv;obtain⟨yo,yc,hv⟩:=r2x106.shape;subst hv;clear q95 q96 r97 r98 r1x94 b99 bb102 N2;refine hK.out _ _ ⟨q107,q108⟩ (fun hS112=> ?_)
 clear hK K;refine wpAnyH_ready (rs:=[27]) (by kernel_rfl) (by simp) ?_;refine AllReadyH.cons rfl (fun K hK=> ?_) AllReadyH.nil
 go_simp
 refine(K2.out _ _ _ _ _ _ _ _ _ b111 r109 r110 r1x105 r2x106).mono ?_;rintro zz w113 ⟨rfl,bb114⟩;have q115:=q107.l bb114;have q116:=q108.l bb114;have b117:=aa b111 bb114;clear q107 q108 r109 r110 r1x105 r2x106 b111 bb114 K2;refine hK.out _ _ ⟨q115,q116⟩ (fun hS118=> ?_)
 clear hK K;refine tq 28 (.bool true) rfl (fun _ _=>by kernel_rfl) hS118 ?_
 refine tq 29 (.bool true) rfl (fun _ _=>by kernel_rfl) hS118 ?_
 refine wpAnyH_done (by kernel_rfl) ?_ _;clear hS0 hS56 hS68 hS82 hS90 hS100 hS112 hS118;simp only[Act.put,List.getElem_toArray,List.getElem_cons_succ,List.getElem_cons_zero,List.setIfInBounds_toArray,List.set_cons_zero,List.set_cons_succ]
 go_wp2
 go_ret
 exact⟨by simp,b117⟩
theorem sum_lies {n tn k:Nat}(hn:2≤n)(ht:tn≤1)(hk:k≤1100):XA n tn k*2^ (1120-k)≤XA n tn 1120+2^39*2^ (1120-k)∧XA n tn 1120≤XA n tn k*2^ (1120-k)+2^39*2^ (1120-k):=by
 obtain⟨p1,p2⟩:=ref_pair (n:=n) (tn:=tn) (k:=k) hn ht hk rfl;have h:1200*2^ (1120-k)≤2^39*2^ (1120-k):=Nat.mul_le_mul_right _ (by decide);omega
theorem seriesSums_walk (n b:Int)(w:World)(hT:Tab w):yC 5 #[yi n,yi b] w (yR w (.bool true)):=by
 have HB:yH w 8 #[] (.bool true):=fun w1 h=>serBegun_any w1 (hT.l h)
 have HS: ∀po pc qo qc w1,Hid (pc≤maxLen∧qc≤maxLen)→yB w w1→yC 9 #[.agg #[.bool false,.slice po 0 pc,yi 0,.bool false,.slice qo 0 qc,yi 0],.agg #[.bool false,yN,yi 0,.bool false,yN,yi 0]] w1 (yR w1 (.bool true)):=fun po pc qo qc w1 hm _=>same_nilS po pc qo qc w1 hm.out.1 hm.out.2
 by_cases c1:b<10
 ·exact serSums_e1 n b w c1 (fun w1 _=>(serAtanh_out n b w1 (by omega)).mono fun _ _ h=>h.nil) (fun w1 _=>(serAtan_out n b w1 (by omega)).mono fun _ _ h=>h.nil) HB HS
 ·by_cases c2:1000<b
  ·exact serSums_e2 n b w c1 c2 (fun w1 _=>(serAtanh_out n b w1 (by omega)).mono fun _ _ h=>h.nil) (fun w1 _=>(serAtan_out n b w1 (by omega)).mono fun _ _ h=>h.nil) HB HS
  ·by_cases c3:n<2
   ·exact serSums_e3 n b w c1 c2 c3 (fun w1 _=>(serAtanh_out n b w1 (by omega)).mono fun _ _ h=>h.nil) (fun w1 _=>(serAtan_out n b w1 (by omega)).mono fun _ _ h=>h.nil) HB HS
   ·by_cases c4:1000<n
    ·exact serSums_e4 n b w c1 c2 c3 c4 (fun w1 _=>(serAtanh_out n b w1 (by omega)).mono fun _ _ h=>h.nil) (fun w1 _=>(serAtan_out n b w1 (by omega)).mono fun _ _ h=>h.nil) HB HS
    ·obtain⟨m,rfl⟩: ∃m:Nat,n=(m:Int):=⟨n.toNat,by omega⟩
     obtain⟨j,rfl⟩: ∃j:Nat,b=(j:Int):=⟨b.toNat,by omega⟩;have hX0:=chk_tanh (n:=m) ⟨by omega,by omega⟩;have hX1:=chk_tan (n:=m) ⟨by omega,by omega⟩;obtain⟨l0,h0,hG0,hP0⟩:=serAtanh_ex m j ⟨by omega,by omega⟩ ⟨by omega,by omega⟩ hX0;obtain⟨l1,h1,hG1,hP1⟩:=serAtan_ex m j ⟨by omega,by omega⟩ ⟨by omega,by omega⟩ hX1;obtain⟨d2,d3⟩:=sum_lies (n:=m) (tn:=0) (k:=j+100) (by omega) (by omega) (by omega);obtain⟨e2,e3⟩:=sum_lies (n:=m) (tn:=1) (k:=j+100) (by omega) (by omega) (by omega);obtain⟨u,v,hN,hK⟩:=held_ok hX0 ⟨by omega,by omega⟩ hG0 d2 d3;obtain⟨x,y,hN1,hK1⟩:=held_ok hX1 ⟨by omega,by omega⟩ hG1 e2 e3;exact serSums_ok (m:Int) (j:Int) ((j+100:Nat):Int) _ _ l0 h0 l1 h1 u v x y w c1 c2 c3 c4 (by rw[show(j:Int)+100=((j+100:Nat):Int) by omega];exact IntWalk.i64_in _ ⟨by omega,by omega⟩)
      (fun w1 q=>hP0 w1 (hT.l q)) (fun w1 q=>hP1 w1 (hT.l q)) HB
      (fun w1 _=>sumOf_any m (j+100) false w1 ⟨by omega,by omega⟩ (by omega)) (fun mo mc w1 _ r=>hN mo mc w1 r) (fun po pc qo qc uo uc vo vc w1 _ r1 r2 r3 r4=>hK po pc qo qc uo uc vo vc w1 r1 r2 r3 r4)
      (fun w1 _=>sumOf_any m (j+100) true w1 ⟨by omega,by omega⟩ (by omega)) (fun mo mc w1 _ r=>hN1 mo mc w1 r) (fun po pc qo qc uo uc vo vc w1 _ r1 r2 r3 r4=>hK1 po pc qo qc uo uc vo vc w1 r1 r2 r3 r4)
end Go.Proofs.YtiakgfmlpdfhdaaDoor
