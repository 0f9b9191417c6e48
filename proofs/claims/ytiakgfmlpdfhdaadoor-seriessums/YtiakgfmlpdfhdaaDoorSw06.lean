/-
  Texts laid together: Se5b, Se5c, Se6.
-/
import Derived.Test.YtiakgfmlpdfhdaaDoorSw02
import Derived.Test.YtiakgfmlpdfhdaaDoorSw05
set_option maxRecDepth 100000
set_option maxHeartbeats 12800000
namespace Go.Proofs.YtiakgfmlpdfhdaaDoor
open Go.RowKit
def AtR (w:World)(n k:Nat)(R:Nat×Nat×Nat)(zb:Nat)(tv kv:Value)(wr:World):Prop:=
 ∃(f i t s r d:Nat) (zo:Option Addr) (zc:Nat),kv=yi d∧Rd wr .i64 tv (Dg.dg 65536 t)∧au wr zb 41 [.bool false,.slice zo (Dg.dg 65536 (s-r)).length zc]∧Rd wr .i64 (.slice zo (Dg.dg 65536 (s-r)).length zc) (Dg.dg 65536 (s-r))∧au wr w.heap.size 41 [.bool false,yN]∧yB w wr∧w.heap.size<zb∧Hid (InvN n k 1 R f i t s r∧d=2*i+1)
theorem atanOf_W (n k:Nat)(w:World)(hn:2≤n∧n<65536)(hk:k≤60000)
  (HP2: ∀(m:Nat) w1,m≤k→yC 37 #[yi m] w1 (cG w1 (2^m)))
  (HF: ∀(m:Nat) w1,m<9223372036854775808→yC 32 #[yi m] w1 (cG w1 m))
  (HI: ∀(m d:Nat) v u w1,Rd w1 .i64 v (Dg.dg 65536 m)→Rd w1 .i64 u (Dg.dg 65536 d)→0<d∧d<9223372036854775808∧m≤2^k→yC 36 #[v,u] w1 (JI w1 (m/d) (m % d)))
  (HZ: ∀(g:Bool) (a b c:Nat) ao ac bo bc w1,Rd w1 .i64 (yS ao a ac) (Dg.dg 65536 a)→Rd w1 .i64 (yS bo b bc) (Dg.dg 65536 b)→a≤(k+2)*2^k∧b≤2^k∧(g=false→c=a+b)∧(g=true→b≤a∧c=a-b)→yC 55 #[.agg #[.bool false,yS ao a ac],.agg #[.bool g,yS bo b bc]] w1 (RZs w1 false c)):
  yC 31 #[yi n,yi k] w (RZs w false ((lp (n*n) 1 (k+1) 0 (2^k/n) 0 0).2.1-(lp (n*n) 1 (k+1) 0 (2^k/n) 0 0).2.2)):=by
 replace HP2:Hid _:=HP2;replace HF:Hid _:=HF;replace HI:Hid _:=HI;replace HZ:Hid _:=HZ;obtain⟨R,hR⟩: ∃R,lp (n*n) 1 (k+1) 0 (2^k/n) 0 0=R:=⟨_,rfl⟩;rw[hR];replace hR:Hid _:=hR;have hp0:Hid (n<9223372036854775808):=by
  show n<9223372036854775808
  omega
 have hpk:Hid (0<n∧n<9223372036854775808∧2^k≤2^k):=⟨by omega,hp0.out,Nat.le_refl _⟩;replace hn:Hid _:=hn;replace hk:Hid _:=hk;obtain⟨W3,hW4,q1,b2⟩:=cA w [.bool false,yN] 41;replace hW4:Hid _:=hW4
 go_enter Tryd.func31,Tryd.ntmps31
 go_upto_region 1 with fail
 rw[hW4.out];clear hW4
 go_wp2_with fail
 refine(HP2.out k _ (Nat.le_refl _)).mono ?_;rintro zz w5 ⟨v1x7,rfl,r1x8,bb6⟩;have q9:=q1.l bb6;have b10:=aa b2 bb6;obtain⟨ho,hc,hv⟩:=r1x8.shape;subst hv;clear q1 b2 bb6
 go_wp2_with fail
 refine(HF.out n _ hp0.out).mono ?_;rintro zz w11 ⟨v1x13,rfl,r1x14,bb12⟩;have q15:=q9.l bb12;have r16:=r1x8.l bb12;have b17:=aa b10 bb12;obtain⟨eo,ec,hv⟩:=r1x14.shape;subst hv;clear q9 r1x8 b10 bb12
 go_wp2_with fail
 refine(HI.out (2^k) n _ _ _ r16 r1x14 hpk.out).mono ?_;rintro zz w18 ⟨v1x20,v2x21,rfl,r1x22,r2x23,bb19⟩;have q24:=q15.l bb19;have b25:=aa b17 bb19;obtain⟨go,gc,hv⟩:=r1x22.shape;subst hv;obtain⟨mo,mc,hv⟩:=r2x23.shape;subst hv;clear q15 r16 r1x14 b17 bb19;obtain⟨W28,hW27,q29,al26⟩:=cA w18 [.bool false,yN] 41;replace hW27:Hid _:=hW27;have hl30:w.heap.size≤w18.heap.size:=b25.size;have hl31:=q24.lt;have q32:=q24.l al26;have r33:=r1x22.l al26;have b34:=aa b25 al26;clear q24 r1x22 r2x23 b25 al26
 go_upto_region 3 with fail
 rw[hW27.out];clear hW27;have hbb:=b34;have qq0:=q32;have qq1:=q29;have rg:=r33;have hs0:w.heap.size<w18.heap.size:=by omega
 obtain⟨zb,hzb⟩: ∃x,w18.heap.size=x:=⟨_,rfl⟩;clear q32 q29 r33 b34
 go_wp2
 try rw[hzb]
 rw[hzb] at qq1 hs0;clear hzb
 go_loopw [5,8] (fun tv kv wr=>AtR w n k R zb tv kv wr) (fun _ kv _=>(((2*k+3:Nat):Int)-intOf kv).toNat)
 case atStart=>exact⟨k+1,0,2^k/n,0,0,1,none,0,rfl,rg,qq1,aN _ _,qq0,hbb,hs0,by rw[←hR.out];exact inv_zero hn.out.1,rfl⟩
 case round=>
  clear rg hbb qq0 qq1 hs0;obtain⟨f,i,t,s,r,d,zo,zc,rfl,rg,q1,rz,q0,hb0,hlt,hI⟩:=hrel;obtain⟨go,gc,hv⟩:=rg.shape;subst hv
  by_cases ht:t=0
  ·subst ht
   obtain⟨hR2,hrs,hik,hsk⟩:=inv_end hI.out.1;subst hR2;clear hI hik hsk hrs hR;obtain⟨c301,c302⟩:=q1.cs2;have hf:=fin2 (P:=Tryd.prog) q0 hb0 (by omega) Tryd.underlying41 rfl (by kernel_rfl) (.bool false) (.slice zo (Dg.dg 65536 (s-r)).length zc);have HH:Hid (_∧_∧_):=⟨hf.1,hf.2.2.rd rz (aX rz q0 (by simp)),hf.2.1⟩;obtain⟨⟨z0,z1⟩,y0,y1⟩:=csf2 q0;clear hf q0 q1 rg rz hb0
   go_wp2
   obtain⟨hl,rRz,bR⟩:=HH.out;exact bodyPost_ret (br Tryd.results31 rfl hl) rfl ⟨_,rfl,rRz,bR⟩
  ·have hk0:=hk.out
   have hb3:t≤2^k:=hI.out.1.2.2.2.2.1;have hbs0:s≤i*2^k:=hI.out.1.2.2.2.1;have hif:i+f≤k+1:=hI.out.1.2.2.1;have hf0:f≠0:=by rintro rfl;exact ht (by simpa using hI.out.1.2.1)
   have hik:i≤k:=by omega
   have hbs:s≤(k+2)*2^k:=Nat.le_trans hbs0 (Nat.mul_le_mul_right _ (by omega));have hbt:t≤2^k:=hb3;have hbr:r≤s:=by
    rcases Nat.mod_two_eq_zero_or_one i with c|c
    ·exact hI.out.1.2.2.2.2.2.1 c
    ·exact Nat.le_trans (Nat.le_add_right _ _) (hI.out.1.2.2.2.2.2.2.1 c)
   have hl0:0< (Dg.dg 65536 t).length:=by
    rcases Nat.eq_zero_or_pos (Dg.dg 65536 t).length with c|c
    ·exact absurd ((Dg.dg_nil_iff 65536 _ (by omega)).1 (List.length_eq_zero_iff.1 c)) ht
    ·exact c
   have hd:=hI.out.2;obtain⟨i1,hi1⟩: ∃x,x=i+1:=⟨_,rfl⟩;obtain⟨d2,hd2⟩: ∃x,x=d+2:=⟨_,rfl⟩;obtain⟨nn,hnn⟩: ∃x,x=n*n:=⟨_,rfl⟩;have hnb:nn<4294967296∧0<nn:=by
    have h1:=hn.out;have h2:n*n≤65535*n:=Nat.mul_le_mul_right _ (by omega);have h3:0<n*n:=Nat.mul_pos (by omega) (by omega);omega
   have hw1:IntKind.i64.wrap ((n:Int)*(n:Int))=(nn:Int):=by
    have e:(n:Int)*(n:Int)=(nn:Int):=by rw[hnn,Int.natCast_mul]
    rw[e];exact IntWalk.i64_in _ ⟨by omega,by omega⟩
   have hw2:IntKind.i64.wrap ((d:Int)+2)=(d2:Int):=by
    rw[show d+2=(d2:Int) by omega]
    exact IntWalk.i64_in _ ⟨by omega,by omega⟩
   have hpd:Hid (d<9223372036854775808):=by
    show d<9223372036854775808
    omega
   have hpo:Hid (0<d∧d<9223372036854775808∧t≤2^k):=⟨by omega,by omega,hb3⟩;have hpnn:Hid (nn<9223372036854775808):=by
    show nn<9223372036854775808
    omega
   have hpn:Hid (0<nn∧nn<9223372036854775808∧t≤2^k):=⟨by omega,by omega,hb3⟩
   rcases Nat.mod_two_eq_zero_or_one i with hp2|hp2
   ·have hpar:1*(i % 2)=0:=by omega
    obtain⟨f',hf,hI1⟩:=inv_up hn.out.1 hI.out.1 ht hpar (by omega);rw[←hi1,←hd,←hnn] at hI1;have hI2:Hid (InvN n k 1 R f' i1 (t/nn) (s+t/d) r∧d2=2*i1+1):=⟨hI1,by omega⟩;have hmd:(d:Int).tmod 4=1:=by rw[Int.tmod_eq_emod_of_nonneg (by omega)];omega
    obtain⟨c,hc⟩: ∃x,x=s+t/d-r:=⟨_,rfl⟩;have hza:Hid (s-r≤(k+2)*2^k∧t/d≤2^k):=⟨by omega,Nat.le_trans (Nat.div_le_self _ _) hbt⟩;have hzc:Hid (c=s-r+t/d):=by
     show c=s-r+t/d
     rw[hc];exact Nat.sub_add_comm hbr
    have hce:Hid (c=s+t/d-r):=hc;have hms:Hid (d2=d+2∧d≤2*k+1):=⟨hd2,by omega⟩;clear hc hI1 hf hpar hI hd hbt hbs hbr hik hnb hnn hi1 hd2 hbs0 hif hf0 hb3 hk0 hp2;replace ht:Hid _:=ht
    go_wp2_with fail
    refine(HF.out d _ hpd.out).mono ?_;rintro zz w201 ⟨v1x203,rfl,r1x204,bb202⟩;have q205:=q0.l bb202;have q206:=q1.l bb202;have r207:=rg.l bb202;have r208:=rz.l bb202;have b209:=aa hb0 bb202;obtain⟨eo,ec,hv⟩:=r1x204.shape;subst hv;clear q0 q1 rg rz hb0 bb202
    go_wp2_with fail
    refine(HI.out t d _ _ _ r207 r1x204 hpo.out).mono ?_;rintro zz w210 ⟨v1x212,v2x213,rfl,r1x214,r2x215,bb211⟩;have q216:=q205.l bb211;have q217:=q206.l bb211;have r218:=r207.l bb211;have r219:=r208.l bb211;have b220:=aa b209 bb211;obtain⟨yo,yc,hv⟩:=r1x214.shape;subst hv;obtain⟨mo,mc,hv⟩:=r2x215.shape;subst hv;clear q205 q206 r207 r208 r1x204 b209 bb211;obtain⟨c221,c222⟩:=q217.cs2
    go_wp2_with fail
    refine(HZ.out false (s-r) (t/d) c _ _ _ _ _ r219 r1x214 ⟨hza.out.1,hza.out.2,fun _=>hzc.out,fun e=>(by cases e)⟩).mono ?_
    rintro zz w223 ⟨v1x225,rfl,r1x226,bb224⟩;have q227:=q216.l bb224;have q228:=q217.l bb224;have r229:=r218.l bb224;have b230:=aa b220 bb224;obtain⟨xo,xc,hv⟩:=r1x226.shape;subst hv;clear q216 q217 r218 r219 r1x214 r2x215 b220 bb224 c221 c222;have bu:=(ag w223 zb 0 (.bool false)).trans (ag _ zb 1 (yS xo c xc));have q231:au ((w223.setCell ⟨zb,0,none⟩ (.bool false)).setCell ⟨zb,1,none⟩ (yS xo c xc)) zb 41 [.bool false,yS xo c xc]:=((q228.set 0 (.bool false)).set 1 (yS xo c xc));have c232:=q228.c 0 rfl;have y233:=q228.f 0;have c234:=q228.c 1 rfl;have y235:=q228.f 1;have q236:=bu.loc q227 (by omega);have r237:=bu.rd r229 (aX r229 q228 (by simp));have r238:=bu.rd r1x226 (aX r1x226 q228 (by simp));have b239:=bu.below b230 (by omega);clear bu
    go_upto_region 8 with fail
    generalize(w223.setCell ⟨zb,0,none⟩ (.bool false)).setCell ⟨zb,1,none⟩ (yS xo c xc)=W240 at q236 q231 r237 r238 b239⊢;clear q228 q227 r229 r1x226 b230 c232 y233 c234 y235
    go_wp2_with fail
    refine(HF.out nn _ hpnn.out).mono ?_;rintro zz w241 ⟨v1x243,rfl,r1x244,bb242⟩;have q245:=q236.l bb242;have q246:=q231.l bb242;have r247:=r237.l bb242;have r248:=r238.l bb242;have b249:=aa b239 bb242;obtain⟨vo,vc,hv⟩:=r1x244.shape;subst hv;clear q236 q231 r237 r238 b239 bb242
    go_wp2_with fail
    refine(HI.out t nn _ _ _ r247 r1x244 hpn.out).mono ?_;rintro zz w250 ⟨v1x252,v2x253,rfl,r1x254,r2x255,bb251⟩;have q256:=q245.l bb251;have q257:=q246.l bb251;have r258:=r248.l bb251;have b259:=aa b249 bb251;obtain⟨ao,ac,hv⟩:=r1x254.shape;subst hv;obtain⟨oo,oc,hv⟩:=r2x255.shape;subst hv;clear q245 q246 r247 r248 r1x244 b249 bb251
    go_wp2
    go_roundw
    case rel=>exact⟨f',i1,t/nn,s+t/d,r,d2,_,_,rfl,r1x254,by rw[←hce.out];exact q257,by rw[←hce.out];exact r258,q256,b259,hlt,hI2⟩
    case measure=>have:=hms.out;simp[intOf];omega
   ·have hpar:1*(i % 2)=1:=by omega
    rcases Nat.eq_zero_or_pos (t/d) with hxz|hxz
    ·have hl1:decide (0< (Dg.dg 65536 (t/d)).length)=false:=by rw[hxz];rfl
     obtain⟨f',hf,hI1⟩:=inv_down hn.out.1 hI.out.1 ht hpar;rw[←hi1,←hd,←hnn] at hI1;have hI2:Hid (InvN n k 1 R f' i1 (t/nn) s (r+t/d)∧d2=2*i1+1):=⟨hI1,by omega⟩;have hmd:(d:Int).tmod 4=3:=by rw[Int.tmod_eq_emod_of_nonneg (by omega)];omega
     obtain⟨c,hc⟩: ∃x,x=s-(r+t/d):=⟨_,rfl⟩;have hza:Hid (s-r≤(k+2)*2^k∧t/d≤2^k):=⟨by omega,Nat.le_trans (Nat.div_le_self _ _) hbt⟩;have hzc:Hid (c=s-r+t/d):=by
      show c=s-r+t/d
      rw[hc,hxz];omega
     have hce:Hid (c=s-(r+t/d)):=hc;have hms:Hid (d2=d+2∧d≤2*k+1):=⟨hd2,by omega⟩;clear hc hI1 hf hpar hI hd hbt hbs hbr hik hnb hnn hi1 hd2 hbs0 hif hf0 hb3 hk0 hp2 hxz;replace ht:Hid _:=ht
     go_wp2_with fail
     refine(HF.out d _ hpd.out).mono ?_;rintro zz w201 ⟨v1x203,rfl,r1x204,bb202⟩;have q205:=q0.l bb202;have q206:=q1.l bb202;have r207:=rg.l bb202;have r208:=rz.l bb202;have b209:=aa hb0 bb202;obtain⟨eo,ec,hv⟩:=r1x204.shape;subst hv;clear q0 q1 rg rz hb0 bb202
     go_wp2_with fail
     refine(HI.out t d _ _ _ r207 r1x204 hpo.out).mono ?_;rintro zz w210 ⟨v1x212,v2x213,rfl,r1x214,r2x215,bb211⟩;have q216:=q205.l bb211;have q217:=q206.l bb211;have r218:=r207.l bb211;have r219:=r208.l bb211;have b220:=aa b209 bb211;obtain⟨yo,yc,hv⟩:=r1x214.shape;subst hv;obtain⟨mo,mc,hv⟩:=r2x215.shape;subst hv;clear q205 q206 r207 r208 r1x204 b209 bb211;obtain⟨c221,c222⟩:=q217.cs2
     go_wp2_with fail
     refine(HZ.out false (s-r) (t/d) c _ _ _ _ _ r219 r1x214 ⟨hza.out.1,hza.out.2,fun _=>hzc.out,fun e=>(by cases e)⟩).mono ?_
     rintro zz w223 ⟨v1x225,rfl,r1x226,bb224⟩;have q227:=q216.l bb224;have q228:=q217.l bb224;have r229:=r218.l bb224;have b230:=aa b220 bb224;obtain⟨xo,xc,hv⟩:=r1x226.shape;subst hv;clear q216 q217 r218 r219 r1x214 r2x215 b220 bb224 c221 c222;have bu:=(ag w223 zb 0 (.bool false)).trans (ag _ zb 1 (yS xo c xc));have q231:au ((w223.setCell ⟨zb,0,none⟩ (.bool false)).setCell ⟨zb,1,none⟩ (yS xo c xc)) zb 41 [.bool false,yS xo c xc]:=((q228.set 0 (.bool false)).set 1 (yS xo c xc));have c232:=q228.c 0 rfl;have y233:=q228.f 0;have c234:=q228.c 1 rfl;have y235:=q228.f 1;have q236:=bu.loc q227 (by omega);have r237:=bu.rd r229 (aX r229 q228 (by simp));have r238:=bu.rd r1x226 (aX r1x226 q228 (by simp));have b239:=bu.below b230 (by omega);clear bu
     go_upto_region 8 with fail
     generalize(w223.setCell ⟨zb,0,none⟩ (.bool false)).setCell ⟨zb,1,none⟩ (yS xo c xc)=W240 at q236 q231 r237 r238 b239⊢;clear q228 q227 r229 r1x226 b230 c232 y233 c234 y235
     go_wp2_with fail
     refine(HF.out nn _ hpnn.out).mono ?_;rintro zz w241 ⟨v1x243,rfl,r1x244,bb242⟩;have q245:=q236.l bb242;have q246:=q231.l bb242;have r247:=r237.l bb242;have r248:=r238.l bb242;have b249:=aa b239 bb242;obtain⟨vo,vc,hv⟩:=r1x244.shape;subst hv;clear q236 q231 r237 r238 b239 bb242
     go_wp2_with fail
     refine(HI.out t nn _ _ _ r247 r1x244 hpn.out).mono ?_;rintro zz w250 ⟨v1x252,v2x253,rfl,r1x254,r2x255,bb251⟩;have q256:=q245.l bb251;have q257:=q246.l bb251;have r258:=r248.l bb251;have b259:=aa b249 bb251;obtain⟨ao,ac,hv⟩:=r1x254.shape;subst hv;obtain⟨oo,oc,hv⟩:=r2x255.shape;subst hv;clear q245 q246 r247 r248 r1x244 b249 bb251
     go_wp2
     go_roundw
     case rel=>exact⟨f',i1,t/nn,s,r+t/d,d2,_,_,rfl,r1x254,by rw[←hce.out];exact q257,by rw[←hce.out];exact r258,q256,b259,hlt,hI2⟩
     case measure=>have:=hms.out;simp[intOf];omega
    ·have hl1:0< (Dg.dg 65536 (t/d)).length:=by
      rcases Nat.eq_zero_or_pos (Dg.dg 65536 (t/d)).length with c|c
      ·exact absurd ((Dg.dg_nil_iff 65536 _ (by omega)).1 (List.length_eq_zero_iff.1 c)) (by omega)
      ·exact c
     obtain⟨f',hf,hI1⟩:=inv_down hn.out.1 hI.out.1 ht hpar;rw[←hi1,←hd,←hnn] at hI1;have hI2:Hid (InvN n k 1 R f' i1 (t/nn) s (r+t/d)∧d2=2*i1+1):=⟨hI1,by omega⟩;have hmd:(d:Int).tmod 4=3:=by rw[Int.tmod_eq_emod_of_nonneg (by omega)];omega
     obtain⟨c,hc⟩: ∃x,x=s-(r+t/d):=⟨_,rfl⟩;have hz1:=hI.out.1.2.2.2.2.2.2.1 hp2;rw[Nat.one_mul,←hd] at hz1;have hza:Hid (s-r≤(k+2)*2^k∧t/d≤2^k):=⟨by omega,Nat.le_trans (Nat.div_le_self _ _) hbt⟩;have hzc:Hid (t/d≤s-r∧c=s-r-t/d):=⟨by omega,by rw[hc];omega⟩;clear hz1;have hce:Hid (c=s-(r+t/d)):=hc;have hms:Hid (d2=d+2∧d≤2*k+1):=⟨hd2,by omega⟩;clear hc hI1 hf hpar hI hd hbt hbs hbr hik hnb hnn hi1 hd2 hbs0 hif hf0 hb3 hk0 hp2 hxz;replace ht:Hid _:=ht
     go_wp2_with fail
     refine(HF.out d _ hpd.out).mono ?_;rintro zz w201 ⟨v1x203,rfl,r1x204,bb202⟩;have q205:=q0.l bb202;have q206:=q1.l bb202;have r207:=rg.l bb202;have r208:=rz.l bb202;have b209:=aa hb0 bb202;obtain⟨eo,ec,hv⟩:=r1x204.shape;subst hv;clear q0 q1 rg rz hb0 bb202
     go_wp2_with fail
     refine(HI.out t d _ _ _ r207 r1x204 hpo.out).mono ?_;rintro zz w210 ⟨v1x212,v2x213,rfl,r1x214,r2x215,bb211⟩;have q216:=q205.l bb211;have q217:=q206.l bb211;have r218:=r207.l bb211;have r219:=r208.l bb211;have b220:=aa b209 bb211;obtain⟨yo,yc,hv⟩:=r1x214.shape;subst hv;obtain⟨mo,mc,hv⟩:=r2x215.shape;subst hv;clear q205 q206 r207 r208 r1x204 b209 bb211;obtain⟨c221,c222⟩:=q217.cs2
     go_wp2_with fail
     refine(HZ.out true (s-r) (t/d) c _ _ _ _ _ r219 r1x214 ⟨hza.out.1,hza.out.2,fun e=>(by cases e),fun _=>hzc.out⟩).mono ?_
     rintro zz w223 ⟨v1x225,rfl,r1x226,bb224⟩;have q227:=q216.l bb224;have q228:=q217.l bb224;have r229:=r218.l bb224;have b230:=aa b220 bb224;obtain⟨xo,xc,hv⟩:=r1x226.shape;subst hv;clear q216 q217 r218 r219 r1x214 r2x215 b220 bb224 c221 c222;have bu:=(ag w223 zb 0 (.bool false)).trans (ag _ zb 1 (yS xo c xc));have q231:au ((w223.setCell ⟨zb,0,none⟩ (.bool false)).setCell ⟨zb,1,none⟩ (yS xo c xc)) zb 41 [.bool false,yS xo c xc]:=((q228.set 0 (.bool false)).set 1 (yS xo c xc));have c232:=q228.c 0 rfl;have y233:=q228.f 0;have c234:=q228.c 1 rfl;have y235:=q228.f 1;have q236:=bu.loc q227 (by omega);have r237:=bu.rd r229 (aX r229 q228 (by simp));have r238:=bu.rd r1x226 (aX r1x226 q228 (by simp));have b239:=bu.below b230 (by omega);clear bu
     go_upto_region 8 with fail
     generalize(w223.setCell ⟨zb,0,none⟩ (.bool false)).setCell ⟨zb,1,none⟩ (yS xo c xc)=W240 at q236 q231 r237 r238 b239⊢;clear q228 q227 r229 r1x226 b230 c232 y233 c234 y235
     go_wp2_with fail
     refine(HF.out nn _ hpnn.out).mono ?_;rintro zz w241 ⟨v1x243,rfl,r1x244,bb242⟩;have q245:=q236.l bb242;have q246:=q231.l bb242;have r247:=r237.l bb242;have r248:=r238.l bb242;have b249:=aa b239 bb242;obtain⟨vo,vc,hv⟩:=r1x244.shape;subst hv;clear q236 q231 r237 r238 b239 bb242
     go_wp2_with fail
     refine(HI.out t nn _ _ _ r247 r1x244 hpn.out).mono ?_;rintro zz w250 ⟨v1x252,v2x253,rfl,r1x254,r2x255,bb251⟩;have q256:=q245.l bb251;have q257:=q246.l bb251;have r258:=r248.l bb251;have b259:=aa b249 bb251;obtain⟨ao,ac,hv⟩:=r1x254.shape;subst hv;obtain⟨oo,oc,hv⟩:=r2x255.shape;subst hv;clear q245 q246 r247 r248 r1x244 b249 bb251
     go_wp2
     go_roundw
     case rel=>exact⟨f',i1,t/nn,s,r+t/d,d2,_,_,rfl,r1x254,by rw[←hce.out];exact q257,by rw[←hce.out];exact r258,q256,b259,hlt,hI2⟩
     case measure=>have:=hms.out;simp[intOf];omega
def lnS (k:Nat):Nat→Nat
 |0=>0
 |j+1=>lnS k j+2^ (k-(j+1))/(j+1)
theorem lnS_le (k:Nat): ∀j,lnS k j≤j*2^k:=by
 intro j
 induction j with
 |zero=>simp[lnS]
 |succ j ih=>
  have h1:2^ (k-(j+1))/(j+1)≤2^k:=Nat.le_trans (Nat.div_le_self _ _) (Nat.pow_le_pow_right (by omega) (by omega));unfold lnS;rw[Nat.add_mul];omega
def LnR (w:World)(k:Nat)(sv kv:Value)(wr:World):Prop:=
 ∃j d s:Nat,kv=yi (d:Int)∧Rd wr .i64 sv (Dg.dg 65536 s)∧au wr w.heap.size 41 [.bool false,yN]∧yB w wr∧Hid (s=lnS k j∧d=j+1∧j≤k)
theorem ln2Of_W (k:Nat)(w:World)(hk:k≤60000)
  (HP2: ∀(m:Nat) w1,m≤k→yC 37 #[yi m] w1 (cG w1 (2^m)))
  (HF: ∀(m:Nat) w1,m<9223372036854775808→yC 32 #[yi m] w1 (cG w1 m))
  (HI: ∀(m d:Nat) v u w1,Rd w1 .i64 v (Dg.dg 65536 m)→Rd w1 .i64 u (Dg.dg 65536 d)→0<d∧d<9223372036854775808∧m≤2^k→yC 36 #[v,u] w1 (JI w1 (m/d) (m % d)))
  (HP: ∀(a b:Nat) v u w1,Rd w1 .i64 v (Dg.dg 65536 a)→Rd w1 .i64 u (Dg.dg 65536 b)→a≤(k+2)*2^k∧b≤2^k→yC 34 #[v,u] w1 (cG w1 (a+b))):
  yC 14 #[yi k] w (RZs w false (lnS k k)):=by
 replace HP2:Hid _:=HP2;replace HF:Hid _:=HF;replace HI:Hid _:=HI;replace HP:Hid _:=HP;replace hk:Hid _:=hk;obtain⟨W3,hW4,q1,b2⟩:=cA w [.bool false,yN] 41;replace hW4:Hid _:=hW4
 go_enter Tryd.func14,Tryd.ntmps14
 go_upto_region 1 with fail
 rw[hW4.out];clear hW4;have hbb:=b2;have qq0:=q1;clear q1 b2
 go_wp2
 go_loopw [3,4] (fun sv kv wr=>LnR w k sv kv wr) (fun _ kv _=>(((k+2:Nat):Int)-intOf kv).toNat)
 case atStart=>exact⟨0,1,0,rfl,aN _ _,qq0,hbb,rfl,rfl,Nat.zero_le _⟩
 case round=>
  clear qq0 hbb;obtain⟨j,d,s,rfl,rs,q0,hb0,hJ0⟩:=hrel;obtain⟨so,sc,hv⟩:=rs.shape;subst hv;obtain⟨h1,h2,h3⟩:=hJ0.out;have hk0:=hk.out
  by_cases hlt:d≤k
  ·obtain⟨pd,hpd0⟩: ∃x,x=k-d:=⟨_,rfl⟩
   obtain⟨d1,hd1⟩: ∃x,x=d+1:=⟨_,rfl⟩;have hw1:IntKind.i64.wrap ((k:Int)-(d:Int))=(pd:Int):=by
    rw[show k-(d:Int)=(pd:Int) by omega]
    exact IntWalk.i64_in _ ⟨by omega,by omega⟩
   have hw2:IntKind.i64.wrap ((d:Int)+1)=(d1:Int):=by
    rw[show d+1=(d1:Int) by omega]
    exact IntWalk.i64_in _ ⟨by omega,by omega⟩
   have hpd:Hid (pd≤k):=by
    show pd≤k
    omega
   have hpf:Hid (d<9223372036854775808):=by
    show d<9223372036854775808
    omega
   have hpw:2^pd≤2^k:=Nat.pow_le_pow_right (by omega) hpd.out;have hpo:Hid (0<d∧d<9223372036854775808∧2^pd≤2^k):=⟨by omega,hpf.out,hpw⟩;have hpp:Hid (s≤(k+2)*2^k∧2^pd/d≤2^k):=⟨by
    rw[h1];exact Nat.le_trans (lnS_le k j) (Nat.mul_le_mul_right _ (by omega)),Nat.le_trans (Nat.div_le_self _ _) hpw⟩
   have hJ:Hid (s+2^pd/d=lnS k (j+1)∧d1=j+1+1∧j+1≤k):=⟨by
    rw[h1,hpd0,h2];rfl,by omega,by omega⟩
   have hms:Hid (d1=d+1∧d≤k):=⟨hd1,hlt⟩;replace hlt:(d:Int)≤(k:Int):=by omega
   clear h1 h2 h3 hk0 hJ0 hpd0 hd1 hpw
   go_wp2_with fail
   refine(HP2.out pd _ hpd.out).mono ?_;rintro zz w201 ⟨v1x203,rfl,r1x204,bb202⟩;have q205:=q0.l bb202;have r206:=rs.l bb202;have b207:=aa hb0 bb202;obtain⟨ho,hc,hv⟩:=r1x204.shape;subst hv;clear q0 rs hb0 bb202
   go_wp2_with fail
   refine(HF.out d _ hpf.out).mono ?_;rintro zz w208 ⟨v1x210,rfl,r1x211,bb209⟩;have q212:=q205.l bb209;have r213:=r206.l bb209;have r214:=r1x204.l bb209;have b215:=aa b207 bb209;obtain⟨eo,ec,hv⟩:=r1x211.shape;subst hv;clear q205 r206 r1x204 b207 bb209
   go_wp2_with fail
   refine(HI.out (2^pd) d _ _ _ r214 r1x211 hpo.out).mono ?_;rintro zz w216 ⟨v1x218,v2x219,rfl,r1x220,r2x221,bb217⟩;have q222:=q212.l bb217;have r223:=r213.l bb217;have b224:=aa b215 bb217;obtain⟨yo,yc,hv⟩:=r1x220.shape;subst hv;obtain⟨mo,mc,hv⟩:=r2x221.shape;subst hv;clear q212 r213 r214 r1x211 b215 bb217
   go_wp2_with fail
   refine(HP.out s (2^pd/d) _ _ _ r223 r1x220 hpp.out).mono ?_;rintro zz w225 ⟨v1x227,rfl,r1x228,bb226⟩;have q229:=q222.l bb226;have b230:=aa b224 bb226;obtain⟨zo,zc,hv⟩:=r1x228.shape;subst hv;clear q222 r223 r1x220 r2x221 b224 bb226
   go_wp2
   go_roundw
   case rel=>exact⟨j+1,d1,s+2^pd/d,rfl,r1x228,q229,b230,hJ⟩
   case measure=>have:=hms.out;simp[intOf];omega
  ·have hse:Hid (lnS k k=s):=by
    show lnS k k=s
    rw[h1]
    congr 1
    omega
   replace hlt: ¬(d:Int)≤(k:Int):=by omega
   clear h1 h2 h3 hk0 hJ0;have hf:=fin2 (P:=Tryd.prog) q0 hb0 (by omega) Tryd.underlying41 rfl (by kernel_rfl) (.bool false) (yS so s sc);have HH:Hid (_∧_∧_):=⟨hf.1,hf.2.2.rd rs (aX rs q0 (by simp)),hf.2.1⟩;obtain⟨⟨z0,z1⟩,y0,y1⟩:=csf2 q0;clear hf q0 rs hb0
   go_wp2
   obtain⟨hl,rRs,bR⟩:=HH.out;exact bodyPost_ret (br Tryd.results14 rfl hl) rfl ⟨_,rfl,by rw[hse.out];exact rRs,bR⟩
theorem serBegun_W (a b p q x y z:ak)(c1 c2 c3:Int)(w:World)(h1:c1≤0)(h2:c2<0)(h3:0<c3)
  (HP: ∀w1,yB w w1→yC 7 #[yi 20] w1 (BRd w1 a b 0))
  (HL: ∀w1,yB w w1→yC 13 #[yi 20] w1 (BRd w1 p q 0))
  (O1: ∀ao ac w1,yB w w1→Rd w1 .u32 (yT ao a.n ac) (Dg.dg 4294967296 a.n)→yC 22 #[yDV a ao ac] w1 (dr w1 x))
  (O2: ∀bo bc w1,yB w w1→Rd w1 .u32 (yT bo b.n bc) (Dg.dg 4294967296 b.n)→yC 22 #[yDV b bo bc] w1 (dr w1 y))
  (O3: ∀po pc w1,yB w w1→Rd w1 .u32 (yT po p.n pc) (Dg.dg 4294967296 p.n)→yC 22 #[yDV p po pc] w1 (dr w1 z))
  (D1: ∀r xo xc w1,yB w w1→au w1 r 3 [yi 3]→Rd w1 .i64 (yS xo x.n xc) (Dg.dg 65536 x.n)→yC 21 #[ydV false (.slice (some ⟨r,0,none⟩) 1 1) 0,yMV x xo xc] w1 (yR w1 (yi c1)))
  (D2: ∀r yo yc w1,yB w w1→au w1 r 3 [yi 4]→Rd w1 .i64 (yS yo y.n yc) (Dg.dg 65536 y.n)→yC 21 #[yMV y yo yc,ydV false (.slice (some ⟨r,0,none⟩) 1 1) 0] w1 (yR w1 (yi c2)))
  (D3: ∀zo zc w1,yB w w1→Rd w1 .i64 (yS zo z.n zc) (Dg.dg 65536 z.n)→yC 23 #[yMV z zo zc] w1 (yR w1 (yi c3))):
  yC 8 #[] w (yR w (.bool true)):=by
 replace HP:Hid _:=HP;replace HL:Hid _:=HL;replace O1:Hid _:=O1;replace O2:Hid _:=O2;replace O3:Hid _:=O3;replace D1:Hid _:=D1;replace D2:Hid _:=D2;replace D3:Hid _:=D3
 go_enter Tryd.func8,Tryd.ntmps8
 have b0:=Below.refl w.heap.size w
 go_wp2_with fail
 refine(HP.out _ b0).mono ?_;rintro zz w1 ⟨v1x3,v2x4,rfl,r1x5,r2x6,bb2⟩;have b7:=aa b0 bb2;obtain⟨ao,ac,hv⟩:=r1x5.shape;subst hv;obtain⟨bo,bc,hv⟩:=r2x6.shape;subst hv;clear b0 bb2 HP;obtain⟨W10,hW9,q11,al8⟩:=cA w1 [.bool a.s,yT ao a.n ac,yi a.e,.bool b.s,yT bo b.n bc,yi b.e] 27;replace hW9:Hid _:=hW9;have hl12:w.heap.size≤w1.heap.size:=b7.size;have r13:=r1x5.l al8;have r14:=r2x6.l al8;have b15:=aa b7 al8;clear r1x5 r2x6 b7 al8
 go_upto_region 2 with fail
 rw[hW9.out];clear hW9
 go_wp2_with fail
 refine(HL.out _ b15).mono ?_;rintro zz w16 ⟨v1x18,v2x19,rfl,r1x20,r2x21,bb17⟩;have q22:=q11.l bb17;have r23:=r13.l bb17;have r24:=r14.l bb17;have b25:=aa b15 bb17;obtain⟨po,pc,hv⟩:=r1x20.shape;subst hv;obtain⟨qo,qc,hv⟩:=r2x21.shape;subst hv;clear q11 r13 r14 b15 bb17 HL;obtain⟨W28,hW27,q29,al26⟩:=cA w16 [.bool p.s,yT po p.n pc,yi p.e,.bool q.s,yT qo q.n qc,yi q.e] 27;replace hW27:Hid _:=hW27;have hl30:w.heap.size≤w16.heap.size:=b25.size;have hl31:=q22.lt;have q32:=q22.l al26;have r33:=r23.l al26;have r34:=r24.l al26;have r35:=r1x20.l al26;have b36:=aa b25 al26;clear q22 r23 r24 r1x20 r2x21 b25 al26
 go_upto_region 3 with fail
 rw[hW27.out];clear hW27;have hl39:=q32.lt;have hl40:=q29.lt;have al37:=af W28 (.cells #[yi 3] 3);have q38:=ah W28 [yi 3] 3;have q41:=q32.l al37;have q42:=q29.l al37;have r43:=r33.l al37;have r44:=r34.l al37;have r45:=r35.l al37;have b46:=aa b36 al37;have al47:=af (W28.alloc (.cells #[yi 3] 3)) (.cells #[yi 4] 3);have q48:=ah (W28.alloc (.cells #[yi 3] 3)) [yi 4] 3;simp only[World.size_alloc] at q48;have q49:=q41.l al47;have q50:=q42.l al47;have q51:=q38.l al47;have r52:=r43.l al47;have r53:=r44.l al47;have r54:=r45.l al47;have b55:=aa b46 al47;obtain⟨W58,hW57,q59,q60,al56⟩:=iG ((W28.alloc (.cells #[yi 3] 3)).alloc (.cells #[yi 4] 3)) (ydL false (.slice (some ⟨W28.heap.size,0,none⟩) 1 1) 0) 36 (ydL false (.slice (some ⟨W28.heap.size+1,0,none⟩) 1 1) 0) 36;replace hW57:Hid _:=hW57;have hl61:w.heap.size≤((W28.alloc (.cells #[yi 3] 3)).alloc (.cells #[yi 4] 3)).heap.size:=b55.size;have hl62:=q49.lt;have hl63:=q50.lt;have hl64:=q51.lt;have hl65:=q48.lt;simp only[World.size_alloc] at q59 q60 hl61 hl62 hl63 hl64 hl65;have q66:=q49.l al56;have q67:=q50.l al56;have q68:=q51.l al56;have q69:=q48.l al56;have r70:=r52.l al56;have r71:=r53.l al56;have r72:=r54.l al56;have b73:=aa b55 al56;clear q49 q50 q51 q48 r52 r53 r54 b55 al56 q32 q29 r33 r34 r35 b36 al37 q41 q42 q38 r43 r44 r45 b46 al47
 go_upto_region 4 with fail
 rw[hW57.out];clear hW57
 go_upto_region 4 with fail
 have bW74:yB W58 W58.drew:=(Below.refl _ _).drew;have q75:=q66.l bW74;have q76:=q67.l bW74;have q77:=q68.l bW74;have q78:=q69.l bW74;have q79:=q59.l bW74;have q80:=q60.l bW74;have r81:=r70.l bW74;have r82:=r71.l bW74;have r83:=r72.l bW74;have b84:=aa b73 bW74;clear q66 q67 q68 q69 q59 q60 r70 r71 r72 b73 bW74;refine wp_region_held_drew (S:=fun wq=>au wq w1.heap.size 27 [.bool a.s,yT ao a.n ac,yi a.e,.bool b.s,yT bo b.n bc,yi b.e]∧au wq w16.heap.size 27 [.bool p.s,yT po p.n pc,yi p.e,.bool q.s,yT qo q.n qc,yi q.e]∧au wq (W28.heap.size+1+1) 36 (ydL false (.slice (some ⟨W28.heap.size,0,none⟩) 1 1) 0)∧au wq (W28.heap.size+1+1+1) 36 (ydL false (.slice (some ⟨W28.heap.size+1,0,none⟩) 1 1) 0)) (by kernel_rfl) ⟨q75,q76,q79,q80⟩ (fun hS0=> ?_)
 generalize W58.drew=WD85 at q75 q76 q77 q78 q79 q80 r81 r82 r83 b84 hS0⊢;refine tq 0 (yi 0) rfl (fun _ _=>by kernel_rfl) hS0 ?_
 refine tq 1 (.bool true) rfl (fun _ _=>by go_simp) hS0 ?_
 refine tq 2 (.bool true) rfl (fun _ _=>by kernel_rfl) hS0 ?_
 refine tq 3 (yi 0) rfl (fun _ _=>by kernel_rfl) hS0 ?_
 refine tq 4 (.bool true) rfl (fun _ _=>by go_simp) hS0 ?_
 refine tq 5 (.bool true) rfl (fun _ _=>by kernel_rfl) hS0 ?_
 refine tq 6 (.bool true) rfl (fun _ _=>by kernel_rfl) hS0 ?_
 refine tq 7 (ydV false (.slice (some ⟨W28.heap.size,0,none⟩) 1 1) 0) rfl (fun _ hw0=>fy 36 (.tmp 5) rfl (W28.heap.size+1+1) 0 (by kernel_rfl) _ _ hw0.2.2.1.range Tryd.underlying36 rfl (by kernel_rfl)) hS0 ?_
 refine tq 8 (.pointer (some ⟨w1.heap.size,0,none⟩)) rfl (fun _ _=>by kernel_rfl) hS0 ?_
 refine tq 9 (yDV a ao ac) rfl (fun _ hw0=>fy 25 (.tmp 27) rfl w1.heap.size 0 (by kernel_rfl) _ _ (kY hw0.1 0 3 rfl) Tryd.underlying25 rfl (by kernel_rfl)) hS0 ?_
 refine wpAnyH_ready (rs:=[10]) (by kernel_rfl) (by simp) ?_;refine AllReadyH.cons rfl (fun K hK=> ?_) AllReadyH.nil
 go_simp
 refine(O1.out _ _ _ b84 r81).mono ?_;rintro zz w86 ⟨v1x88,rfl,r1x89,bb87⟩;have q90:=q75.l bb87;have q91:=q76.l bb87;have q92:=q77.l bb87;have q93:=q78.l bb87;have q94:=q79.l bb87;have q95:=q80.l bb87;have r96:=r82.l bb87;have r97:=r83.l bb87;have b98:=aa b84 bb87;obtain⟨xo,xc,hv⟩:=r1x89.shape;subst hv;clear q75 q76 q77 q78 q79 q80 r81 r82 r83 b84 bb87 O1;refine hK.out _ _ ⟨q90,q91,q94,q95⟩ (fun hS99=> ?_)
 clear hK K;refine wpAnyH_ready (rs:=[11]) (by kernel_rfl) (by simp) ?_;refine AllReadyH.cons rfl (fun K hK=> ?_) AllReadyH.nil
 go_simp
 refine(D1.out _ _ _ _ b98 q92 r1x89).mono ?_;rintro zz w100 ⟨rfl,bb101⟩;have q102:=q90.l bb101;have q103:=q91.l bb101;have q104:=q93.l bb101;have q105:=q94.l bb101;have q106:=q95.l bb101;have r107:=r96.l bb101;have r108:=r97.l bb101;have b109:=aa b98 bb101;clear q90 q91 q92 q93 q94 q95 r96 r97 r1x89 b98 bb101 D1;refine hK.out _ _ ⟨q102,q103,q105,q106⟩ (fun hS110=> ?_)
 clear hK K;refine tq 12 (.bool true) rfl (fun _ _=>by go_simp) hS110 ?_
 refine tq 13 (.bool true) rfl (fun _ _=>by kernel_rfl) hS110 ?_
 refine tq 14 (.bool true) rfl (fun _ _=>by kernel_rfl) hS110 ?_
 refine tq 15 (.pointer (some ⟨w1.heap.size,3,none⟩)) rfl (fun _ _=>by kernel_rfl) hS110 ?_
 refine tq 16 (yDV b bo bc) rfl (fun _ hw0=>fy 25 (.tmp 34) rfl w1.heap.size 3 (by kernel_rfl) _ _ (kY hw0.1 3 3 rfl) Tryd.underlying25 rfl (by kernel_rfl)) hS110 ?_
 refine tq 18 (ydV false (.slice (some ⟨W28.heap.size+1,0,none⟩) 1 1) 0) rfl (fun _ hw0=>fy 36 (.tmp 6) rfl (W28.heap.size+1+1+1) 0 (by kernel_rfl) _ _ hw0.2.2.2.range Tryd.underlying36 rfl (by kernel_rfl)) hS110 ?_
 refine wpAnyH_ready (rs:=[17]) (by kernel_rfl) (by simp) ?_;refine AllReadyH.cons rfl (fun K hK=> ?_) AllReadyH.nil
 go_simp
 refine(O2.out _ _ _ b109 r107).mono ?_;rintro zz w111 ⟨v1x113,rfl,r1x114,bb112⟩;have q115:=q102.l bb112;have q116:=q103.l bb112;have q117:=q104.l bb112;have q118:=q105.l bb112;have q119:=q106.l bb112;have r120:=r108.l bb112;have b121:=aa b109 bb112;obtain⟨yo,yc,hv⟩:=r1x114.shape;subst hv;clear q102 q103 q104 q105 q106 r107 r108 b109 bb112 O2;refine hK.out _ _ ⟨q115,q116,q118,q119⟩ (fun hS122=> ?_)
 clear hK K;refine wpAnyH_ready (rs:=[19]) (by kernel_rfl) (by simp) ?_;refine AllReadyH.cons rfl (fun K hK=> ?_) AllReadyH.nil
 go_simp
 refine(D2.out _ _ _ _ b121 q117 r1x114).mono ?_;rintro zz w123 ⟨rfl,bb124⟩;have q125:=q115.l bb124;have q126:=q116.l bb124;have q127:=q118.l bb124;have q128:=q119.l bb124;have r129:=r120.l bb124;have b130:=aa b121 bb124;clear q115 q116 q117 q118 q119 r120 r1x114 b121 bb124 D2;refine hK.out _ _ ⟨q125,q126,q127,q128⟩ (fun hS131=> ?_)
 clear hK K;refine tq 20 (.bool true) rfl (fun _ _=>by go_simp) hS131 ?_
 refine tq 21 (.bool true) rfl (fun _ _=>by kernel_rfl) hS131 ?_
 refine tq 22 (.bool true) rfl (fun _ _=>by kernel_rfl) hS131 ?_
 refine tq 23 (.pointer (some ⟨w16.heap.size,0,none⟩)) rfl (fun _ _=>by kernel_rfl) hS131 ?_
 refine tq 24 (yDV p po pc) rfl (fun _ hw0=>fy 25 (.tmp 42) rfl w16.heap.size 0 (by kernel_rfl) _ _ (kY hw0.2.1 0 3 rfl) Tryd.underlying25 rfl (by kernel_rfl)) hS131 ?_
 refine wpAnyH_ready (rs:=[25]) (by kernel_rfl) (by simp) ?_;refine AllReadyH.cons rfl (fun K hK=> ?_) AllReadyH.nil
 go_simp
 refine(O3.out _ _ _ b130 r129).mono ?_;rintro zz w132 ⟨v1x134,rfl,r1x135,bb133⟩;have q136:=q125.l bb133;have q137:=q126.l bb133;have q138:=q127.l bb133;have q139:=q128.l bb133;have b140:=aa b130 bb133;obtain⟨zo,zc,hv⟩:=r1x135.shape;subst hv;clear q125 q126 q127 q128 r129 b130 bb133 O3;refine hK.out _ _ ⟨q136,q137,q138,q139⟩ (fun hS141=> ?_)
 clear hK K;refine wpAnyH_ready (rs:=[26]) (by kernel_rfl) (by simp) ?_;refine AllReadyH.cons rfl (fun K hK=> ?_) AllReadyH.nil
 go_simp
 refine(D3.out _ _ _ b140 r1x135).mono ?_;rintro zz w142 ⟨rfl,bb143⟩;have q144:=q136.l bb143;have q145:=q137.l bb143;have q146:=q138.l bb143;have q147:=q139.l bb143;have b148:=aa b140 bb143;clear q136 q137 q138 q139 r1x135 b140 bb143 D3;refine hK.out _ _ ⟨q144,q145,q146,q147⟩ (fun hS149=> ?_)
 clear hK K;refine tq 27 (.bool true) rfl (fun _ _=>by go_simp) hS149 ?_
 refine tq 28 (.bool true) rfl (fun _ _=>by kernel_rfl) hS149 ?_
 refine tq 29 (.bool true) rfl (fun _ _=>by kernel_rfl) hS149 ?_
 refine wpAnyH_done (by kernel_rfl) ?_ _;clear hS0 hS99 hS110 hS122 hS131 hS141 hS149;simp only[Act.put,List.getElem_toArray,List.getElem_cons_succ,List.getElem_cons_zero,List.setIfInBounds_toArray,List.set_cons_zero,List.set_cons_succ]
 go_wp2
 go_ret
 exact⟨by simp,b148⟩
end Go.Proofs.YtiakgfmlpdfhdaaDoor
