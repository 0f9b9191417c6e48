/-
  Texts laid together: Ra3, Ga5, Ra4, Ga2, Ra5, Bl1, Bl6, Bm1, Bs1, Inv, BlN, BlM, Ra6.
-/
import Derived.Test.YtbdokgamhinajaaGreatDoorSm39
set_option maxRecDepth 100000
set_option maxHeartbeats 3200000
namespace Go.Proofs.YtbdokgamhinajaaGreatDoor
open _root_.Go.Proofs.Tryz
open Go.RowKit
theorem rd_one16 {w:World}{q:Nat}(h:w.cell? ⟨q,0,none⟩=some (yi 1)):Rd w .i64 (.slice (some ⟨q,0,none⟩) 1 1) [1]:=
 ⟨_,1,rfl,Nat.le_refl _,by unfold maxLen;omega,fun _=>⟨q,0,rfl,fun i hi=>by
  obtain rfl:i=0:=by simpa using hi
  exact h⟩⟩
theorem refOfD_any (x:ak)(xo:Option Addr)(xc:Nat)(w:World):
  yC 113 #[ydV x.s (yS xo x.n xc) x.e] w fun z w'=> ∃eo ec,z= .returned (yrV x.s (yS xo x.n xc) (.slice eo 1 ec) x.e)∧Rd w' .i64 (.slice eo 1 ec) [1]∧yB w w':=by
 obtain⟨W,hW,q1,q2,b⟩:=iG w (ydL x.s (yS xo x.n xc) x.e) 30 (yrL false yN yN 0) 58;replace hW:Hid _:=hW
 go_enter func113,ntmps113
 go_upto_region 1 with fail
 rw[hW.out];clear hW;have al:=af W (.cells #[yi 1] 3);have hn:=ah W [yi 1] 3;have hlt:=q2.lt;have q3:=q2.l al;have b3:=aa b al;have hf:=afz (P:=Tryz.prog) q3 b3 (by omega) underlying58 rfl (by kernel_rfl) (.bool x.s) (yS xo x.n xc) (.slice (some ⟨W.heap.size,0,none⟩) 1 1) (yi x.e);have HH:Hid (_∧_∧_):=⟨hf.1,hf.2.2.loc hn (by omega),hf.2.1⟩;obtain⟨c0,c1,c2⟩:=q1.cs3;obtain⟨d0,d1,d2⟩:=(q1.l al).cs3;obtain⟨⟨z0,z1,z2,z3⟩,y0,y1,y2,y3⟩:=afB q3;clear hf q1 q2 q3 b b3 al hn hlt
 go_wp2
 obtain⟨hl,hq,bR⟩:=HH.out;exact bodyPost_ret (br results113 rfl hl) rfl ⟨_,_,rfl,rd_one16 (hq.c 0 rfl),bR⟩
theorem round_bare {R D L G:Int}{gr:Bool}{way:Int}(t:ak)(h0:t.n≠0)(hD:1≤D)(hw:ai R*D.toNat≤64)(s:Bool):
  cI R D L G gr s (bare t).n 1 (bare t).e way=cI R D L G gr s t.n 1 t.e way:=by
 obtain⟨b1,b2,-⟩:=gN h0;obtain⟨m,hm⟩:=fO h0;have hn:(bare t).n=2*m+1:=by
  unfold bare;rw[if_neg h0];exact lI hm
 refine AC b1 (by omega) h0 (by omega) hD hw (J:=dY (bare t).n 1 (bare t).e-64) (aep ((max (-t.e) 0).toNat) (by omega) (by omega) (by omega) (by omega) ?_ _) (by omega);rw[hn,b2,Nat.mul_one,Nat.mul_one,show(t.e+(tz t.n:Int)+((max (-t.e) 0).toNat:Int)).toNat=tz t.n+(t.e+((max (-t.e) 0).toNat:Int)).toNat by omega,Nat.pow_add]
 generalize(t.e+((max (-t.e) 0).toNat:Int)).toNat=q at*
 conv=>rhs;rw[hm]
 rw[←Nat.mul_assoc,Nat.mul_comm (2*m+1)]
theorem fitted_any (k:Nat)(hk:1≤k∧k≤8)(wy:Int)(hw:1≤wy∧wy≤5)(qs:Bool)(N M:Nat)(E:Int)(no mo:Option Addr)(nc mc:Nat)(w:World)(hN:N≠0)(hM:M≠0)(rN:Rd w .i64 (yS no N nc) (Dg.dg 65536 N))(rM:Rd w .i64 (yS mo M mc) (Dg.dg 65536 M))
  (lN:bitLen N≤100000) (lM:bitLen M≤100000) (e1: -100000≤E) (e2:E≤100000):
  yC 22 #[yi k,yrV qs (yS no N nc) (yS mo M mc) E,yi wy] w (RVF w (plV k wy (cI (rdN k) (dgN k) (lsI k) (gsI k) (decide (k≤3)) qs N M E wy)).1 (plV k wy (cI (rdN k) (dgN k) (lsI k) (gsI k) (decide (k≤3)) qs N M E wy)).2.1 (plV k wy (cI (rdN k) (dgN k) (lsI k) (gsI k) (decide (k≤3)) qs N M E wy)).2.2.1 (plV k wy (cI (rdN k) (dgN k) (lsI k) (gsI k) (decide (k≤3)) qs N M E wy)).2.2.2):=by
 obtain⟨-,-,-,-,-,-,-,-,-,-,-,hg⟩:=eR hk;have key: ∀L:Nat,100000≤16*L→ ∀{x:Nat},bitLen x≤100000→(Dg.dg 65536 x).length≤L:=fun L hL {x} h=>by
  refine Dg.dg_len_le 65536 x L (by omega) ?_;rw[show(65536:Nat)=2^16 from rfl,←Nat.pow_mul]
  exact wZ (Nat.le_trans h hL)
 have hlen: ∀{x:Nat},bitLen x≤100000→(Dg.dg 65536 x).length≤20000:=fun {x} h=>key 20000 (by omega) h
 have hy:iC wy=true:=by unfold iC;simpa using hw
 refine(acs k _ _ _ (rdN k) (dgN k) (lsI k) (gsI k) _ _ wy E _ (decide (k≤3)) _ _ qs N M no mo nc mc (cI (rdN k) (dgN k) (lsI k) (gsI k) (decide (k≤3)) qs N M E wy) _ w (fun w1=>form_any k hk w1) (fun w1 b=>KU _ _ _ _ _ qs no nc mo mc N M E wy w1 hg hy (rN.l b) (rM.l b) (hlen lN) (hlen lM) hN hM e1 e2 (by omega) (by omega)) (fun po pc w1 h=>placed_any k hk wy hw _ (rnd_of hk qs N M E wy hN hM).plc po pc w1 h)).mono (fun z w' h=>h.near)
theorem fitD_any (k:Nat)(hk:1≤k∧k≤8)(wy:Int)(hw:1≤wy∧wy≤5)(x:ak)(xo:Option Addr)(xc:Nat)(w:World)(h0:x.n≠0)(rx:Rd w .i64 (yS xo x.n xc) (Dg.dg 65536 x.n))(lN:bitLen x.n≤100000)(e1: -100000≤x.e)(e2:x.e≤100000):
  yC 73 #[yi k,ydV x.s (yS xo x.n xc) x.e,yi wy] w (RVF w (plV k wy (fY k wy x)).1 (plV k wy (fY k wy x)).2.1 (plV k wy (fY k wy x)).2.2.1 (plV k wy (fY k wy x)).2.2.2):=by
 have hz:(((Dg.dg 65536 x.n).length:Int)==0)=false:=by
  have:(Dg.dg 65536 x.n).length≠0:=fun c=>h0 ((Dg.dg_nil_iff 65536 _ (by omega)).1 (List.length_eq_zero_iff.1 c))
  simpa using this
 exact aeo k _ wy _ _ x _ xo xc w hz (fun w1 b=>refOfD_any x xo xc w1) (fun eo ec w1 b h=>fitted_any k hk wy hw x.s x.n 1 x.e xo eo xc ec w1 h0 (by omega) (rx.l b) h lN (by decide) e1 e2)
def nthV (k:Nat)(fl:Int):Int×Bool×ak×Int:=(AZ (dK k),false,⟨false,0,0⟩,fl)
theorem same_off {k:Nat}(hk:1≤k∧k≤8)(way fl:Int):SameV k (m8 k way (AZ (dK k)) false ⟨false,0,0⟩ fl) (nthV k fl):=by
 unfold m8 nthV;rw[if_neg (show¬AZ (dK k)=2 from fun h=>vN (k:=k) (fl:=0) h)]
 have key: ∀c:Nat,AZ (dK k)=(c:Int)→(c=1∨c=3∨c=4∨c=5)→iR k c=true→SameV k (Dw k (c:Int) false 0 0 fl) ((c:Int),false,⟨false,0,0⟩,fl):=fun c _ hc hs=>same_oth hk hc false fl hs (fun c=>by cases c)
 rcases qt hk with hf|hf|hf
 ·have e:AZ (dK k)=((4:Nat):Int):=by rw[hf];rfl
  rw[e,if_neg (by decide)];exact key 4 e (by decide) (by have:=(fam_one hk).1 hf;simp[iR,this])
 ·have e:AZ (dK k)=((1:Nat):Int):=by rw[hf];rfl
  rw[e,if_pos (by decide)];exact key 1 e (by decide) rfl
 ·have e:AZ (dK k)=((5:Nat):Int):=by rw[hf];rfl
  rw[e,if_neg (by decide)];have h6:6≤k:=by
   revert hf
   rcases bO hk with rfl|rfl|rfl|rfl|rfl|rfl|rfl|rfl<;>decide
  exact key 5 e (by decide) (by simp[iR,h6])
theorem same_inf {k:Nat}(hk:1≤k∧k≤8)(h3:k≤3)(way:Int)(g:Bool)(t:ak)(fl:Int):SameV k (m8 k way 3 g t fl) (3,g,⟨false,0,0⟩,fl):=by
 unfold m8;rw[if_neg (by decide),if_neg (by decide)];exact same_oth hk (c:=3) (by decide) g fl (by simp[iR,h3]) (fun _=>rfl)
theorem same_nil {k:Nat}(hk:1≤k∧k≤8)(way:Int)(g:Bool)(t:ak)(fl:Int):SameV k (m8 k way 1 g t fl) (1,g&&decide (dK k=1),⟨false,0,0⟩,fl):=by
 unfold m8;rw[if_neg (by decide),if_pos rfl];refine same_oth hk (c:=1) (by decide) _ fl rfl (fun h=> ?_)
 have:=(fam_one hk).1 (of_decide_eq_true (Bool.and_eq_true_iff.1 h).2);simp[Bk];omega
theorem same_fit {k:Nat}(hk:1≤k∧k≤8)(way:Int)(g:Bool)(t:ak)(h0:t.n≠0):SameV k (m8 k way 2 g t 0) (plV k way (fY k way t)):=by
 unfold m8;rw[if_pos rfl];exact same_plc hk way _ (rnd_of hk t.s t.n 1 t.e way h0 (by omega))
theorem lost_any (k:Nat)(hk:1≤k∧k≤8)(w:World):yC 35 #[yi k] w (RVF w (AZ (dK k)) false ⟨false,0,0⟩ 16):=
 aen k _ w (fun w1=>refNothing_any k hk w1)
theorem off_row (k:Nat)(hk:1≤k∧k≤8)(cl:List Int)(pb:Nat)(w:World)(hm:cl.length≤3)(hc: ∀(i:Nat) c,cl[i]? =some c→w.cell? ⟨pb,i*5,none⟩=some (yi c)):
  ((∀c∈cl,c≤3)→yC 34 #[yi k,.slice (some ⟨pb,0,none⟩) cl.length cl.length] w (yR w (.tuple #[yoV 0 false false yN 0,yi 0,.bool false])))∧
  ((∃j c,0≤j∧cl[j]? =some c∧4≤c)→yC 34 #[yi k,.slice (some ⟨pb,0,none⟩) cl.length cl.length] w (yR w (.tuple #[yoV (AZ (dK k)) false false yN 0,yi (if dK k=3 then 16 else 0),.bool true]))):=by
 have HF:=fun w1=>form_any k hk w1
 have HN:=fun w1=>refNothing_any k hk w1
 refine⟨fun h=>aey _ _ _ _ _ _ _ _ _ _ _ cl pb w hm hc h HF,fun h=> ?_⟩
 by_cases hf:dK k=3
 ·rw[if_pos hf]
  rw[hf] at HF;exact aez _ _ _ _ _ _ _ _ _ _ _ cl pb w hm hc h HF HN
 ·rw[if_neg hf]
  exact aff _ _ _ _ _ _ _ _ _ _ _ _ cl pb w hm hc (by simpa using hf) h HF HN
theorem aaY (n c fl:Int)(g:Bool)(t:ak)(so:Option Addr)(sc:Nat)(st:ByteArray)(w:World)
  (HE:yH w 37 #[yi n,yoV c g t.s (yS so t.n sc) t.e] (.string st)):
  yC 12 #[yi n,.string st,yi fl,yi 0,yi 0,yoV c g t.s (yS so t.n sc) t.e,yi fl] w (yR w (.bool true)):=by
 replace HE:Hid _:=HE;obtain⟨W3,hW4,q1,b2⟩:=cA w (yoL c g t.s (yS so t.n sc) t.e) 32;replace hW4:Hid _:=hW4
 go_enter func12,ntmps12
 go_upto_region 1 with fail
 rw[hW4.out];clear hW4;obtain⟨c5,c6,c7,c8,c9⟩:=q1.cs5
 go_wp2_with fail
 refine(HE.out _ b2).mono ?_;rintro zz w10 ⟨rfl,bb11⟩;have b12:=aa b2 bb11;clear q1 b2 bb11 HE c5 c6 c7 c8 c9
 go_wp2
 go_ret
 exact⟨by simp,b12⟩
theorem aal (n c e wt:Int)(g:Bool)(t:ak)(so:Option Addr)(sc:Nat)(w:World)(he:(e==0)=false):
  yC 12 #[yi n,.string ⟨#[]⟩,yi 0,yi e,yi e,yoV c g t.s (yS so t.n sc) t.e,yi wt] w (yR w (.bool true)):=by
 obtain⟨W3,hW4,q1,b2⟩:=cA w (yoL c g t.s (yS so t.n sc) t.e) 32;replace hW4:Hid _:=hW4;clear q1
 go_enter func12,ntmps12
 go_upto_region 1 with fail
 rw[hW4.out];clear hW4
 go_wp2
 go_ret
 exact⟨by simp,b2⟩
theorem way_is {way:Int}:iC way=true↔1≤way∧way≤5:=by
 unfold iC;simp
theorem rec_wrong {n way:Int}{ps:List ByteArray}(f:Int×Bool×ak×Int)(h:CK n way ps≠0):jV n way ps f=(⟨#[]⟩,0,CK n way ps):=by
 unfold CK at h⊢;unfold jV
 by_cases hf:dK n=0
 ·rw[if_pos hf,if_pos hf]
 rw[if_neg hf] at h⊢;rw[if_neg hf]
 by_cases he:fT n ps=0
 ·rw[if_pos he] at h⊢
  rw[if_neg (fun c=>c he)]
  cases hw:iC way
  ·rw[if_pos (by
    have: ¬(1≤way∧way≤5):=fun c=>by rw[way_is.2 c] at hw;cases hw
    omega)]
   rfl
  ·rw[hw] at h
   exact absurd rfl h
 ·rw[if_neg he,if_pos he]
theorem opn_right {n way:Int}{ps:List ByteArray}(h:CK n way ps=0): ∃k:Nat,(1≤k∧k≤8)∧n=(k:Int)∧dK n≠0∧fT n ps=0∧1≤way∧way≤5:=by
 unfold CK at h
 by_cases hf:dK n=0
 ·rw[if_pos hf] at h
  exact absurd h (by decide)
 rw[if_neg hf] at h;obtain⟨k1,k2,k3⟩:=fF hf;refine⟨n.toNat,⟨k1,k2⟩,k3.symm,hf, ?_⟩
 by_cases he:fT n ps=0
 ·rw[if_pos he] at h
  cases hw:iC way
  ·rw[hw] at h
   exact absurd h (by decide)
  ·exact⟨he,way_is.1 hw⟩
 ·rw[if_neg he] at h
  exact absurd h he
theorem rec_right {k:Nat}{way:Int}{ps:List ByteArray}(f:Int×Bool×ak×Int)(hf:dK k≠0)(he:fT k ps=0)(hw:1≤way∧way≤5):jV k way ps f=if ps.any (dO k)=true then m8 k way (AZ (dK k)) false ⟨false,0,0⟩ (if dK k=1 then 0 else 16) else m8 k way f.1 f.2.1 f.2.2.1 f.2.2.2:=by
 unfold jV;rw[if_neg hf,if_neg (by omega),if_neg (by omega),Int.toNat_natCast]
theorem open_err {n way:Int}{ps:List ByteArray}(h:CK n way ps≠0)(hm:ps.length≤3)(pb:Nat)(w:World)(hl:au w pb 9 (ps.map Value.string)):yC 9 #[yi n,yi way,.slice (some ⟨pb,0,none⟩) ps.length ps.length] w (yR w (.tuple #[yN,yi (CK n way ps)])):=
 (Qc n way ps pb w hl hm).mono (fun z w' h2=>by
  rcases h2 with⟨e,-⟩| ⟨-,e,b⟩
  ·exact absurd e h
  ·exact⟨e,b⟩)
theorem open_ok {n way:Int}{ps:List ByteArray}(h:CK n way ps=0)(hm:ps.length≤3)(h0:ps≠[])(pb:Nat)(w:World)(hl:au w pb 9 (ps.map Value.string)):yC 9 #[yi n,yi way,.slice (some ⟨pb,0,none⟩) ps.length ps.length] w fun z w'=> ∃gb cap,z= .returned (.tuple #[.slice (some ⟨gb,0,none⟩) ps.length cap,yi 0])∧ab5 w' n ps gb cap∧yB w w':=
 (Qc n way ps pb w hl hm).mono (fun z w' h2=>by
  rcases h2 with⟨-,v,cs,e,ho,hat,b⟩| ⟨e,-⟩
  ·obtain⟨g,cap,rfl,hv⟩:=ab6 h0 ho hat
   exact⟨g,cap,e,hv,b⟩
  ·exact absurd h e)
def RefOf (k:Nat)(wy:Int)(cx cy:Int)(gx gy:Bool)(x y:ak)(F:Nat)(v:Int×Bool×ak×Int):Prop:=
 ∀xo xc yo yc w,Rd w .i64 (yS xo x.n xc) (Dg.dg 65536 x.n)→Rd w .i64 (yS yo y.n yc) (Dg.dg 65536 y.n)→yC F #[yi k,yoV cx gx x.s (yS xo x.n xc) x.e,yoV cy gy y.s (yS yo y.n yc) y.e,yi wy] w (RVF w v.1 v.2.1 v.2.2.1 v.2.2.2)
theorem off_pair (k:Nat)(hk:1≤k∧k≤8)(cx cy:Int)(gx gy sx sy:Bool)(vx vy:Value)(ex ey:Int)(pb:Nat)(w:World)(hl:au w pb 32 [yi cx,.bool gx,.bool sx,vx,yi ex,yi cy,.bool gy,.bool sy,vy,yi ey]):
  (cx≤3∧cy≤3→yC 34 #[yi k,.slice (some ⟨pb,0,none⟩) 2 2] w (yR w (.tuple #[yoV 0 false false yN 0,yi 0,.bool false])))∧
  (¬(cx≤3∧cy≤3)→yC 34 #[yi k,.slice (some ⟨pb,0,none⟩) 2 2] w (yR w (.tuple #[yoV (AZ (dK k)) false false yN 0,yi (if dK k=3 then 16 else 0),.bool true]))):=by
 have hc: ∀(i:Nat) c,[cx,cy][i]? =some c→w.cell? ⟨pb,i*5,none⟩=some (yi c):=fun i c h=>by
  rcases i with- | - |i
  ·obtain rfl:cx=c:=by simpa using h
   exact hl.c 0 rfl
  ·obtain rfl:cy=c:=by simpa using h
   exact hl.c 5 rfl
  ·simp at h
 obtain⟨h1,h2⟩:=off_row k hk [cx,cy] pb w (by simp) hc;refine⟨fun h=>h1 (fun c hc=>by
  rcases List.mem_cons.1 hc with rfl|hc
  ·exact h.1
  ·rw[List.mem_singleton.1 hc]
   exact h.2),fun h=>h2 ?_⟩
 by_cases c:cx≤3
 ·exact⟨1,cy,by omega,rfl,by omega⟩
 ·exact⟨0,cx,by omega,rfl,by omega⟩
theorem hex_num {k:Nat}(hk:1≤k∧k≤8)(hf:dK k=2){a:ByteArray}(ha:dF k a=0):bM k a≤2:=by
 have h45: ¬k≤3∧k≤5:=by
  revert hf
  rcases bO hk with rfl|rfl|rfl|rfl|rfl|rfl|rfl|rfl<;>decide
 unfold bM;rw[if_pos ha,Int.toNat_natCast];unfold dh;rw[if_neg h45.1,if_pos h45.2]
 split<;>omega
theorem inf_few {k:Nat}{a:ByteArray}(ha:dF k a=0)(h:bM k a=3):k≤3:=by
 refine Decidable.byContradiction fun h3=> ?_
 revert h
 unfold bM;rw[if_pos ha,Int.toNat_natCast];unfold dh;rw[if_neg h3]
 split
 ·split<;>omega
 ·split
  ·split<;>omega
  ·omega
theorem pat_ok {k:Nat}{r:ByteArray×Int×Int}{v:Int×Bool×ak×Int}(h:SameV k r v)(so:Option Addr)(sc:Nat)(w:World)(hr:Rd w .i64 (yS so v.2.2.1.n sc) (Dg.dg 65536 v.2.2.1.n)):yC 12 #[yi k,.string r.1,yi r.2.1,yi r.2.2,yi 0,yoV v.1 v.2.1 v.2.2.1.s (yS so v.2.2.1.n sc) v.2.2.1.e,yi v.2.2.2] w (yR w (.bool true)):=by
 obtain⟨h1,h2,h3⟩:=h;rw[h1,h2];exact aaY k _ _ _ v.2.2.1 so sc r.1 w (fun w1 b=>h3 so sc w1 (hr.l b))
theorem VV (c:Int)(n wy:Int)(x y:ak)(xo yo:Option Addr)(xc yc:Nat)(w:World)(HO: ∀pb w1,au w1 pb 32 [yi 3,.bool true,.bool x.s,yS xo x.n xc,yi x.e,yi 3,.bool false,.bool y.s,yS yo y.n yc,yi y.e]→yC 34 #[yi n,.slice (some ⟨pb,0,none⟩) 2 2] w1 (yR w1 (.tuple #[yoV 0 false false yN 0,yi 0,.bool false])))
  (HL: ∀w1,yC 35 #[yi n] w1 (RVF w1 c false ⟨false,0,0⟩ 16)):
  yC 10 #[yi n,yoV 3 true x.s (yS xo x.n xc) x.e,yoV 3 false y.s (yS yo y.n yc) y.e,yi wy] w (RVF w c false ⟨false,0,0⟩ 16):=by
 replace HO:Hid _:=HO;replace HL:Hid _:=HL;obtain⟨W5,hW6,q1,q2,q3,b4⟩:=lG w (yoL 3 true x.s (yS xo x.n xc) x.e) 32 (yoL 3 false y.s (yS yo y.n yc) y.e) 32 (yoL 0 false false yN 0) 32;replace hW6:Hid _:=hW6
 go_enter func10,ntmps10
 go_upto_region 1 with fail
 rw[hW6.out];clear hW6;obtain⟨c7,c8,c9,c10,c11⟩:=q1.cs5;obtain⟨c12,c13,c14,c15,c16⟩:=q2.cs5;have al17:=af W5 (.cells #[yi 3,.bool true,.bool x.s,yS xo x.n xc,yi x.e,yi 3,.bool false,.bool y.s,yS yo y.n yc,yi y.e] 32);have q18:=ah W5 [yi 3,.bool true,.bool x.s,yS xo x.n xc,yi x.e,yi 3,.bool false,.bool y.s,yS yo y.n yc,yi y.e] 32;have q19:=q1.l al17;have q20:=q2.l al17;have q21:=q3.l al17;have b22:=aa b4 al17
 go_wp2_with fail
 refine(HO.out _ _ q18).mono ?_;rintro zz w23 ⟨rfl,bb24⟩;have q25:=q19.l bb24;have q26:=q20.l bb24;have q27:=q21.l bb24;have b28:=aa b22 bb24;clear q19 q20 q21 q18 b22 bb24 HO c7 c8 c9 c10 c11 c12 c13 c14 c15 c16 q1 q2 q3 b4 al17;obtain⟨W32,hW31,q30,al29⟩:=cA w23 (yoL 0 false false yN 0) 32;replace hW31:Hid _:=hW31;have hl33:w.heap.size≤w23.heap.size:=b28.size;have hl34:=q26.lt;have hl35:=q27.lt;have q36:=q25.l al29;have q37:=q26.l al29;have q38:=q27.l al29;have b39:=aa b28 al29;clear q25 q26 q27 b28 al29 q30
 go_upto_region 2 with fail
 rw[hW31.out];clear hW31;have c40:=q36.c 0 rfl;have c41:=q36.c 1 rfl;have c42:=q37.c 0 rfl;have c43:=q37.c 1 rfl
 go_wp2_with fail
 refine(HL.out _).mono ?_;rintro zz w44 ⟨v146,rfl,r147,bb45⟩;have q48:=q38.l bb45;have b49:=aa b39 bb45;obtain⟨so,sc,hv⟩:=r147.shape;subst hv;clear q36 q37 q38 b39 bb45 HL c40 c41 c42 c43;have hf:=dL (P:=Tryz.prog) q48 b49 (by omega) underlying32 rfl (by kernel_rfl) (yi c) (.bool false) (.bool false) (yS so 0 sc) (yi 0);have HH:Hid (_∧_∧_):=⟨hf.1,hf.2.2.rd r147 (mu r147 q48),hf.2.1⟩;obtain⟨⟨z0,z1,z2,z3,z4⟩,y0,y1,y2,y3,y4⟩:=dN q48;clear hf q48 r147 b49
 go_wp2
 obtain⟨hl,rRs,bR⟩:=HH.out;exact bodyPost_ret (aj results10 rfl rfl hl) rfl ⟨_,rfl,rRs,bR⟩
theorem VW (c:Int)(n wy:Int)(x y:ak)(xo yo:Option Addr)(xc yc:Nat)(w:World)(HO: ∀pb w1,au w1 pb 32 [yi 3,.bool false,.bool x.s,yS xo x.n xc,yi x.e,yi 3,.bool true,.bool y.s,yS yo y.n yc,yi y.e]→yC 34 #[yi n,.slice (some ⟨pb,0,none⟩) 2 2] w1 (yR w1 (.tuple #[yoV 0 false false yN 0,yi 0,.bool false])))
  (HL: ∀w1,yC 35 #[yi n] w1 (RVF w1 c false ⟨false,0,0⟩ 16)):
  yC 10 #[yi n,yoV 3 false x.s (yS xo x.n xc) x.e,yoV 3 true y.s (yS yo y.n yc) y.e,yi wy] w (RVF w c false ⟨false,0,0⟩ 16):=by
 replace HO:Hid _:=HO;replace HL:Hid _:=HL;obtain⟨W5,hW6,q1,q2,q3,b4⟩:=lG w (yoL 3 false x.s (yS xo x.n xc) x.e) 32 (yoL 3 true y.s (yS yo y.n yc) y.e) 32 (yoL 0 false false yN 0) 32;replace hW6:Hid _:=hW6
 go_enter func10,ntmps10
 go_upto_region 1 with fail
 rw[hW6.out];clear hW6;obtain⟨c7,c8,c9,c10,c11⟩:=q1.cs5;obtain⟨c12,c13,c14,c15,c16⟩:=q2.cs5;have al17:=af W5 (.cells #[yi 3,.bool false,.bool x.s,yS xo x.n xc,yi x.e,yi 3,.bool true,.bool y.s,yS yo y.n yc,yi y.e] 32);have q18:=ah W5 [yi 3,.bool false,.bool x.s,yS xo x.n xc,yi x.e,yi 3,.bool true,.bool y.s,yS yo y.n yc,yi y.e] 32;have q19:=q1.l al17;have q20:=q2.l al17;have q21:=q3.l al17;have b22:=aa b4 al17
 go_wp2_with fail
 refine(HO.out _ _ q18).mono ?_;rintro zz w23 ⟨rfl,bb24⟩;have q25:=q19.l bb24;have q26:=q20.l bb24;have q27:=q21.l bb24;have b28:=aa b22 bb24;clear q19 q20 q21 q18 b22 bb24 HO c7 c8 c9 c10 c11 c12 c13 c14 c15 c16 q1 q2 q3 b4 al17;obtain⟨W32,hW31,q30,al29⟩:=cA w23 (yoL 0 false false yN 0) 32;replace hW31:Hid _:=hW31;have hl33:w.heap.size≤w23.heap.size:=b28.size;have hl34:=q26.lt;have hl35:=q27.lt;have q36:=q25.l al29;have q37:=q26.l al29;have q38:=q27.l al29;have b39:=aa b28 al29;clear q25 q26 q27 b28 al29 q30
 go_upto_region 2 with fail
 rw[hW31.out];clear hW31;have c40:=q36.c 0 rfl;have c41:=q36.c 1 rfl;have c42:=q37.c 0 rfl;have c43:=q37.c 1 rfl
 go_wp2_with fail
 refine(HL.out _).mono ?_;rintro zz w44 ⟨v146,rfl,r147,bb45⟩;have q48:=q38.l bb45;have b49:=aa b39 bb45;obtain⟨so,sc,hv⟩:=r147.shape;subst hv;clear q36 q37 q38 b39 bb45 HL c40 c41 c42 c43;have hf:=dL (P:=Tryz.prog) q48 b49 (by omega) underlying32 rfl (by kernel_rfl) (yi c) (.bool false) (.bool false) (yS so 0 sc) (yi 0);have HH:Hid (_∧_∧_):=⟨hf.1,hf.2.2.rd r147 (mu r147 q48),hf.2.1⟩;obtain⟨⟨z0,z1,z2,z3,z4⟩,y0,y1,y2,y3,y4⟩:=dN q48;clear hf q48 r147 b49
 go_wp2
 obtain⟨hl,rRs,bR⟩:=HH.out;exact bodyPost_ret (aj results10 rfl rfl hl) rfl ⟨_,rfl,rRs,bR⟩
theorem adO (cy:Int)(n wy:Int)(gx gy:Bool)(x y:ak)(xo yo:Option Addr)(xc yc:Nat)(w:World)(hy:(3==cy)=false)(rx:Rd w .i64 (yS xo x.n xc) (Dg.dg 65536 x.n))
  (HO: ∀pb w1,au w1 pb 32 [yi 3,.bool gx,.bool x.s,yS xo x.n xc,yi x.e,yi cy,.bool gy,.bool y.s,yS yo y.n yc,yi y.e]→yC 34 #[yi n,.slice (some ⟨pb,0,none⟩) 2 2] w1 (yR w1 (.tuple #[yoV 0 false false yN 0,yi 0,.bool false]))):
  yC 10 #[yi n,yoV 3 gx x.s (yS xo x.n xc) x.e,yoV cy gy y.s (yS yo y.n yc) y.e,yi wy] w (RVF w 3 gx x 0):=by
 replace HO:Hid _:=HO;obtain⟨W5,hW6,q1,q2,q3,b4⟩:=lG w (yoL 3 gx x.s (yS xo x.n xc) x.e) 32 (yoL cy gy y.s (yS yo y.n yc) y.e) 32 (yoL 0 false false yN 0) 32;replace hW6:Hid _:=hW6;have r7:=rx.l b4;clear rx
 go_enter func10,ntmps10
 go_upto_region 1 with fail
 rw[hW6.out];clear hW6;obtain⟨c8,c9,c10,c11,c12⟩:=q1.cs5;obtain⟨c13,c14,c15,c16,c17⟩:=q2.cs5;have al18:=af W5 (.cells #[yi 3,.bool gx,.bool x.s,yS xo x.n xc,yi x.e,yi cy,.bool gy,.bool y.s,yS yo y.n yc,yi y.e] 32);have q19:=ah W5 [yi 3,.bool gx,.bool x.s,yS xo x.n xc,yi x.e,yi cy,.bool gy,.bool y.s,yS yo y.n yc,yi y.e] 32;have q20:=q1.l al18;have q21:=q2.l al18;have q22:=q3.l al18;have r23:=r7.l al18;have b24:=aa b4 al18
 go_wp2_with fail
 refine(HO.out _ _ q19).mono ?_;rintro zz w25 ⟨rfl,bb26⟩;have q27:=q20.l bb26;have q28:=q21.l bb26;have q29:=q22.l bb26;have r30:=r23.l bb26;have b31:=aa b24 bb26;clear q20 q21 q22 q19 r23 b24 bb26 HO c8 c9 c10 c11 c12 c13 c14 c15 c16 c17 q1 q2 q3 r7 b4 al18;obtain⟨W35,hW34,q33,al32⟩:=cA w25 (yoL 0 false false yN 0) 32;replace hW34:Hid _:=hW34;have hl36:w.heap.size≤w25.heap.size:=b31.size;have hl37:=q28.lt;have hl38:=q29.lt;have q39:=q27.l al32;have q40:=q28.l al32;have q41:=q29.l al32;have r42:=r30.l al32;have b43:=aa b31 al32;clear q27 q28 q29 r30 b31 al32 q33
 go_upto_region 2 with fail
 rw[hW34.out];clear hW34;obtain⟨c44,c45,c46,c47,c48⟩:=q39.cs5;have c49:=q40.c 0 rfl;have hf:=dL (P:=Tryz.prog) q41 b43 (by omega) underlying32 rfl (by kernel_rfl) (yi 3) (.bool gx) (.bool x.s) (yS xo x.n xc) (yi x.e);have HH:Hid (_∧_∧_):=⟨hf.1,hf.2.2.rd r42 (mu r42 q41),hf.2.1⟩;obtain⟨⟨z0,z1,z2,z3,z4⟩,y0,y1,y2,y3,y4⟩:=dN q41;clear hf q39 q40 q41 r42 b43
 go_wp2
 obtain⟨hl,rRx,bR⟩:=HH.out;exact bodyPost_ret (aj results10 rfl rfl hl) rfl ⟨_,rfl,rRx,bR⟩
theorem acI (n wy:Int)(gx:Bool)(x y:ak)(xo yo:Option Addr)(xc yc:Nat)(w:World)(rx:Rd w .i64 (yS xo x.n xc) (Dg.dg 65536 x.n))
  (HO: ∀pb w1,au w1 pb 32 [yi 3,.bool gx,.bool x.s,yS xo x.n xc,yi x.e,yi 3,.bool gx,.bool y.s,yS yo y.n yc,yi y.e]→yC 34 #[yi n,.slice (some ⟨pb,0,none⟩) 2 2] w1 (yR w1 (.tuple #[yoV 0 false false yN 0,yi 0,.bool false]))):
  yC 10 #[yi n,yoV 3 gx x.s (yS xo x.n xc) x.e,yoV 3 gx y.s (yS yo y.n yc) y.e,yi wy] w (RVF w 3 gx x 0):=by
 replace HO:Hid _:=HO;obtain⟨W5,hW6,q1,q2,q3,b4⟩:=lG w (yoL 3 gx x.s (yS xo x.n xc) x.e) 32 (yoL 3 gx y.s (yS yo y.n yc) y.e) 32 (yoL 0 false false yN 0) 32;replace hW6:Hid _:=hW6;have r7:=rx.l b4;clear rx
 go_enter func10,ntmps10
 go_upto_region 1 with fail
 rw[hW6.out];clear hW6;obtain⟨c8,c9,c10,c11,c12⟩:=q1.cs5;obtain⟨c13,c14,c15,c16,c17⟩:=q2.cs5;have al18:=af W5 (.cells #[yi 3,.bool gx,.bool x.s,yS xo x.n xc,yi x.e,yi 3,.bool gx,.bool y.s,yS yo y.n yc,yi y.e] 32);have q19:=ah W5 [yi 3,.bool gx,.bool x.s,yS xo x.n xc,yi x.e,yi 3,.bool gx,.bool y.s,yS yo y.n yc,yi y.e] 32;have q20:=q1.l al18;have q21:=q2.l al18;have q22:=q3.l al18;have r23:=r7.l al18;have b24:=aa b4 al18
 go_wp2_with fail
 refine(HO.out _ _ q19).mono ?_;rintro zz w25 ⟨rfl,bb26⟩;have q27:=q20.l bb26;have q28:=q21.l bb26;have q29:=q22.l bb26;have r30:=r23.l bb26;have b31:=aa b24 bb26;clear q20 q21 q22 q19 r23 b24 bb26 HO c8 c9 c10 c11 c12 c13 c14 c15 c16 c17 q1 q2 q3 r7 b4 al18;obtain⟨W35,hW34,q33,al32⟩:=cA w25 (yoL 0 false false yN 0) 32;replace hW34:Hid _:=hW34;have hl36:w.heap.size≤w25.heap.size:=b31.size;have hl37:=q28.lt;have hl38:=q29.lt;have q39:=q27.l al32;have q40:=q28.l al32;have q41:=q29.l al32;have r42:=r30.l al32;have b43:=aa b31 al32;clear q27 q28 q29 r30 b31 al32 q33
 go_upto_region 2 with fail
 rw[hW34.out];clear hW34;obtain⟨c44,c45,c46,c47,c48⟩:=q39.cs5;have c49:=q40.c 0 rfl;have c50:=q40.c 1 rfl;have hf:=dL (P:=Tryz.prog) q41 b43 (by omega) underlying32 rfl (by kernel_rfl) (yi 3) (.bool gx) (.bool x.s) (yS xo x.n xc) (yi x.e);have HH:Hid (_∧_∧_):=⟨hf.1,hf.2.2.rd r42 (mu r42 q41),hf.2.1⟩;obtain⟨⟨z0,z1,z2,z3,z4⟩,y0,y1,y2,y3,y4⟩:=dN q41;clear hf q39 q40 q41 r42 b43
 go_wp2
 obtain⟨hl,rRx,bR⟩:=HH.out;exact bodyPost_ret (aj results10 rfl rfl hl) rfl ⟨_,rfl,rRx,bR⟩
theorem adP (cx:Int)(n wy:Int)(gx gy:Bool)(x y:ak)(xo yo:Option Addr)(xc yc:Nat)(w:World)(hx:(cx==3)=false)(ry:Rd w .i64 (yS yo y.n yc) (Dg.dg 65536 y.n))
  (HO: ∀pb w1,au w1 pb 32 [yi cx,.bool gx,.bool x.s,yS xo x.n xc,yi x.e,yi 3,.bool gy,.bool y.s,yS yo y.n yc,yi y.e]→yC 34 #[yi n,.slice (some ⟨pb,0,none⟩) 2 2] w1 (yR w1 (.tuple #[yoV 0 false false yN 0,yi 0,.bool false]))):
  yC 10 #[yi n,yoV cx gx x.s (yS xo x.n xc) x.e,yoV 3 gy y.s (yS yo y.n yc) y.e,yi wy] w (RVF w 3 gy y 0):=by
 replace HO:Hid _:=HO;obtain⟨W5,hW6,q1,q2,q3,b4⟩:=lG w (yoL cx gx x.s (yS xo x.n xc) x.e) 32 (yoL 3 gy y.s (yS yo y.n yc) y.e) 32 (yoL 0 false false yN 0) 32;replace hW6:Hid _:=hW6;have r7:=ry.l b4;clear ry
 go_enter func10,ntmps10
 go_upto_region 1 with fail
 rw[hW6.out];clear hW6;obtain⟨c8,c9,c10,c11,c12⟩:=q1.cs5;obtain⟨c13,c14,c15,c16,c17⟩:=q2.cs5;have al18:=af W5 (.cells #[yi cx,.bool gx,.bool x.s,yS xo x.n xc,yi x.e,yi 3,.bool gy,.bool y.s,yS yo y.n yc,yi y.e] 32);have q19:=ah W5 [yi cx,.bool gx,.bool x.s,yS xo x.n xc,yi x.e,yi 3,.bool gy,.bool y.s,yS yo y.n yc,yi y.e] 32;have q20:=q1.l al18;have q21:=q2.l al18;have q22:=q3.l al18;have r23:=r7.l al18;have b24:=aa b4 al18
 go_wp2_with fail
 refine(HO.out _ _ q19).mono ?_;rintro zz w25 ⟨rfl,bb26⟩;have q27:=q20.l bb26;have q28:=q21.l bb26;have q29:=q22.l bb26;have r30:=r23.l bb26;have b31:=aa b24 bb26;clear q20 q21 q22 q19 r23 b24 bb26 HO c8 c9 c10 c11 c12 c13 c14 c15 c16 c17 q1 q2 q3 r7 b4 al18;obtain⟨W35,hW34,q33,al32⟩:=cA w25 (yoL 0 false false yN 0) 32;replace hW34:Hid _:=hW34;have hl36:w.heap.size≤w25.heap.size:=b31.size;have hl37:=q28.lt;have hl38:=q29.lt;have q39:=q27.l al32;have q40:=q28.l al32;have q41:=q29.l al32;have r42:=r30.l al32;have b43:=aa b31 al32;clear q27 q28 q29 r30 b31 al32 q33
 go_upto_region 2 with fail
 rw[hW34.out];clear hW34;have c44:=q39.c 0 rfl;obtain⟨c45,c46,c47,c48,c49⟩:=q40.cs5;have hf:=dL (P:=Tryz.prog) q41 b43 (by omega) underlying32 rfl (by kernel_rfl) (yi 3) (.bool gy) (.bool y.s) (yS yo y.n yc) (yi y.e);have HH:Hid (_∧_∧_):=⟨hf.1,hf.2.2.rd r42 (mu r42 q41),hf.2.1⟩;obtain⟨⟨z0,z1,z2,z3,z4⟩,y0,y1,y2,y3,y4⟩:=dN q41;clear hf q39 q40 q41 r42 b43
 go_wp2
 obtain⟨hl,rRy,bR⟩:=HH.out;exact bodyPost_ret (aj results10 rfl rfl hl) rfl ⟨_,rfl,rRy,bR⟩
theorem ace (cx cy c fl:Int)(g:Bool)(t:ak)(n wy:Int)(gx gy:Bool)(x y:ak)(xo yo:Option Addr)(xc yc:Nat)(w:World)(hx:(cx==3)=false)(hy:(cy==3)=false)(HO: ∀pb w1,au w1 pb 32 [yi cx,.bool gx,.bool x.s,yS xo x.n xc,yi x.e,yi cy,.bool gy,.bool y.s,yS yo y.n yc,yi y.e]→yC 34 #[yi n,.slice (some ⟨pb,0,none⟩) 2 2] w1 (yR w1 (.tuple #[yoV 0 false false yN 0,yi 0,.bool false])))
  (HS: ∀w1,yB w w1→yC 36 #[yi n,ydV x.s (yS xo x.n xc) x.e,ydV y.s (yS yo y.n yc) y.e,.bool gx,.bool gy,yi wy] w1 (RVF w1 c g t fl)):
  yC 10 #[yi n,yoV cx gx x.s (yS xo x.n xc) x.e,yoV cy gy y.s (yS yo y.n yc) y.e,yi wy] w (RVF w c g t fl):=by
 replace HO:Hid _:=HO;replace HS:Hid _:=HS;obtain⟨W5,hW6,q1,q2,q3,b4⟩:=lG w (yoL cx gx x.s (yS xo x.n xc) x.e) 32 (yoL cy gy y.s (yS yo y.n yc) y.e) 32 (yoL 0 false false yN 0) 32;replace hW6:Hid _:=hW6
 go_enter func10,ntmps10
 go_upto_region 1 with fail
 rw[hW6.out];clear hW6;obtain⟨c7,c8,c9,c10,c11⟩:=q1.cs5;obtain⟨c12,c13,c14,c15,c16⟩:=q2.cs5;have al17:=af W5 (.cells #[yi cx,.bool gx,.bool x.s,yS xo x.n xc,yi x.e,yi cy,.bool gy,.bool y.s,yS yo y.n yc,yi y.e] 32);have q18:=ah W5 [yi cx,.bool gx,.bool x.s,yS xo x.n xc,yi x.e,yi cy,.bool gy,.bool y.s,yS yo y.n yc,yi y.e] 32;have q19:=q1.l al17;have q20:=q2.l al17;have q21:=q3.l al17;have b22:=aa b4 al17
 go_wp2_with fail
 refine(HO.out _ _ q18).mono ?_;rintro zz w23 ⟨rfl,bb24⟩;have q25:=q19.l bb24;have q26:=q20.l bb24;have q27:=q21.l bb24;have b28:=aa b22 bb24;clear q19 q20 q21 q18 b22 bb24 HO c7 c8 c9 c10 c11 c12 c13 c14 c15 c16 q1 q2 q3 b4 al17;obtain⟨W32,hW31,q30,al29⟩:=cA w23 (yoL 0 false false yN 0) 32;replace hW31:Hid _:=hW31;have hl33:w.heap.size≤w23.heap.size:=b28.size;have hl34:=q26.lt;have hl35:=q27.lt;have q36:=q25.l al29;have q37:=q26.l al29;have q38:=q27.l al29;have b39:=aa b28 al29;clear q25 q26 q27 b28 al29 q30
 go_upto_region 2 with fail
 rw[hW31.out];clear hW31;obtain⟨c40,c41,c42,c43,c44⟩:=q36.cs5;obtain⟨c45,c46,c47,c48,c49⟩:=q37.cs5
 go_wp2_with fail
 refine(HS.out _ b39).mono ?_;rintro zz w50 ⟨v152,rfl,r153,bb51⟩;have q54:=q38.l bb51;have b55:=aa b39 bb51;obtain⟨so,sc,hv⟩:=r153.shape;subst hv;clear q36 q37 q38 b39 bb51 HS c40 c41 c42 c43 c44 c45 c46 c47 c48 c49;have hf:=dL (P:=Tryz.prog) q54 b55 (by omega) underlying32 rfl (by kernel_rfl) (yi c) (.bool g) (.bool t.s) (yS so t.n sc) (yi t.e);have HH:Hid (_∧_∧_):=⟨hf.1,hf.2.2.rd r153 (mu r153 q54),hf.2.1⟩;obtain⟨⟨z0,z1,z2,z3,z4⟩,y0,y1,y2,y3,y4⟩:=dN q54;clear hf q54 r153 b55
 go_wp2
 obtain⟨hl,rRs,bR⟩:=HH.out;exact bodyPost_ret (aj results10 rfl rfl hl) rfl ⟨_,rfl,rRs,bR⟩
theorem plc_bare {k:Nat}(hk:1≤k∧k≤8)(way:Int)(t:ak)(h0:t.n≠0):fY k way (bare t)=fY k way t:=by
 obtain⟨-,-,d1,-,-,-,-,-,w64,-,-,-⟩:=eR hk;have hs:(bare t).s=t.s:=by unfold bare;rw[if_neg h0]
 unfold fY;rw[hs];exact round_bare t h0 (by omega) (by rw[Int.toNat_natCast];exact w64) t.s
theorem num_two {k:Nat}{t:ak}{sg:Bool}(h0:t.n≠0)(way:Int):m8 k way (nu t sg).1 (nu t sg).2.1 (nu t sg).2.2.1 (nu t sg).2.2.2=m8 k way 2 t.s t 0:=by
 unfold nu vI xr tF;rw[if_neg h0,if_neg h0,if_neg h0]
theorem num_nil {k:Nat}{t:ak}{sg:Bool}(h0:t.n=0)(way:Int):m8 k way (nu t sg).1 (nu t sg).2.1 (nu t sg).2.2.1 (nu t sg).2.2.2=m8 k way 1 sg ⟨false,0,0⟩ 0:=by
 unfold nu vI xr tF;rw[if_pos h0,if_pos h0,if_pos h0]
def mL (w:World)(b:Nat)(v0 v1 v2 v3 v4 v5:Value):Prop:=
 b<w.heap.size∧(w.cell? ⟨b,0,none⟩=some v0∧w.cell? ⟨b,1,none⟩=some v1∧w.cell? ⟨b,2,none⟩=some v2∧w.cell? ⟨b,3,none⟩=some v3∧w.cell? ⟨b,4,none⟩=some v4∧w.cell? ⟨b,5,none⟩=some v5)∧
  (w.frozen? ⟨b,0,none⟩=false∧w.frozen? ⟨b,1,none⟩=false∧w.frozen? ⟨b,2,none⟩=false∧w.frozen? ⟨b,3,none⟩=false∧w.frozen? ⟨b,4,none⟩=false∧w.frozen? ⟨b,5,none⟩=false)
theorem mL.l {w w':World}{b:Nat}{v0 v1 v2 v3 v4 v5:Value}(h:mL w b v0 v1 v2 v3 v4 v5)(hb:yB w w'):mL w' b v0 v1 v2 v3 v4 v5:=by
 obtain⟨hl,⟨c0,c1,c2,c3,c4,c5⟩,f0,f1,f2,f3,f4,f5⟩:=h;refine⟨Nat.lt_of_lt_of_le hl hb.size,⟨cell_later hb c0,cell_later hb c1,cell_later hb c2,cell_later hb c3,cell_later hb c4,cell_later hb c5⟩, ?_, ?_, ?_, ?_, ?_, ?_⟩
 all_goals rw[hb.frozen (by exact hl)];assumption
def ZB6 (w:World)(b:Nat):Prop:=b<w.heap.size∧ ∃ty,w.heap[b]? =some (.cells #[.bool false,yN,yi 0,.bool false,yN,yi 0] ty (0,0))
theorem ZB6.l {w w':World}{b:Nat}(h:ZB6 w b)(hb:yB w w'):ZB6 w' b:=by
 obtain⟨hl,ty,hh⟩:=h;exact⟨Nat.lt_of_lt_of_le hl hb.size,ty,(hb.block b hl).trans hh⟩
theorem ZB6.rd {w:World}{b:Nat}{v:Value}{zs:List Nat}(h:ZB6 w b)(hr:Rd w .i64 v zs)(hn:Dg.Norm zs)(x0 x1 x2 x3 x4 x5:Value):
  Rd ((((((w.setCell ⟨b,0,none⟩ x0).setCell ⟨b,1,none⟩ x1).setCell ⟨b,2,none⟩ x2).setCell ⟨b,3,none⟩ x3).setCell ⟨b,4,none⟩ x4).setCell ⟨b,5,none⟩ x5) .i64 v zs:=by
 obtain⟨hl,ty,hh⟩:=h;obtain⟨ao,cap,rfl,h1,h2,h3⟩:=hr;refine⟨ao,cap,rfl,h1,h2,fun hp=> ?_⟩
 obtain⟨c,off,rfl,hc⟩:=h3 hp;refine⟨c,off,rfl,fun i hi=> ?_⟩
 have hne:c≠b:=by
  intro e;subst e;have k1:=hc (zs.length-1) (by omega);have hz:=hn (List.length_pos_iff.1 hp);unfold World.cell? at k1;simp only[hh] at k1;obtain⟨o,ho⟩: ∃o,off+(zs.length-1)=o:=⟨_,rfl⟩;rw[ho] at k1;generalize zs.getD (zs.length-1) 0=d at*
  match o,k1 with
  |0,k1=>simp at k1
  |1,k1=>simp at k1
  |2,k1=>simp at k1;omega
  |3,k1=>simp at k1
  |4,k1=>simp at k1
  |5,k1=>simp at k1;omega
  |o+6,k1=>simp at k1
 rw[World.cell?_setCell_other (h:=by simp),World.cell?_setCell_other (h:=by simp),World.cell?_setCell_other (h:=by simp),World.cell?_setCell_other (h:=by simp),World.cell?_setCell_other (h:=by simp),World.cell?_setCell_other (h:=by simp)];exact hc i hi
def bJ (a b:ak):Int:=dJ (aG a (dV b))
def hiI (x:Nat→ak):Nat→Nat
 |0=>0
 |i+1=>if 0<bJ (x (i+1)) (x (hiI x i)) then i+1 else hiI x i
theorem mL.apart3 {w:World}{b c:Nat}{v0 v1 v2 v3 v4 v5:Value}(h:mL w b v0 v1 v2 v3 v4 v5)(hne:c≠b)(x0 x1 x2:Value):
  mL (((w.setCell ⟨c,0,none⟩ x0).setCell ⟨c,1,none⟩ x1).setCell ⟨c,2,none⟩ x2) b v0 v1 v2 v3 v4 v5:=by
 obtain⟨hl,⟨c0,c1,c2,c3,c4,c5⟩,f0,f1,f2,f3,f4,f5⟩:=h;refine⟨by simpa using hl,⟨?_, ?_, ?_, ?_, ?_, ?_⟩,by simpa using f0,by simpa using f1,by simpa using f2,by simpa using f3,by simpa using f4,by simpa using f5⟩
 all_goals (rw[World.cell?_setCell_other (h:=by simp),World.cell?_setCell_other (h:=by simp),World.cell?_setCell_other (h:=by simp)];assumption)
def left (listed:Array Bool):Nat:=(listed.toList.filter (fun b=> !b)).length
def Ag (W:World)(base:Nat)(v:Value):Prop:= ∃p,v= .pointer (some ⟨p,0,none⟩)∧base≤p∧Loc W p (.bool false) yN (yi 0)
theorem Ag.l {W W':World}{base:Nat}{v:Value}(h:Ag W base v)(hb:yB W W'):Ag W' base v:=by
 obtain⟨p,h1,h2,h3⟩:=h;exact⟨p,h1,h2,h3.l hb⟩
def BT (W:World)(base:Nat)(v:Value):Prop:= ∃p,v= .pointer (some ⟨p,0,none⟩)∧base≤p∧mL W p (.bool false) yN (yi 0) (.bool false) yN (yi 0)∧ZB6 W p
def V4 (W:World)(base:Nat)(v:Value):Prop:= ∃p,v= .pointer (some ⟨p,0,none⟩)∧base≤p∧Loc W p (.bool false) yN (yi 0)∧ZB W p
theorem BT.l {W W':World}{base:Nat}{v:Value}(h:BT W base v)(hb:yB W W'):BT W' base v:=by
 obtain⟨p,h1,h2,h3,h4⟩:=h;exact⟨p,h1,h2,h3.l hb,h4.l hb⟩
theorem V4.l {W W':World}{base:Nat}{v:Value}(h:V4 W base v)(hb:yB W W'):V4 W' base v:=by
 obtain⟨p,h1,h2,h3,h4⟩:=h;exact⟨p,h1,h2,h3.l hb,h4.l hb⟩
theorem ZB.off {w w':World}{q b:Nat}(h:ZB w q)(hg:w.grownBy w' (some b))(hne:q≠b):ZB w' q:=by
 obtain⟨hl,ty,hh⟩:=h;exact⟨Nat.lt_of_lt_of_le hl hg.size,ty,(hg.block q hl (by intro e;cases e;exact hne rfl)).trans hh⟩
theorem ZB6.off {w w':World}{q b:Nat}(h:ZB6 w q)(hg:w.grownBy w' (some b))(hne:q≠b):ZB6 w' q:=by
 obtain⟨hl,ty,hh⟩:=h;exact⟨Nat.lt_of_lt_of_le hl hg.size,ty,(hg.block q hl (by intro e;cases e;exact hne rfl)).trans hh⟩
def RB6 (W:World)(v:Value)(x y:ak):Prop:= ∃p q,v= .agg #[.bool x.s,p,yi x.e,.bool y.s,q,yi y.e]∧Rd W .i64 p (Dg.dg 65536 x.n)∧Rd W .i64 q (Dg.dg 65536 y.n)
theorem RB6.l {W W':World}{v:Value}{x y:ak}(h:RB6 W v x y)(hb:yB W W'):RB6 W' v x y:=by
 obtain⟨p,q,h1,h2,h3⟩:=h;exact⟨p,q,h1,h2.l hb,h3.l hb⟩
theorem op_sign {k:Nat}(hk:1≤k∧k≤8){p:ByteArray}(h:dF k p=0)(c:bM k p=2):(opT k p).s=dz k p:=by
 have h0:=(ir hk h).2.2 c;have hc:dh k (aZ k p) (aR k p) (aU k p)=2:=by
  unfold bM at c
  rwa [if_pos h,Int.toNat_natCast] at c
 have e:=(wI (EX hk p (.inr hc))).1;rw[Dg.vl_dg _ _ (by omega)] at e;have e2:opT k p=nxT k p:=by unfold opT;rw[if_pos h,Int.toNat_natCast]
 rw[e2] at h0⊢;rw[e] at h0⊢;unfold dz;rw[if_pos h,Int.toNat_natCast];have hn:ge k (aZ k p) (aR k p) (aU k p)≠0:=fun c=>h0 ((fI _).2 c)
 unfold bare;rw[if_neg hn]
end Go.Proofs.YtbdokgamhinajaaGreatDoor
