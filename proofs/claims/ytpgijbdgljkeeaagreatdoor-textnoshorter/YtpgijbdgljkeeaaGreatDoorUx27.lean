/-
  Texts laid together: Aw0, Gr5, Tx4, Co16, Gn1.
-/
import Derived.Test.YtpgijbdgljkeeaaGreatDoorUx13
import Derived.Test.YtpgijbdgljkeeaaGreatDoorUx19
import Derived.Test.YtpgijbdgljkeeaaGreatDoorUx23
set_option maxRecDepth 100000
set_option maxHeartbeats 6400000
namespace Go.Proofs.YtpgijbdgljkeeaaGreatDoor
open _root_.Go.Proofs.Tryz
open Go.RowKit
theorem iG (w:World)(c0:List Value)(t0:TypeId)(c1:List Value)(t1:TypeId): ∃W,(w.alloc (.cells c0.toArray t0)).alloc (.cells c1.toArray t1)=W∧au W w.heap.size t0 c0∧au W (w.heap.size+1) t1 c1∧yB w W:=by
 obtain⟨W,rfl,h0,b0⟩:=cA w c0 t0;have h1:=ah (w.alloc (.cells c0.toArray t0)) c1 t1;have b1:=af (w.alloc (.cells c0.toArray t0)) (.cells c1.toArray t1);rw[World.size_alloc] at h1;exact⟨_,rfl,h0.l b1,h1,aa b0 b1⟩
theorem Qh (R D L G:Int)(gr qs:Bool)(ao:Option Addr)(ca:Nat)(bo:Option Addr)(cb:Nat)(N M:Nat)(E way:Int)(fn:FuncId)(w:World)(hg:bk R D L G=0)
  (ha:Rd w .u32 (.slice ao (Dg.dg 4294967296 N).length ca) (Dg.dg 4294967296 N)) (hb:Rd w .u32 (.slice bo (Dg.dg 4294967296 M).length cb) (Dg.dg 4294967296 M)) (hla:(Dg.dg 4294967296 N).length≤10000) (hlb:(Dg.dg 4294967296 M).length≤10000) (hM:0<M) (e1: -20000≤E) (e2:E≤20000)
  (HE: ∀args W,Sem.run Tryz.prog (callFunc fn args) W= .ok (.enter fn args) W)
  (HAW: ∀half odd neg w1,Calls Tryz.prog fn #[.agg #[.int .i64 half,.bool odd,.bool neg]] w1 fun z w'=>z= .returned (.bool (gY way half odd neg))∧Below w1.heap.size w1 w'):
  Calls Tryz.prog 131 #[.agg #[.int .i64 R,.int .i64 D,.int .i64 L,.int .i64 G,.bool gr],.agg #[.bool qs,.slice ao (Dg.dg 4294967296 N).length ca,.slice bo (Dg.dg 4294967296 M).length cb,.int .i64 E],.func (.func fn) #[] #[]] w (Fk w (cI R D L G gr qs N M E way)):=by
 obtain⟨hR,d1,d2,l1,l2,g1,g2,lg,l16⟩:=cB hg;obtain⟨t1,t2⟩:=FJ N M E hla hlb e1 e2;obtain⟨c1,c2,c3,c4⟩:=Qg (gr:=gr) hg hla hlb e1 e2;have hM0:0<dX M (shP R D L gr N M E):=by unfold dX;split<;>first|exact Nat.mul_pos hM (Nat.pow_pos (by omega))|exact hM
 have n1: -500000≤shP R D L gr N M E:=by unfold shP;omega
 have n2:shP R D L gr N M E≤500000:=by unfold shP;omega
 have hNl:(Dg.dg 4294967296 (eZ N (shP R D L gr N M E))).length≤25626:=by
  unfold eZ
  split
  ·omega
  ·exact Nat.le_trans (Eg N _ 10000 15626 hla (by omega)) (by omega)
 have hMl:(Dg.dg 4294967296 (dX M (shP R D L gr N M E))).length≤25626:=by
  unfold dX
  split
  ·exact Nat.le_trans (Eg M _ 10000 15626 hlb (by omega)) (by omega)
  ·omega
 have hq:(Dg.dg 4294967296 (cH R D L gr N M E)).length≤25626:=Nat.le_trans (aH _ _ _ (by omega) (Nat.div_le_self _ _)) hNl;have hr:(Dg.dg 4294967296 (gF R D L gr N M E)).length≤25626:=Nat.le_trans (aH _ _ _ (by omega) (Nat.le_of_lt (Nat.mod_lt _ hM0))) hMl;refine Mt R D L G gr qs ao _ ca bo _ cb E fn (dY N M E) (aT R D (dY N M E)) (dj R D L gr N M E) (ai R) (cH R D L gr N M E) (gF R D L gr N M E) (dX M (shP R D L gr N M E)) (dm ((gF R D L gr N M E*2:Nat):Int) ((dX M (shP R D L gr N M E):Nat):Int)) (decide (cH R D L gr N M E % 2=1)) (rf R D L gr qs N M E way) (decide (aT R D (dY N M E)<L)) (decide (gF R D L gr N M E=0)) (decide (aT R D (dY N M E)<L)&&gr) (fM R D L gr qs N M E way) (io R D (fM R D L gr qs N M E way)) (gD R D (fM R D L gr qs N M E way) (dj R D L gr N M E)) (cI R D L G gr qs N M E way) w rfl rfl rfl ?_ ?_ ?_ ?_ ?_ ?_ ?_ ?_ HE ?_ ?_ ?_ ?_ ?_ ?_ ?_ ?_ ?_ ?_
 ·intro h
  exact if_pos h
 ·intro h
  exact if_neg (by rw[h];decide)
 ·exact M4 _ (by omega) (by omega)
 ·exact M4 _ (by omega) (by omega)
 ·intro h1 h2
  exact if_pos ⟨h1,h2⟩
 ·intro h
  refine if_neg ?_;rintro⟨h1,h2⟩
  rcases h with h|h
  ·rw[h1] at h
   cases h
  ·rw[h2] at h
   cases h
 ·intro h
  exact if_pos h
 ·intro h
  exact if_neg h
 ·intro w1 b
  exact WO qs ao ca bo cb N M E w1 (ha.l b) (hb.l b) hla hlb hM (by omega) (by omega)
 ·intro w1
  exact FE R D L G gr _ w1 d1 d2 (by omega) (by omega)
 ·intro w1
  have:=tY R D L G gr w1
  rwa [jf] at this
 ·intro w1 b
  exact Eh qs ao ca bo cb N M E (shP R D L gr N M E) w1 (ha.l b) (hb.l b) (by omega) (by omega) hM n1 n2
 ·intro v w1 h
  have:=eO v _ 1 w1 h (Dg.small_dg _ _ (by omega)) (by omega) (by omega) (by omega);rw[Dg.vl_dg _ _ (by omega)] at this;exact this
 ·intro v u w1 h1 h2
  have:=jF v u _ _ w1 h1 h2 (Dg.small_dg _ _ (by omega)) (Dg.small_dg _ _ (by omega)) (Dg.norm_dg _ _ (by omega)) (Dg.norm_dg _ _ (by omega))
  rwa [Dg.vl_dg _ _ (by omega),Dg.vl_dg _ _ (by omega)] at this
 ·intro v w1 h
  exact aaI v _ w1 h
 ·intro w1
  exact HAW _ _ _ w1
 ·intro v u w1 h1 h2
  have:=rj v u _ _ w1 h1 h2 (Dg.small_dg _ _ (by omega)) (Dg.small_cons.2 ⟨by omega,Dg.small_nil _ (by omega)⟩) (by omega) (by simp)
  rwa [Dg.vl_dg _ _ (by omega),show Dg.vl 4294967296 [1]=1 from rfl] at this
 ·intro v base w1 ho hbs
  exact Br R D L G gr v _ _ base w1 ho hbs d1 d2 (by omega) (by omega)
theorem tratio_up (ng:Bool)(ds:ByteArray)(p tw mt ex:Int)(N F M Ksh:Nat)(w:World)(h0:0< (Dg.dg 4294967296 N).length)(hmt:IntKind.i64.wrap (-tw)=mt)(hex:IntKind.i64.wrap (p+tw)=ex)(hp:0<p)
  (HD: ∀w1,yC 70 #[.string ds] w1 (NmR w1 N))
  (HF: ∀w1,yC 72 #[yi p] w1 (NmR w1 F))
  (HT: ∀xo xc fo fc w1,Rd w1 .u32 (yT xo N xc) (Dg.dg 4294967296 N)→Rd w1 .u32 (yT fo F fc) (Dg.dg 4294967296 F)→yC 71 #[yT xo N xc,yT fo F fc] w1 (NmR w1 M))
  (HW: ∀mo mc w1,yB w w1→Rd w1 .u32 (yT mo M mc) (Dg.dg 4294967296 M)→yC 74 #[yT mo M mc] w1 (yR w1 (yi tw)))
  (HS: ∀mo mc w1,Rd w1 .u32 (yT mo M mc) (Dg.dg 4294967296 M)→yC 75 #[yT mo M mc,yi mt] w1 (NmR w1 Ksh)):
  yC 31 #[.agg #[.bool ng,.string ds,yi p]] w (RtR w ng Ksh 1 ex):=by
 replace HD:Hid _:=HD;replace HF:Hid _:=HF;replace HT:Hid _:=HT;replace HW:Hid _:=HW;replace HS:Hid _:=HS;obtain⟨W4,hW5,q1,q2,b3⟩:=iG w [.bool ng,.string ds,yi p] 74 (yrL false yN yN 0) 25;replace hW5:Hid _:=hW5
 go_enter func31,ntmps31
 go_upto_region 1 with fail
 rw[hW5.out];clear hW5;have c6:=q1.c 1 rfl
 go_wp2_with fail
 refine(HD.out _).mono ?_;rintro zz w7 ⟨v1x9,rfl,r1x10,bb8⟩;have q11:=q1.l bb8;have q12:=q2.l bb8;have b13:=aa b3 bb8;obtain⟨xo,xc,hv⟩:=r1x10.shape;subst hv;clear q1 q2 b3 bb8 HD c6;have hl16:=q11.lt;have hl17:=q12.lt;have al14:=af w7 (.cells #[.int .u32 1] 138);have q15:=ah w7 [.int .u32 1] 138;have q18:=q11.l al14;have q19:=q12.l al14;have r20:=r1x10.l al14;have b21:=aa b13 al14;have c22:=q18.c 2 rfl
 go_wp2_with fail
 refine(HF.out _).mono ?_;rintro zz w23 ⟨v1x25,rfl,r1x26,bb24⟩;have q27:=q18.l bb24;have q28:=q19.l bb24;have q29:=q15.l bb24;have r30:=r20.l bb24;have b31:=aa b21 bb24;obtain⟨fo,fc,hv⟩:=r1x26.shape;subst hv;clear q18 q19 q15 r20 b21 bb24 HF c22 q11 q12 r1x10 b13 al14
 go_wp2_with fail
 refine(HT.out _ _ _ _ _ r30 r1x26).mono ?_;rintro zz w32 ⟨v1x34,rfl,r1x35,bb33⟩;have q36:=q27.l bb33;have q37:=q28.l bb33;have q38:=q29.l bb33;have r39:=r30.l bb33;have r40:=r1x26.l bb33;have b41:=aa b31 bb33;obtain⟨mo,mc,hv⟩:=r1x35.shape;subst hv;clear q27 q28 q29 r30 r1x26 b31 bb33 HT
 go_wp2_with fail
 refine(HW.out _ _ _ b41 r1x35).mono ?_;rintro zz w42 ⟨rfl,bb43⟩;have q44:=q36.l bb43;have q45:=q37.l bb43;have q46:=q38.l bb43;have r47:=r39.l bb43;have r48:=r40.l bb43;have r49:=r1x35.l bb43;have b50:=aa b41 bb43;clear q36 q37 q38 r39 r40 r1x35 b41 bb43 HW
 go_upto_region 8 with fail
 have bW51:yB w42 w42.drew:=(Below.refl _ _).drew;have q52:=q44.l bW51;have q53:=q45.l bW51;have q54:=q46.l bW51;have r55:=r47.l bW51;have r56:=r48.l bW51;have r57:=r49.l bW51;have b58:=aa b50 bW51;clear q44 q45 q46 r47 r48 r49 b50 bW51;refine wp_region_held_drew (S:=fun wq=>au wq w.heap.size 74 [.bool ng,.string ds,yi p]) (by kernel_rfl) q52 (fun hS0=> ?_)
 generalize w42.drew=WD59 at q52 q53 q54 r55 r56 r57 b58 hS0⊢;refine tq 0 (.pointer (some ⟨w.heap.size,0,none⟩)) rfl (fun _ _=>by kernel_rfl) hS0 ?_
 refine tq 1 (.bool ng) rfl (fun _ hw0=>gU 4 (.tmp 35) rfl w.heap.size 0 (by kernel_rfl) _ _ underlying4 rfl (hw0.c 0 rfl)) hS0 ?_
 refine tq 2 (yT mo M mc) rfl (fun _ _=>by kernel_rfl) hS0 ?_
 refine tq 3 (yi tw) rfl (fun _ _=>by kernel_rfl) hS0 ?_
 refine tq 4 (yi mt) rfl (fun _ _=>by go_simp) hS0 ?_
 refine tq 6 (.slice (some ⟨w7.heap.size,0,none⟩) 1 1) rfl (fun _ _=>by kernel_rfl) hS0 ?_
 refine tq 7 (.pointer (some ⟨w.heap.size,2,none⟩)) rfl (fun _ _=>by kernel_rfl) hS0 ?_
 refine tq 8 (yi p) rfl (fun _ hw0=>gU 3 (.tmp 42) rfl w.heap.size 2 (by kernel_rfl) _ _ underlying3 rfl (hw0.c 2 rfl)) hS0 ?_
 refine tq 9 (yi tw) rfl (fun _ _=>by kernel_rfl) hS0 ?_
 refine tq 10 (yi ex) rfl (fun _ _=>by go_simp) hS0 ?_
 refine wpAnyH_ready (rs:=[5]) (by kernel_rfl) (by simp) ?_;refine AllReadyH.cons rfl (fun K hK=> ?_) AllReadyH.nil
 go_simp
 refine(HS.out _ _ _ r57).mono ?_;rintro zz w60 ⟨v1x62,rfl,r1x63,bb61⟩;have q64:=q52.l bb61;have q65:=q53.l bb61;have q66:=q54.l bb61;have r67:=r55.l bb61;have r68:=r56.l bb61;have r69:=r57.l bb61;have b70:=aa b58 bb61;obtain⟨ko,kc,hv⟩:=r1x63.shape;subst hv;clear q52 q53 q54 r55 r56 r57 b58 bb61 HS;refine hK.out _ _ q64 (fun hS71=> ?_)
 clear hK K;refine tq 11 (yrV ng (yT ko Ksh kc) (.slice (some ⟨w7.heap.size,0,none⟩) 1 1) ex) rfl (fun _ _=>by kernel_rfl) hS71 ?_
 refine wpAnyH_ready (rs:=[12]) (by kernel_rfl) (by simp) ?_;refine AllReadyH.cons rfl (fun K hK=> ?_) AllReadyH.nil
 have bu:But (w.heap.size+1) w60 (w60.setCells (w.heap.size+1) 0 (yrL ng (yT ko Ksh kc) (.slice (some ⟨w7.heap.size,0,none⟩) 1 1) ex)):=de _ _ _ _;have hth:w60.there (w.heap.size+1) 0 4:=dD q65;have q72:au (w60.setCells (w.heap.size+1) 0 (yrL ng (yT ko Ksh kc) (.slice (some ⟨w7.heap.size,0,none⟩) 1 1) ex)) (w.heap.size+1) 25 (yrL ng (yT ko Ksh kc) (.slice (some ⟨w7.heap.size,0,none⟩) 1 1) ex):=q65.sets _ rfl;have r73:=bu.rd r67 (aX r67 q65 (by simp));have r74:=bu.rd r68 (aX r68 q65 (by simp));have r75:=bu.rd r69 (aX r69 q65 (by simp));have r76:=bu.rd r1x63 (aX r1x63 q65 (by simp));have q77:=bu.loc q64 (by omega);have q78:=bu.loc q66 (by omega);have b79:=bu.below b70 (by omega);rw[if_pos (by kernel_rfl)];refine wp_store_mid 25 (.tmp 2) (.tmp 46) rfl (w.heap.size+1) 0 (yrA ng (yT ko Ksh kc) (.slice (some ⟨w7.heap.size,0,none⟩) 1 1) ex) (by kernel_rfl) (by kernel_rfl) hth (by kernel_rfl) (by simp[Value.oneCell']) ?_;refine hK.out _ _ q77 (fun hS80=> ?_)
 clear hK K;clear q65 r67 r68 r69 r1x63 q64 q66 b70 bu hth;refine wpAnyH_done (by kernel_rfl) ?_ _;clear hS0 hS71 hS80;change Exit.then _ _ _ _ (World.setCells w60 (w.heap.size+1) 0 (yrL ng (yT ko Ksh kc) (.slice (some ⟨w7.heap.size,0,none⟩) 1 1) ex));generalize World.setCells w60 (w.heap.size+1) 0 (yrL ng (yT ko Ksh kc) (.slice (some ⟨w7.heap.size,0,none⟩) 1 1) ex)=W81 at q77 q72 q78 r73 r74 r75 r76 b79⊢;simp only[Act.put,List.getElem_toArray,List.getElem_cons_succ,List.getElem_cons_zero];have hl:=run_loadVar_mid (P:=Tryz.prog) _ (w.heap.size+1) 0 25 (yrL ng (yT ko Ksh kc) (.slice (some ⟨w7.heap.size,0,none⟩) 1 1) ex) _ q72.range underlying25 rfl (by kernel_rfl)
 go_wp2
 exact bodyPost_ret (br results31 rfl hl) rfl ⟨_,_,rfl,r76,rd_one1 (q78.c 0 rfl),b79⟩
theorem We (R sz ex:Nat)(D L G fam:Int)(gr:Bool)(F:Nat)(ng:Bool)(e f d:Nat)(p:Int)(w:World)(hR:2≤R)(hR2:R≤16)(hd0:0<d)(hd:d<18446744073709551616)(hp1: -100000≤p)(hp2:p≤100000)
  (HC:yJ 117 #[ylV R D L G gr sz ex fam F,yfV ng e f] (yi 2))
  (HP:yJ 119 #[ylV R D L G gr sz ex fam F,yfV ng e f] (.tuple #[.int .u64 d,yi p])):
  yC 64 #[ylV R D L G gr sz ex fam F,yfV ng e f] w (iT w 2 ng (lJ R 64 d p).1 (lJ R 64 d p).2):=by
 have hsf:=cD;have bl:=af w (.cells (ylA R D L G gr sz ex fam F) 124);have bf:=af (w.alloc (.cells (ylA R D L G gr sz ex fam F) 124)) (.cells (yfA ng e f) 127);have bz:=af ((w.alloc (.cells (ylA R D L G gr sz ex fam F) 124)).alloc (.cells (yfA ng e f) 127)) (.cells (yvA 0 false yN 0) 66);have l0:=((ah w (ylL R D L G gr sz ex fam F) 124).l bf).l bz;have m0:=(ah (w.alloc (.cells (ylA R D L G gr sz ex fam F) 124)) (yfL ng e f) 127).l bz;have v0:=ah ((w.alloc (.cells (ylA R D L G gr sz ex fam F) 124)).alloc (.cells (yfA ng e f) 127)) (yvL 0 false yN 0) 66;have b0:=aa (aa bl bf) bz;rw[World.size_alloc] at m0;rw[World.size_alloc,World.size_alloc] at v0;clear bl bf bz;have HC':Hid _:=HC;have HP':Hid _:=HP;obtain⟨m,hm⟩: ∃m,(lJ R 64 d p).1=m:=⟨_,rfl⟩;obtain⟨pw,hpw⟩: ∃m,(lJ R 64 d p).2=m:=⟨_,rfl⟩;have HS:Hid (lJ R 64 d p=(m,pw)):=Prod.ext hm hpw;rw[hm,hpw];clear hm hpw HC HP
 go_enter func64,ntmps64
 go_wp2_with fail
 refine(HC'.out _).mono ?_;rintro z w1 ⟨rfl,b1⟩;have bq:=af w1 (.cells (yvA 2 false yN 0) 66);have l1:=(l0.l b1).l bq;have m1:=(m0.l b1).l bq;have v1:=(v0.l b1).l bq;have q1:=ah w1 (yvL 2 false yN 0) 66;have b01:=aa (aa b0 b1) bq;have hq3:w.heap.size+3≤w1.heap.size:=(v0.l b1).lt;obtain⟨x0,x1,x2,x3,x4,x5,x6,x7,x8⟩:=l1.cs9;obtain⟨y0,y1,y2⟩:=m1.cs3;clear l0 m0 v0 b0 b1 bq
 go_wp2_with fail
 refine(HP'.out _).mono ?_;rintro z w2 ⟨rfl,b2⟩;have l2:=l1.l b2;have m2:=m1.l b2;have v2:=v1.l b2;have q2:=q1.l b2;have b02:=aa b01 b2;clear l1 m1 v1 q1 b01 b2 x0 x1 x2 x3 x4 x5 x6 x7 x8 y0 y1 y2;generalize w1.heap.size=q at*;have x0:=l2.c 0 rfl;have hwR:IntKind.u64.wrap R=(R:Int):=IntWalk.u64_in _ ⟨by omega,by omega⟩;have hRn:((R:Int) != 0)=true:=by rw[bne_iff_ne];omega
 go_wp2
 go_loop [6,7] (fun dv pv=> ∃(n y:Nat) (r:Int),Hid (lJ R n y r=(m,pw)∧y<2^n)∧n≤64∧0<y∧y<18446744073709551616∧r+n≤p+64∧p≤r∧dv= .int .u64 y∧pv=yi r) (fun dv _=>(intOf dv).toNat)
 case atStart=>exact⟨64,d,p,⟨HS.out,hd⟩,by omega,hd0,hd,by omega,by omega,rfl,rfl⟩
 case round=>
  obtain⟨n,y,r,HY,hn,hy0,hy,hr1,hr2,rfl,rfl⟩:=hrel;obtain⟨t,ht⟩: ∃t,y % R=t:=⟨_,rfl⟩;obtain⟨u,hu⟩: ∃u,y/R=u:=⟨_,rfl⟩;have htI:(y:Int) % (R:Int)=(t:Int):=by rw[←ht];exact(Int.natCast_emod y R).symm
  have huI:(y:Int)/(R:Int)=(u:Int):=by rw[←hu];exact(Int.natCast_ediv y R).symm
  by_cases ht0:t=0
  ·subst ht0
   have hul:u<y:=by rw[←hu];exact Nat.div_lt_self hy0 hR
   have hu0:0<u:=by
    rw[←hu];exact Nat.div_pos (Nat.le_of_dvd hy0 (Nat.dvd_of_mod_eq_zero ht)) (by omega)
   have HH:Hid (_∧_):=⟨ht,hu⟩;clear ht hu
   go_wp2
   obtain⟨ht,hu⟩:=HH.out;obtain⟨hs1,hs2⟩:=HY.out;obtain⟨n',rfl⟩: ∃n',n=n'+1:=by
    cases n with
    |zero=>simp at hs2;omega
    |succ n'=>exact⟨n',rfl⟩
   rw[lJ,if_pos ht,hu] at hs1;refine⟨⟨n',u,r+1,⟨hs1, ?_⟩,by omega,hu0,by omega,by omega,by omega,rfl,rfl⟩, ?_⟩
   ·rw[Nat.pow_succ] at hs2
    have h2:y/R≤y/2:=Nat.div_le_div_left hR (by omega);omega
   ·simp only[intOf]
    omega
  ·have ht1:((t:Int)==0)=false:=by simp;omega
   have HH:Hid (_∧_):=⟨ht,hu⟩;obtain⟨hs1,hs2⟩:=HY.out;obtain⟨n',rfl⟩: ∃n',n=n'+1:=by
    cases n with
    |zero=>simp at hs2;omega
    |succ n'=>exact⟨n',rfl⟩
   rw[lJ,if_neg (by omega),Prod.mk.injEq] at hs1;obtain⟨rfl,rfl⟩:=hs1;clear ht hu huI hs2 HY HH HS;obtain⟨y0,y1,y2⟩:=m2.cs3;obtain⟨u0,u1,u2,u3⟩:=q2.cs4;have k1:=q2.f 1;have k2:=q2.f 2;have k3:=q2.f 3;have q2d:=q2.drew;have q2a:=q2d.set 1 (.bool ng);have q2b:=q2d.set 3 (yi r);have q2ab:=q2a.set 3 (yi r);have q2ba:=q2b.set 1 (.bool ng);have hne:q≠w.heap.size+1:=by omega
   have hnv:q≠w.heap.size+1+1:=by omega
   have m2d:=m2.drew;have m2a:=m2d.off hne 1 (.bool ng);have m2b:=m2d.off hne 3 (yi r);have m2ab:=m2a.off hne 3 (yi r);have m2ba:=m2b.off hne 1 (.bool ng);have v2d:=v2.drew;have v2a:=v2d.off hnv 1 (.bool ng);have v2b:=v2d.off hnv 3 (yi r);have v2ab:=v2a.off hnv 3 (yi r);have v2ba:=v2b.off hnv 1 (.bool ng);have hbq:w.heap.size≤q:=by omega
   have b2d:=b02.drew;have b2a:=(ag _ q 1 (.bool ng)).below b2d hbq;have b2b:=(ag _ q 3 (yi r)).below b2d hbq;have b2ab:=(ag _ q 3 (yi r)).below b2a hbq;have b2ba:=(ag _ q 1 (.bool ng)).below b2b hbq;have HFW:Hid (∀w1,yC 120 #[.int .u64 y] w1 fun z w'=> ∃v,z= .returned v∧Own w' w1.heap.size 138 .u32 v (Dg.dg 4294967296 y)∧yB w1 w'):=fun w1=>KH y hy w1
   go_wp2_with fail
   go_region_held3 (fun wq=>wq.cell? ⟨w.heap.size+1,0,none⟩=some (.bool ng)∧wq.cell? ⟨w.heap.size+1,1,none⟩=some (yi e)∧wq.cell? ⟨w.heap.size+1,2,none⟩=some (.int .u64 f)) (go_keep) (first
    | (go_at_call 120;refine(HFW.out _).mono ?_;rintro z w3 ⟨v,rfl,own3,b3⟩;obtain⟨so,sc,hvs⟩:=own3.rd.shape;subst hvs;(first| (have q3:=q2d.l b3;have m3:=m2d.l b3;have v3:=v2d.l b3;have b03:=aa b2d b3)| (have q3:=q2a.l b3;have m3:=m2a.l b3;have v3:=v2a.l b3;have b03:=aa b2a b3)| (have q3:=q2b.l b3;have m3:=m2b.l b3;have v3:=v2b.l b3;have b03:=aa b2b b3)| (have q3:=q2ab.l b3;have m3:=m2ab.l b3;have v3:=v2ab.l b3;have b03:=aa b2ab b3)| (have q3:=q2ba.l b3;have m3:=m2ba.l b3;have v3:=v2ba.l b3;have b03:=aa b2ba b3));obtain⟨t0,t1,t2⟩:=m3.cs3;obtain⟨s0,s1,s2,s3⟩:=q3.cs4;have j1:=q3.f 1;have j2:=q3.f 2;have j3:=q3.f 3))
   have bu4:=((ag w3 q 1 (.bool ng)).trans (ag _ q 2 (yT so y sc))).trans (ag _ q 3 (yi r));have q4:au (((w3.setCell ⟨q,1,none⟩ (.bool ng)).setCell ⟨q,2,none⟩ (yT so y sc)).setCell ⟨q,3,none⟩ (yi r)) q 66 (yvL 2 ng (yT so y sc) r):=((q3.set 1 (.bool ng)).set 2 (yT so y sc)).set 3 (yi r);have v4:=((v3.off hnv 1 (.bool ng)).off hnv 2 (yT so y sc)).off hnv 3 (yi r);have b04:=bu4.below b03 hbq;have own4:=(bu4.own own3 q3 (by decide)).rd;have ov4:=cq own4 (Dg.norm_dg _ _ (by omega)) v4 (fun x hx n hn=>by simp at hx;rcases hx with rfl|rfl|rfl|rfl<;>simp)
   generalize(((w3.setCell ⟨q,1,none⟩ (.bool ng)).setCell ⟨q,2,none⟩ (yT so y sc)).setCell ⟨q,3,none⟩ (yi r))=w4 at*;clear b3 q3 m3 v3 own3 bu4 t0 t1 t2 s0 s1 s2 s3 j1 j2 j3 u0 u1 u2 u3 k1 k2 k3 y0 y1 y2 x0 q2d q2a q2b q2ab q2ba m2d m2a m2b m2ab m2ba v2d v2a v2b v2ab v2ba b2d b2a b2b b2ab b2ba q2 m2 v2 l2 b02 b03;obtain⟨s0,s1,s2,s3⟩:=q4.cs4;obtain⟨t0,t1,t2,t3⟩:=v4.cs4;have j0:=v4.f 0;have j1:=v4.f 1;have j2:=v4.f 2;have j3:=v4.f 3;have bu5:=(((ag w4 (w.heap.size+1+1) 0 (yi 2)).trans (ag _ (w.heap.size+1+1) 1 (.bool ng))).trans (ag _ (w.heap.size+1+1) 2 (yT so y sc))).trans (ag _ (w.heap.size+1+1) 3 (yi r));have cR:au ((((w4.setCell ⟨w.heap.size+1+1,0,none⟩ (yi 2)).setCell ⟨w.heap.size+1+1,1,none⟩ (.bool ng)).setCell ⟨w.heap.size+1+1,2,none⟩ (yT so y sc)).setCell ⟨w.heap.size+1+1,3,none⟩ (yi r)) (w.heap.size+1+1) 66 (yvL 2 ng (yT so y sc) r):=(((v4.set 0 (yi 2)).set 1 (.bool ng)).set 2 (yT so y sc)).set 3 (yi r);have bR:=bu5.below b04 (by omega);have rR:=bu5.rd own4 ov4;have hl:=run_loadVar_mid (P:=Tryz.prog) _ (w.heap.size+1+1) 0 66 (yvL 2 ng (yT so y sc) r) _ cR.range underlying66 rfl (by kernel_rfl);have HH:Hid (_∧_∧_):=⟨hl,rR,bR⟩;clear hl rR bR cR bu5 own4 ov4 b04 q4 v4
   go_wp2
   obtain⟨hl,rR,bR⟩:=HH.out;exact bodyPost_ret (br results64 rfl hl) rfl ⟨_,rfl,rR,bR⟩
theorem Zq (R D L G:Int)(gr ng:Bool)(ao:Option Addr)(la ca:Nat)(p wd:Int)(w:World)(WP:IntKind.i64.wrap (wd*p)=wd*p)
  (HW:yJ 170 #[ygV R D L G gr] (yi wd)):
  yC 175 #[ygV R D L G gr,.bool ng,.agg #[.slice ao la ca,yi p]] w (yR w (ydV ng (.slice ao la ca) (wd*p))):=by
 replace HW:Hid _:=HW;have HN:Hid (∀w1,yC 207 (ydA ng (.slice ao la ca) (wd*p)) w1 (yR w1 (ydV ng (.slice ao la ca) (wd*p)))):=fun w1=>l9 ng ao la ca (wd*p) w1
 have b1:=aa (aa (af w (.cells (ygA R D L G gr) 202)) (af _ (.cells #[.slice ao la ca,yi p] 238))) (af _ (.cells (ydA false yN 0) 242));have g1:=((ah w (ygL R D L G gr) 202).l (af _ (.cells #[.slice ao la ca,yi p] 238))).l (af _ (.cells (ydA false yN 0) 242));have s1:=(ah (w.alloc (.cells (ygA R D L G gr) 202)) [.slice ao la ca,yi p] 238).l (af _ (.cells (ydA false yN 0) 242));have c1:=ah ((w.alloc (.cells (ygA R D L G gr) 202)).alloc (.cells #[.slice ao la ca,yi p] 238)) (ydL false yN 0) 242;simp only[World.size_alloc] at s1 c1;have g_2:=g1.l ((Below.refl _ _).drew);have s_2:=s1.l ((Below.refl _ _).drew);have c_2:=c1.l ((Below.refl _ _).drew);have b0_2:=aa b1 ((Below.refl _ _).drew);clear g1 s1 c1 b1;obtain⟨x0,x1,x2,x3,x4⟩:=g_2.cs5;obtain⟨y0,y1⟩:=s_2.cs2;have nA:w.heap.size+1+1≠w.heap.size:=by omega
 have nB:w.heap.size+1+1≠w.heap.size+1:=by omega
 go_enter func175,ntmps175
 go_wp2_with fail
 go_region_held3 (fun wq=>wq.cell? ⟨w.heap.size,0,none⟩=some (yi R)∧wq.cell? ⟨w.heap.size,1,none⟩=some (yi D)∧wq.cell? ⟨w.heap.size,2,none⟩=some (yi L)∧wq.cell? ⟨w.heap.size,3,none⟩=some (yi G)∧wq.cell? ⟨w.heap.size,4,none⟩=some (.bool gr)∧wq.cell? ⟨w.heap.size+1,0,none⟩=some (.slice ao la ca)∧wq.cell? ⟨w.heap.size+1,1,none⟩=some (yi p)) (go_keep) (first
  | (go_at_call 170;have hgd:=b0_2;clear hgd;refine(HW.out _).mono ?_;rintro z wa ⟨rfl,bb_wa⟩;have b0_wa:=aa b0_2 bb_wa;have g_wa:=g_2.l bb_wa;have s_wa:=s_2.l bb_wa;have c_wa:=c_2.l bb_wa;obtain⟨xa0,xa1,xa2,xa3,xa4⟩:=g_wa.cs5;obtain⟨ya0,ya1⟩:=s_wa.cs2;clear b0_2)
  | (go_at_call 207;have hgd:=b0_wa;clear hgd;refine(HN.out _).mono ?_;rintro z wb ⟨rfl,bb_wb⟩;have b0_wb:=aa b0_wa bb_wb;have g_wb:=g_wa.l bb_wb;have s_wb:=s_wa.l bb_wb;have c_wb:=c_wa.l bb_wb;obtain⟨xb0,xb1,xb2,xb3,xb4⟩:=g_wb.cs5;obtain⟨yb0,yb1⟩:=s_wb.cs2;have z0:=c_wb.c 0 rfl;have e0:=c_wb.f 0;have z1:=c_wb.c 1 rfl;have e1:=c_wb.f 1;have z2:=c_wb.c 2 rfl;have e2:=c_wb.f 2;clear b0_wa))
 all_goals go_wp2
 have bu:But (w.heap.size+1+1) wb (((wb.setCell ⟨w.heap.size+1+1,0,none⟩ (.bool ng)).setCell ⟨w.heap.size+1+1,1,none⟩ (.slice ao la ca)).setCell ⟨w.heap.size+1+1,2,none⟩ (yi (wd*p))):=((ag wb (w.heap.size+1+1) 0 (.bool ng)).trans (ag _ (w.heap.size+1+1) 1 (.slice ao la ca))).trans (ag _ (w.heap.size+1+1) 2 (yi (wd*p)));have cX:au (((wb.setCell ⟨w.heap.size+1+1,0,none⟩ (.bool ng)).setCell ⟨w.heap.size+1+1,1,none⟩ (.slice ao la ca)).setCell ⟨w.heap.size+1+1,2,none⟩ (yi (wd*p))) (w.heap.size+1+1) 242 (ydL ng (.slice ao la ca) (wd*p)):=((c_wb.set 0 (.bool ng)).set 1 (.slice ao la ca)).set 2 (yi (wd*p));have bX:=bu.below b0_wb (show w.heap.size≤w.heap.size+1+1 by omega)
 obtain⟨s0,s1,s2⟩:=cX.cs3;refine bodyPost_ret (v:=(ydV ng (.slice ao la ca) (wd*p))) (by simp[results,results175,go_sem,s0,s1,s2]) rfl ?_;exact⟨rfl,bX⟩
end Go.Proofs.YtpgijbdgljkeeaaGreatDoor
