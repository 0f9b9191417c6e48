/-
  Texts laid together: Div1, DivBy, Ref4, Bits, Dy1, Dy2, Lk, Dy3, Aw0, Co6, Long1, Co5, Cr1, Cr4, Ref7, IntoM, Co20, Co25, Rk1, Gq4, Gq7, BlN, BlM, Cv9.
-/
import Derived.Test.YtddkchlamdhgcaaGreatDoorSu02
import Derived.Test.YtddkchlamdhgcaaGreatDoorSu03
import Derived.Test.YtddkchlamdhgcaaGreatDoorSu04
import Derived.Test.YtddkchlamdhgcaaGreatDoorSu05
set_option maxRecDepth 100000
set_option maxHeartbeats 3200000
namespace Go.Proofs.YtddkchlamdhgcaaGreatDoor
open _root_.Go.Proofs.Tryz
open Go.RowKit
theorem Nw {P:Program}{w:World}{base e:Nat}{k:IntKind}{g n m cap:Nat}{ao:Option Addr}{ds zs:List Nat}(dT sT ty:Nat)(hu:P.underlying dT=some (.slice e))(hsz:(P.info? e).map (·.size)=some 1)
  (ho:Own w base e k (.slice (some ⟨g,0,none⟩) n n) ds) (hr:Rd w k (.slice ao m cap) zs) (hle:zs.length≤ds.length):
  ∃w1,(Builtin.copy_ #[dT,sT] ty #[.slice (some ⟨g,0,none⟩) n n,.slice ao m cap]).run P w= .ok (yi m) w1∧Own w1 base e k (.slice (some ⟨g,0,none⟩) n n) (zs++ds.drop zs.length)∧w.grownBy w1 (some g):=by
 have hn:=ho.len;have hm:=wn hr;subst hn hm;have hh:=ho.heap;have hbl:=ho.block;have hml:ds.length≤maxLen:=by
  rcases ho.2 with⟨hv,_⟩| ⟨g',cap',cur,hv,hb,hh,hnc,hcm,hcs,htake⟩
  ·simp at hv
  ·omega
 by_cases h0:zs.length=0
 ·obtain rfl:zs=[]:=List.eq_nil_of_length_eq_zero h0
  refine⟨w,run_copy_none (P:=P) w dT sT ty e _ _ _ _ _ _ hu hsz (by simp),by simpa using ho,⟨rfl,rfl,rfl,Nat.le_refl _,fun _ _ _=>rfl⟩⟩
 ·obtain⟨-,-,hc⟩:=iQ hr
  obtain⟨b,off,rfl,hcell⟩:=hc (by omega);have hrun:=run_copy_row (P:=P) w dT sT ty e g 0 ds.length ds.length ⟨b,off,none⟩ zs.length cap _ e (zs.map (fun n:Nat=>Value.int k n)) hu hsz hh (by rw[List.length_map];exact(Nat.min_eq_left hle).symm)
   (by
    intro j u hj;have hjl:j<zs.length:=by have:=(List.getElem?_eq_some_iff.1 hj).1;simpa using this
    rw[j9 k zs j hjl] at hj;rw[rO,hcell j hjl];exact hj)
   (by simpa using hle) (by intro u hu;simp at hu;obtain⟨a,_,rfl⟩:=hu;rfl)
  refine⟨w.setRow g (zs.map (fun n:Nat=>Value.int k n)++(ds.map (fun n:Nat=>Value.int k n)).drop zs.length).toArray,by rw[hrun];simp[goInt], ?_,⟨rfl,rfl,rfl,by simp[World.setRow],fun j _ hj=>setRow_other w g j _ (fun e=>hj (by rw[e]))⟩⟩
  have hlen:(zs++ds.drop zs.length).length=ds.length:=by simp;omega
  have:=pr (w:=w.setRow g (zs.map (fun n:Nat=>Value.int k n)++(ds.map (fun n:Nat=>Value.int k n)).drop zs.length).toArray) (base:=base) (e:=e) (k:=k) (g:=g) (zs:=zs++ds.drop zs.length)
   (by rw[Nv w g _ _ e hh];simp[List.map_drop]) hbl.1 (by omega)
  rw[hlen] at this
  simpa using this
theorem Tx {zs cur:List Nat}{d k r t:Nat}(h:acQ zs cur d (k+1) r)(hk:k<zs.length)(ht:t=r*4294967296+zs.getD k 0)(hd:0<d)(hq:t/d<4294967296):
  acQ zs (cur.set k (t/d)) d k (t % d):=by
 obtain⟨h1,h2,h3,h4,h5⟩:=h;refine⟨by simpa using h1,Dg.small_set h2 _ _ hq,Nat.mod_lt _ hd,fun j hj=> ?_, ?_⟩
 ·rw[Dg.getD_set _ _ _ _ (by omega),if_neg (by omega)];exact h4 j (by omega)
 ·rw[AU zs k hk,AU (cur.set k (t/d)) k (by simpa using(by omega:k<cur.length)),Dg.getD_set _ _ _ _ (by omega),if_pos rfl,List.drop_set_of_lt (by omega)]
  simp only[Dg.vl];rw[h5];have:=Nat.div_add_mod t d;rw[Nat.add_mul,Nat.mul_comm (t/d) d,Nat.mul_assoc,Nat.mul_add];have e:r*4294967296=4294967296*r:=Nat.mul_comm _ _;omega
theorem I1 {xs ys ps:List Nat}{k c d c':Nat}(h:QA xs ys ps k c)(hd:d<65536)(hc:c'≤1)(e:xs.getD k 0+65536*c'=d+ys.getD k 0+c):QA xs ys (ps++[d]) (k+1) c':=by
 obtain⟨h1,h2,h3,h4⟩:=h;refine⟨by simp[h1],qP h2 hd,hc, ?_⟩;rw[Dg.vl_append,iV,iV,h1];simp only[Dg.vl,Nat.mul_zero,Nat.add_zero];have e2:65536^k*(xs.getD k 0+65536*c')=65536^k*(d+ys.getD k 0+c):=by rw[e]
 have e3:65536^ (k+1)*c'=65536^k*(65536*c'):=by rw[Nat.pow_succ,Nat.mul_assoc]
 rw[Nat.mul_add,Nat.mul_add,Nat.mul_add] at e2;rw[e3];omega
theorem kF (va:Value)(xs:List Nat)(w:World)(ha:Rd w .i64 va xs)(sa:Dg.Small 65536 xs)(na:Dg.Norm xs)(hla:xs.length≤3000000):
  yC 35 #[va] w fun e w'=>e= .returned (yi (bitLen (Dg.vl 65536 xs):Nat))∧w'=w:=by
 obtain⟨ao,ca,rfl,-,-,hca⟩:=ha
 by_cases h0:xs.length=0
 ·obtain rfl:xs=[]:=List.eq_nil_of_length_eq_zero h0
  go_enter func35,ntmps35
  go_wp2
  go_ret
  exact⟨rfl,rfl⟩
 ·have hne:xs≠[]:=by intro e;subst e;simp at h0
  obtain⟨b,off,rfl,hcell⟩:=hca (by omega);have hc:=hcell (xs.length-1) (by omega);have hs:=sa (xs.length-1);rw[IL 65536 16 (by decide) (by omega) xs sa na hne];obtain⟨x,ex⟩: ∃x,xs.getD (xs.length-1) 0=x:=⟨_,rfl⟩;rw[ex] at hc hs⊢;have hbl:=bF x 16 (by omega);have h00:((xs.length:Int)==0)=false:=by simp;intro e;subst e;simp at h0
  clear ex hcell hca hne;obtain⟨T,hT⟩: ∃T,16*(xs.length-1)+bitLen x=T:=⟨_,rfl⟩;rw[hT];have HT:Hid _:=hT;clear hT
  go_enter func35,ntmps35
  go_wp2
  go_loop [3,4] (fun nv dv=> ∃m d:Nat,nv=yi m∧dv=yi d∧d<65536∧m≤100000000∧Hid (m+bitLen d=T)) (fun _ dv=>(intOf dv).toNat)
  case atStart=>exact⟨16*(xs.length-1),x,by go_num,rfl,hs,by omega,HT⟩
  case round=>
   obtain⟨m,d,rfl,rfl,hd,hm,hmd⟩:=hrel
   by_cases hd0:d=0
   ·subst hd0
    have he:m=T:=by have:=hmd.out;rw[gP] at this;omega
    subst he
    go_wp2
    go_ret
    exact⟨rfl,rfl⟩
   ·have hb2:=vC d hd0
    have hmT:m+1+bitLen (d/2)=T:=by have:=hmd.out;omega
    have hT2:T≤60000000:=by have:=HT.out;omega
    have HM:Hid _:=hmT;have hm2:m<60000000:=by omega
    clear hb2 hmT
    go_wp2
    go_round
    case rel=>exact⟨m+1,d/2,by go_num,by go_num,by omega,by omega,HM⟩
    case measure=>simp[intOf];omega
theorem Zw (x:Nat)(w:World)(hx:x<4294967296)(hx0:x≠0)(hT:Tab w):
  yC 158 #[.int .u32 x] w fun e w'=> ∃k m:Nat,e= .returned (yi k)∧x=2^k*(2*m+1)∧k<32∧w'=w:=by
 obtain⟨hlow,hk⟩:=Lib.lowest_bit 32 x hx0 hx;obtain⟨hi,htab⟩:=Lib.deBruijn32_at _ hk;obtain⟨m,hm,_⟩:=Lib.ctzFrom_spec 32 x (by omega) hx;have e0:Lib.ctz 32 x=Lib.ctzFrom 32 x:=by simp[Lib.ctz,hx0]
 have hcell:=hT _ hi;rw[htab] at hcell;refine(Vp x _ _ w (by simp;omega) (tz32_key x _ hx hx0 hlow) hi hk hcell).mono ?_;rintro e w' ⟨rfl,rfl⟩;exact⟨_,m,rfl,by rw[e0];exact hm,hk,rfl⟩
theorem Own.apart3 {w:World}{base e b:Nat}{k:IntKind}{v:Value}{zs:List Nat}(h:Own w base e k v zs)(hb:b<base)(x0 x1 x2:Value):
  Own (((w.setCell ⟨b,0,none⟩ x0).setCell ⟨b,1,none⟩ x1).setCell ⟨b,2,none⟩ x2) base e k v zs:=
 ((h.apart (bI w b 0 x0) hb).apart (bI _ b 1 x1) hb).apart (bI _ b 2 x2) hb
theorem gn (a:Addr)(W:World):(store a Value.nilFunc).run Tryz.prog W=stored Tryz.prog W a Value.nilFunc .plain:=run_store _ W a _ _ rfl
theorem Loc.apart {w:World}{b c:Nat}{v0 v1 v2:Value}(h:Loc w b v0 v1 v2)(hne:c≠b)(x0 x1 x2:Value):
  Loc (((w.setCell ⟨c,0,none⟩ x0).setCell ⟨c,1,none⟩ x1).setCell ⟨c,2,none⟩ x2) b v0 v1 v2:=by
 obtain⟨hl,⟨c0,c1,c2⟩,f0,f1,f2⟩:=h;refine⟨by simpa using hl,⟨?_, ?_, ?_⟩,by simpa using f0,by simpa using f1,by simpa using f2⟩
 ·rw[World.cell?_setCell_other (h:=by simp),World.cell?_setCell_other (h:=by simp),World.cell?_setCell_other (h:=by simp)];exact c0
 ·rw[World.cell?_setCell_other (h:=by simp),World.cell?_setCell_other (h:=by simp),World.cell?_setCell_other (h:=by simp)];exact c1
 ·rw[World.cell?_setCell_other (h:=by simp),World.cell?_setCell_other (h:=by simp),World.cell?_setCell_other (h:=by simp)];exact c2
theorem afz {P:Program}{w0 w:World}{n b:Nat}{ty:TypeId}{z0 z1 z2 z3:Value}{d:TypeDesc}(h:au w b ty [z0,z1,z2,z3])(hb:Below n w0 w)(hn:n≤b)(hu:P.underlying ty=some d)(hd:d.isRow=true)(hi:(P.info? ty).map (·.size)=some 4)(v0 v1 v2 v3:Value):
  (loadVar ty ⟨b,0,none⟩).run P ((((w.setCell ⟨b,0,none⟩ v0).setCell ⟨b,1,none⟩ v1).setCell ⟨b,2,none⟩ v2).setCell ⟨b,3,none⟩ v3)= .ok (.agg #[v0,v1,v2,v3]) ((((w.setCell ⟨b,0,none⟩ v0).setCell ⟨b,1,none⟩ v1).setCell ⟨b,2,none⟩ v2).setCell ⟨b,3,none⟩ v3)∧Below n w0 ((((w.setCell ⟨b,0,none⟩ v0).setCell ⟨b,1,none⟩ v1).setCell ⟨b,2,none⟩ v2).setCell ⟨b,3,none⟩ v3)∧But b w ((((w.setCell ⟨b,0,none⟩ v0).setCell ⟨b,1,none⟩ v1).setCell ⟨b,2,none⟩ v2).setCell ⟨b,3,none⟩ v3):=by
 have cR:au ((((w.setCell ⟨b,0,none⟩ v0).setCell ⟨b,1,none⟩ v1).setCell ⟨b,2,none⟩ v2).setCell ⟨b,3,none⟩ v3) b ty [v0,v1,v2,v3]:=((((h.set 0 v0).set 1 v1).set 2 v2).set 3 v3);have bu:=(((ag w b 0 v0).trans (ag _ b 1 v1)).trans (ag _ b 2 v2)).trans (ag _ b 3 v3);exact⟨run_loadVar_mid (P:=P) _ b 0 ty [v0,v1,v2,v3] _ cR.range hu hd hi,bu.below hb hn,bu⟩
theorem afA {w:World}{b:Nat}{ty:TypeId}{z0 z1 z2:Value}(h:au w b ty [z0,z1,z2]):(w.cell? ⟨b,0,none⟩=some z0∧w.cell? ⟨b,1,none⟩=some z1∧w.cell? ⟨b,2,none⟩=some z2)∧w.frozen? ⟨b,0,none⟩=false∧w.frozen? ⟨b,1,none⟩=false∧w.frozen? ⟨b,2,none⟩=false:=
 ⟨⟨h.c 0 rfl,h.c 1 rfl,h.c 2 rfl⟩,h.f 0,h.f 1,h.f 2⟩
theorem afB {w:World}{b:Nat}{ty:TypeId}{z0 z1 z2 z3:Value}(h:au w b ty [z0,z1,z2,z3]):(w.cell? ⟨b,0,none⟩=some z0∧w.cell? ⟨b,1,none⟩=some z1∧w.cell? ⟨b,2,none⟩=some z2∧w.cell? ⟨b,3,none⟩=some z3)∧w.frozen? ⟨b,0,none⟩=false∧w.frozen? ⟨b,1,none⟩=false∧w.frozen? ⟨b,2,none⟩=false∧w.frozen? ⟨b,3,none⟩=false:=
 ⟨⟨h.c 0 rfl,h.c 1 rfl,h.c 2 rfl,h.c 3 rfl⟩,h.f 0,h.f 1,h.f 2,h.f 3⟩
theorem ik.store {w:World}{g:Nat}{zs:List Nat}(h:ik w g zs)(j x:Nat):ik (w.setCell ⟨g,j,none⟩ (.int .u8 x)) g (zs.set j x):=by
 refine⟨fun i hi=> ?_,fun i hi=> ?_,by simpa[World.setCell] using h.lt⟩
 ·rw[List.length_set] at hi
  by_cases e:j=i
  ·subst e
   rw[World.cell?_setCell_same (h:=h.c j hi)];simp[List.getD_eq_getElem?_getD,hi]
  ·rw[World.cell?_setCell_other (h:=by intro k;cases k;exact e rfl),h.c i hi]
   simp[List.getD_eq_getElem?_getD,e]
 ·rw[List.length_set] at hi
  rw[O7];exact h.f i hi
theorem Pi {A D M N i nn:Nat}{R os bs:List Nat}(h:Jm A D M R os N (i+1))(sb:Dg.Small 4294967296 bs)(hbs:Dg.vl 4294967296 bs=D)(hn:2≤nn)(hD1:2147483648*4294967296^ (nn-1)≤D)(hD2:D<4294967296^nn):
  2147483648≤bs.getD (nn-1) 0∧R.getD (i+nn) 0≤bs.getD (nn-1) 0∧
  ∀g,g<4294967296→(∀k,k*(bs.getD (nn-1) 0*4294967296+bs.getD (nn-2) 0)≤(R.getD (i+nn) 0*4294967296+R.getD (i+(nn-1)) 0)*4294967296+R.getD (i+(nn-2)) 0→k<4294967296→k≤g)→
   g*(bs.getD (nn-1) 0*4294967296+bs.getD (nn-2) 0)≤(R.getD (i+nn) 0*4294967296+R.getD (i+(nn-1)) 0)*4294967296+R.getD (i+(nn-2)) 0→
   Dg.vl 4294967296 R/4294967296^i/D<4294967296∧(g=Dg.vl 4294967296 R/4294967296^i/D∨g=Dg.vl 4294967296 R/4294967296^i/D+1):=by
 obtain⟨-,-,sR,-,-,-,hX⟩:=h;obtain⟨m,rfl⟩: ∃m,nn=m+2:=⟨nn-2,by omega⟩;have hB:(0:Nat)<4294967296:=by omega
 rw[show m+2-1=m+1 from rfl] at*
 rw[show m+2-2=m from rfl]
 have d1:bs.getD (m+1) 0=D/4294967296^ (m+1) % 4294967296:=by rw[CG 4294967296 bs (m+1) hB sb,hbs]
 have d0:bs.getD m 0=D/4294967296^m % 4294967296:=by rw[CG 4294967296 bs m hB sb,hbs]
 have p2:=CG 4294967296 R (i+(m+2)) hB sR;have p1:=CG 4294967296 R (i+(m+1)) hB sR;have p0:=CG 4294967296 R (i+m) hB sR;have hXl:Dg.vl 4294967296 R<4294967296^ (i+m+3):=by
  have e1:D*4294967296^ (i+1)≤4294967296^ (m+2)*4294967296^ (i+1):=Nat.mul_le_mul_right _ (Nat.le_of_lt hD2);rw[←Nat.pow_add,show m+2+(i+1)=i+m+3 from by omega] at e1
  exact Nat.lt_of_lt_of_le hX e1
 have tp:=adr (n:=m+2) hB (by omega) hX;rw[show m+2-1=m+1 from rfl] at tp
 have hDt:D/4294967296^ (m+1)<4294967296:=by
  rw[Nat.div_lt_iff_lt_mul (Nat.pow_pos hB),Nat.mul_comm,←Nat.pow_succ];exact hD2
 have t3:=aeU 4294967296 (Dg.vl 4294967296 R) (i+m) hB hXl;have t2:=two 4294967296 D m hB hD2;rw[d1,d0,p2,p1,p0];rw[show i+(m+2)=i+m+2 from by omega] at tp⊢
 rw[show i+(m+1)=i+m+1 from by omega]
 refine⟨?_, ?_, ?_⟩
 ·rw[Nat.mod_eq_of_lt hDt,Nat.le_div_iff_mul_le (Nat.pow_pos hB)]
  exact hD1
 ·rw[Nat.mod_eq_of_lt hDt]
  exact Nat.le_trans (Nat.mod_le _ _) tp
 ·rw[t3,t2]
  intro g hg hlow hup;refine NC hB hX ?_ hg hlow hup;have e1:1*4294967296^ (m+1)≤2147483648*4294967296^ (m+1):=Nat.mul_le_mul_right _ (by omega);rw[Nat.one_mul] at e1;exact Nat.le_trans e1 hD1
theorem oT (n:Int)(w:World)(h:dK n=0):yC 18 #[yi n] w (yR w (.tuple #[yhV 0 0 0 0 0 0 0 false 0,.bool false])):=by
 have hn:n<1∨8<n:=by
  unfold dK at h
  by_cases c:n<1∨8<n
  ·exact c
  ·rw[if_neg c] at h
   split at h
   ·omega
   ·split at h<;>omega
 clear h;have e1:(n==1)=false:=by simp;omega
 have e2:(n==2)=false:=by simp;omega
 have e3:(n==3)=false:=by simp;omega
 have e4:(n==4)=false:=by simp;omega
 have e5:(n==5)=false:=by simp;omega
 have e6:(n==6)=false:=by simp;omega
 have e7:(n==7)=false:=by simp;omega
 have e8:(n==8)=false:=by simp;omega
 have l0:=ah w (yhL 0 0 0 0 0 0 0 false 0) 51;have b0:=af w (.cells (yhA 0 0 0 0 0 0 0 false 0) 51);have hl:=run_loadVar_mid (P:=Tryz.prog) _ w.heap.size 0 51 (yhL 0 0 0 0 0 0 0 false 0) _ l0.range underlying51 rfl (by kernel_rfl);have HH:Hid (_∧_):=⟨hl,b0⟩;clear hl b0 l0
 go_enter func18,ntmps18
 go_wp2
 obtain⟨hl,bR⟩:=HH.out;exact bodyPost_ret (aj results18 rfl rfl hl) rfl ⟨rfl,bR⟩
theorem T3 (n:Int)(s:ByteArray)(w:World)(h:dK n=0):yC 19 #[yi n,.string s] w (yR w (yi 6)):=by
 have HF:Hid (yJ 18 #[yi n] (.tuple #[yhV 0 0 0 0 0 0 0 false 0,.bool false])):=fun w1=>oT n w1 h
 clear h
 go_enter func19,ntmps19
 go_wp2_with fail
 refine(HF.out _).mono ?_;rintro z w1 ⟨rfl,b1⟩
 go_wp2
 go_ret
 exact⟨rfl,aa b1 (af _ _)⟩
theorem acZ (n:Int)(sz ex fr:Nat)(R D L G fam:Int)(gr:Bool)(s:ByteArray)(w:World)
  (HF:yJ 18 #[yi n] (.tuple #[yhV sz ex fr R D L G gr fam,.bool true])):
  yC 19 #[yi n,.string s] w (yR w (yi (if s.size=sz then 0 else 1))):=by
 have HF':Hid _:=HF;clear HF
 by_cases hs:s.size=sz
 ·rw[if_pos hs]
  go_enter func19,ntmps19
  go_wp2_with fail
  refine(HF'.out _).mono ?_;rintro z w1 ⟨rfl,b1⟩
  go_wp2
  go_ret
  exact⟨rfl,aa b1 (af _ _)⟩
 ·rw[if_neg hs]
  have hb:((s.size:Int)==(sz:Int))=false:=by simp;omega
  clear hs
  go_enter func19,ntmps19
  go_wp2_with fail
  refine(HF'.out _).mono ?_;rintro z w1 ⟨rfl,b1⟩
  go_wp2
  go_ret
  exact⟨rfl,aa b1 (af _ _)⟩
theorem eG (R D L G:Int)(gr:Bool)(w:World):
  yC 22 #[ygV R D L G gr] w (yR w (yi (wdI R))):=by
 have bA:=af w (.cells (ygA R D L G gr) 40);unfold wdI
 by_cases h:R=16
 ·rw[if_pos h]
  subst h
  go_enter func22,ntmps22
  go_wp2
  go_ret
  exact⟨rfl,bA⟩
 ·rw[if_neg h]
  have e:(R==16)=false:=by simp;exact h
  go_enter func22,ntmps22
  go_wp2
  go_ret
  exact⟨rfl,bA⟩
theorem Qp {xs cur:List Nat}{d k r t:Nat}(h:X9 xs cur d (k+1) r)(hk:k<xs.length)(ht:t=65536*r+xs.getD k 0)(hd:0<d)(hq:t/d<65536):
  X9 xs (cur.set k (t/d)) d k (t % d):=by
 obtain⟨h1,h2,h3,h5⟩:=h;refine⟨by simpa using h1,Dg.small_set h2 _ _ hq,Nat.mod_lt _ hd, ?_⟩;rw[AU xs k hk,AU (cur.set k (t/d)) k (by simpa using(by omega:k<cur.length)),Dg.getD_set _ _ _ _ (by omega),if_pos rfl,List.drop_set_of_lt (by omega)];simp only[Dg.vl];rw[h5];have:=Nat.div_add_mod t d;rw[Nat.add_mul,Nat.mul_comm (t/d) d,Nat.mul_assoc,Nat.mul_add];omega
theorem iy (B:Nat)(l:List Nat)(k:Nat):Dg.vl B (l.drop k)=l.getD k 0+B*Dg.vl B (l.drop (k+1)):=by
 rw[abW B (l.drop k),Vm,List.drop_drop]
theorem Zs (B:Nat)(l:List Nat)(k:Nat)(h:l.length≤k+3):Dg.vl B (l.drop k)=l.getD k 0+B*(l.getD (k+1) 0+B*l.getD (k+2) 0):=by
 rw[iy,iy,iy,List.drop_of_length_le (by omega)];simp[Dg.vl]
theorem Zt (B:Nat)(l:List Nat)(k:Nat)(h:l.length≤k+2):Dg.vl B (l.drop k)=l.getD k 0+B*l.getD (k+1) 0:=by
 rw[iy,iy,List.drop_of_length_le (by omega)];simp[Dg.vl]
theorem Zu (rs bs:List Nat)(n R b top under:Nat)(hn:2≤n)(hbl:bs.length=n)(sr:Dg.Small 65536 rs)(nb:Dg.Norm bs)
  (hR:Dg.vl 65536 rs=R) (hb:Dg.vl 65536 bs=b) (hrl:rs.length≤n+1) (hlt:R<65536*b)
  (ht:top=65536*(65536*rs.getD n 0+rs.getD (n-1) 0)+rs.getD (n-2) 0) (hu:under=bs.getD (n-1) 0*65536+bs.getD (n-2) 0):
  R/b≤65535∧R/b≤top/(under+1)+1:=by
 obtain⟨k,rfl⟩: ∃k,n=k+2:=⟨n-2,by omega⟩;have e1:k+2-1=k+1:=by omega
 have e2:k+2-2=k:=by omega
 rw[e1,e2] at ht hu;have r1:=BH 65536 rs k;rw[Zs 65536 rs k (by omega),hR] at r1;have b1:=BH 65536 bs k;rw[Zt 65536 bs k (by omega),hb] at b1;have et:rs.getD k 0+65536*(rs.getD (k+1) 0+65536*rs.getD (k+2) 0)=top:=by omega
 have eu:bs.getD k 0+65536*bs.getD (k+1) 0=under:=by omega
 rw[et] at r1;rw[eu] at b1;have rl:Dg.vl 65536 (rs.take k)<65536^k:=Nat.lt_of_lt_of_le (Dg.vl_lt 65536 _ (Dg.small_take sr k (by omega))) (Nat.pow_le_pow_right (by omega) (List.length_take_le _ _));have hu1:65536≤under:=by
  have h0:=nb (by intro e;rw[e] at hbl;simp at hbl);rw[hbl,e1] at h0;omega
 obtain⟨P,hP⟩: ∃P,65536^k=P:=⟨_,rfl⟩;rw[hP] at r1 b1 rl;have hb0:0<b:=by
  rcases Nat.eq_zero_or_pos b with h|h
  ·rw[h] at hlt;omega
  ·exact h
 obtain⟨Q,hQ⟩: ∃Q,R/b=Q:=⟨_,rfl⟩;have q1:Q≤65535:=by
  rw[←hQ];have:R/b<65536:=by rw[Nat.div_lt_iff_lt_mul hb0];exact hlt
  omega
 have q2:Q*b≤R:=by rw[←hQ];exact Nat.div_mul_le_self R b
 rw[hQ];refine⟨q1, ?_⟩;have q3:Q*(P*under)≤Q*b:=Nat.mul_le_mul_left _ (by omega);have q4:P*(Q*under)<P*(top+1):=by
  have:P*(Q*under)=Q*(P*under):=by rw[←Nat.mul_assoc,Nat.mul_comm P Q,Nat.mul_assoc]
  rw[this,Nat.mul_add];omega
 have q5:Q*under<top+1:=Nat.lt_of_mul_lt_mul_left q4
 rcases Nat.eq_zero_or_pos Q with h|h
 ·rw[h];exact Nat.zero_le _
 ·obtain⟨q,rfl⟩: ∃q,Q=q+1:=⟨Q-1,by omega⟩
  have q6:q*(under+1)≤top:=by
   rw[Nat.add_mul] at q5;rw[Nat.mul_add];omega
  have:=(Nat.le_div_iff_mul_le (by omega)).2 q6;omega
theorem Vn {xs cur:List Nat}{b k R N:Nat}(h:BI xs cur b (k+1) R)(hk:k<xs.length)(hN:N=xs.getD k 0+65536*R)(hb:0<b)(hx:xs.getD k 0<65536):
  N<65536*b∧BI xs (cur.set k (N/b)) b k (N % b):=by
 obtain⟨h1,h2,h3,h4,h5⟩:=h;have hlt:N<65536*b:=by
  have:65536*(R+1)≤65536*b:=Nat.mul_le_mul_left _ h4;omega
 have hq:N/b<65536:=by rw[Nat.div_lt_iff_lt_mul hb];exact hlt
 refine⟨hlt,by simpa using h1,Dg.small_set h2 _ _ hq,fun j hj=> ?_,Nat.mod_lt _ hb, ?_⟩
 ·rw[Dg.getD_set _ _ _ _ (by omega),if_neg (by omega)]
  exact h3 j (by omega)
 ·rw[iy 65536 xs k,iy 65536 (cur.set k (N/b)) k,Dg.getD_set _ _ _ _ (by omega),if_pos rfl,List.drop_set_of_lt (by omega),h5]
  have:=Nat.div_add_mod N b;rw[Nat.add_mul,Nat.mul_comm (N/b) b,Nat.mul_assoc,Nat.mul_add];omega
theorem QV {xs cur:List Nat}{b k R N:Nat}(h:BI xs cur b (k+1) R)(_hk:k<xs.length)(hN:N=xs.getD k 0+65536*R)(hlt:N<b):BI xs cur b k N:=by
 obtain⟨h1,h2,h3,h4,h5⟩:=h;refine⟨h1,h2,fun j hj=>h3 j (by omega),hlt, ?_⟩
 rw[iy 65536 xs k,iy 65536 cur k,h3 k (by omega),h5,Nat.zero_add,Nat.mul_add,Nat.mul_assoc];omega
theorem MQ (R D L G fam:Int)(gr:Bool)(sz ex:Nat)(F:Nat)(c:Int)(q3 q1 qf:Bool)(w:World)(h3:(c==3)=q3)(h1:(c==1)=q1)(hf:(fam != 3)=qf):yC 85 #[ylV R D L G gr sz ex fam F,yi c] w (yR w (.bool (q3||q1&&qf))):=by
 have hsf:=cD;have b0:=af w (.cells (ylA R D L G gr sz ex fam F) 116)
 cases q3<;>cases q1<;>cases qf
 all_goals go_enter func85,ntmps85
 all_goals go_wp2
 all_goals go_ret
 all_goals exact⟨rfl,b0⟩
theorem Vk (n:Int)(er:Int)(her:er≠0)(s:ByteArray)(w:World)
  (HR:yJ 55 #[yi n,.string s] (.tuple #[yzV 0 0 0 0 false 0 0 0,yfV false 0 0,yi er])):
  yC 54 #[yi n,.string s] w (yR w (.tuple #[yi 0,.bool false,yi er])):=by
 have hsn:=gn;have HR':Hid _:=HR;have he:(er==0)=false:=by simpa using her
 clear HR her
 go_enter func54,ntmps54
 go_wp2_with fail
 refine(HR'.out _).mono ?_;rintro z w1 ⟨rfl,b1⟩;have bl:=af w1 (.cells (yzA 0 0 0 0 false 0 0 0) 116);have bf:=af (w1.alloc (.cells (yzA 0 0 0 0 false 0 0 0) 116)) (.cells (yfA false 0 0) 119);have b0:=aa (aa b1 bl) bf
 go_wp2
 go_ret3
 exact⟨rfl,b0⟩
theorem ut.trans {J K:Int}{N1 M1 N2 M2 N3 M3:Nat}{E1 E2 E3:Int}(h:ut J N1 M1 E1 N2 M2 E2)(g:ut K N2 M2 E2 N3 M3 E3):ut (max J K) N1 M1 E1 N3 M3 E3:=fun j hj=>by
 obtain⟨a1,a2⟩:=h j (by omega);obtain⟨b1,b2⟩:=g j (by omega);exact⟨a1.trans b1,a2.trans b2⟩
theorem ZQ (n wh pt:Nat)(w:World)(hn:n=16*wh+pt)(hpt:pt<16)(hnl:n≤1000000):
  yC 13 #[yi n] w fun e w'=> ∃v,e= .returned v∧Own w' w.heap.size 3 .i64 v (Dg.dg 65536 (2^n))∧yB w w':=by
 have hd:=C6 wh pt hpt;rw[←hn] at hd;obtain⟨i0,hi,hz0,hz1,hz2⟩:=info_parts Tryz.infoI64;have hq:(n:Int)/16=(wh:Int):=by omega
 have hr:(n:Int) % 16=(pt:Int):=by omega
 have hwl:wh≤1000000:=by omega
 have HD:Hid ((List.replicate (wh+1) 0).set wh (2^pt)=Dg.dg 65536 (2^n)):=hd;clear hd hn
 go_enter func13,ntmps13
 go_wp2_with (at_make;refine wpList_make_full _ rfl _ _ 28 rfl w.heap.size 3 i0 (yi 0) 1 underlying28 hi hz0 hz1 _ _ _ _ (wh+1) rfl rfl (by omega) (by omega) ?b2 ?b3 (Nat.le_refl _) ?_)
 case b2=>rw[hz2];omega
 case b3=>unfold maxLen;omega
 intro w0 hown0 hgrow0;have own0:=gL hown0;have bel0:yB w w0:=(Below.refl _ _).grown hgrow0 (Nat.le_refl _) (fun k h=>by cases h)
 clear hown0 hgrow0
 go_wp2
 go_loop [4,5] (fun dv iv=> ∃k d:Nat,k≤pt∧iv=yi k∧dv=yi d∧Hid (d=2^k)) (fun _ iv=>pt-(intOf iv).toNat)
 case atStart=>exact⟨0,1,Nat.zero_le _,rfl,rfl,rfl⟩
 case round=>
  obtain⟨k,d,hk,rfl,rfl,hdk⟩:=hrel;have hdl:d≤65536:=by
   rw[hdk.out];have:2^k≤2^15:=Nat.pow_le_pow_right (by omega) (by omega);omega
  by_cases hlt:k<pt
  ·go_wp2
   go_round
   case rel=>exact⟨k+1,2*d,by omega,by go_num,by go_num,by rw[show d=2^k from hdk.out,Nat.pow_succ];exact Nat.mul_comm _ _⟩
   case measure=>simp[intOf];omega
  ·have hke:k=pt:=by omega
   subst hke;have hc:=own0.c wh (by simp);have hf:=own0.f wh;have own2:=own0.store wh d;have bel2:=bel0.setCell (p:=⟨w.heap.size,wh,none⟩) (by exact Nat.le_refl _) (yi (d:Int));have hdd:=hdk.out;rw[show(List.replicate (wh+1) 0).set wh d=Dg.dg 65536 (2^n) from by rw[hdd];exact HD.out] at own2
   have HO:Hid _:=own2;have rd2:=own2.rd;clear hdd own2
   go_wp2
   go_ret
   exact⟨_,rfl,HO.out,bel2⟩
theorem pQ (v:Value)(n:Nat)(w:World)(h:Rd w .i64 v (Dg.dg 65536 n))(hl:(Dg.dg 65536 n).length≤3000000):yC 35 #[v] w (yR w (yi (bitLen n:Nat))):=by
 have:=kF v _ w h (Dg.small_dg _ _ (by omega)) (Dg.norm_dg _ _ (by omega)) hl;rw[Dg.vl_dg _ _ (by omega)] at this;refine this.mono ?_;rintro z w' ⟨rfl,rfl⟩;exact⟨rfl,Below.refl _ _⟩
def Ag (W:World)(base:Nat)(v:Value):Prop:= ∃p,v= .pointer (some ⟨p,0,none⟩)∧base≤p∧Loc W p (.bool false) yN (yi 0)
def V4 (W:World)(base:Nat)(v:Value):Prop:= ∃p,v= .pointer (some ⟨p,0,none⟩)∧base≤p∧Loc W p (.bool false) yN (yi 0)∧ZB W p
theorem ZB.off {w w':World}{q b:Nat}(h:ZB w q)(hg:w.grownBy w' (some b))(hne:q≠b):ZB w' q:=by
 obtain⟨hl,ty,hh⟩:=h;exact⟨Nat.lt_of_lt_of_le hl hg.size,ty,(hg.block q hl (by intro e;cases e;exact hne rfl)).trans hh⟩
theorem toInts_err (e:Int)(n wy:Int)(s:ByteArray)(w:World)(he:(e==0)=false)
  (HA:yH w 7 #[yi n,.string s,yi wy] (.tuple #[yi 0,yi 0,yi e]))
  (HO: ∀pb w1,au w1 pb 9 [.string s]→yC 8 #[yi n,yi wy,.slice (some ⟨pb,0,none⟩) 1 1] w1 (yR w1 (.tuple #[yN,yi e])))
  (HB:yH w 16 #[] (.bool true)):
  yC 3 #[yi n,.string s,yi wy] w (yR w (.bool true)):=by
 replace HA:Hid _:=HA;replace HO:Hid _:=HO;replace HB:Hid _:=HB
 go_enter func3,ntmps3
 have b0:=Below.refl w.heap.size w
 go_wp2_with fail
 refine(HA.out _ b0).mono ?_;rintro zz w1 ⟨rfl,bb2⟩;have b3:=aa b0 bb2;clear b0 bb2 HA;have al4:=af w1 (.cells #[.string s] 9);have q5:=ah w1 [.string s] 9;have b6:=aa b3 al4
 go_wp2_with fail
 refine(HO.out _ _ q5).mono ?_;rintro zz w7 ⟨rfl,bb8⟩;have b9:=aa b6 bb8;clear q5 b6 bb8 HO b3 al4
 go_wp2_with fail
 refine(HB.out _ b9).mono ?_;rintro zz w10 ⟨rfl,bb11⟩;have b12:=aa b9 bb11;clear b9 bb11 HB
 go_wp2
 go_ret
 exact⟨by simp,b12⟩
theorem toInts_nil (gx:Bool)(x:ak)(n wy:Int)(s:ByteArray)(w:World)
  (HA:yH w 7 #[yi n,.string s,yi wy] (.tuple #[yi 0,yi 0,yi 0]))
  (HO: ∀pb w1,au w1 pb 9 [.string s]→yC 8 #[yi n,yi wy,.slice (some ⟨pb,0,none⟩) 1 1] w1 fun zz w'=> ∃gb cap xo xc,zz= .returned (.tuple #[.slice (some ⟨gb,0,none⟩) 1 cap,yi 0])∧w'.rangeAt gb 0 (yoL 1 gx x.s (yS xo x.n xc) x.e)∧Rd w' .i64 (yS xo x.n xc) (Dg.dg 65536 x.n)∧yB w1 w')
  (HB:yH w 16 #[] (.bool true)):
  yC 3 #[yi n,.string s,yi wy] w (yR w (.bool true)):=by
 replace HA:Hid _:=HA;replace HO:Hid _:=HO;replace HB:Hid _:=HB
 go_enter func3,ntmps3
 have b0:=Below.refl w.heap.size w
 go_wp2_with fail
 refine(HA.out _ b0).mono ?_;rintro zz w1 ⟨rfl,bb2⟩;have b3:=aa b0 bb2;clear b0 bb2 HA;have al4:=af w1 (.cells #[.string s] 9);have q5:=ah w1 [.string s] 9;have b6:=aa b3 al4
 go_wp2_with fail
 refine(HO.out _ _ q5).mono ?_;rintro zz w7 ⟨gb,cap,xo,xc,rfl,h0,rxx9,bb8⟩;have b10:=aa b6 bb8;clear q5 b6 bb8 HO b3 al4;have c11:=h0 0 _ rfl
 go_wp2_with fail
 refine(HB.out _ b10).mono ?_;rintro zz w12 ⟨rfl,bb13⟩;have b14:=aa b10 bb13;clear h0 rxx9 b10 bb13 HB c11
 go_wp2
 go_ret
 exact⟨by simp,b14⟩
theorem toInts_oth (cx:Int)(gx:Bool)(x:ak)(n wy:Int)(s:ByteArray)(w:World)(h1:(cx==1)=false)(h2:(cx==2)=false)
  (HA:yH w 7 #[yi n,.string s,yi wy] (.tuple #[yi 0,yi 16,yi 0]))
  (HO: ∀pb w1,au w1 pb 9 [.string s]→yC 8 #[yi n,yi wy,.slice (some ⟨pb,0,none⟩) 1 1] w1 fun zz w'=> ∃gb cap xo xc,zz= .returned (.tuple #[.slice (some ⟨gb,0,none⟩) 1 cap,yi 0])∧w'.rangeAt gb 0 (yoL cx gx x.s (yS xo x.n xc) x.e)∧Rd w' .i64 (yS xo x.n xc) (Dg.dg 65536 x.n)∧yB w1 w')
  (HB:yH w 16 #[] (.bool true)):
  yC 3 #[yi n,.string s,yi wy] w (yR w (.bool true)):=by
 replace HA:Hid _:=HA;replace HO:Hid _:=HO;replace HB:Hid _:=HB
 go_enter func3,ntmps3
 have b0:=Below.refl w.heap.size w
 go_wp2_with fail
 refine(HA.out _ b0).mono ?_;rintro zz w1 ⟨rfl,bb2⟩;have b3:=aa b0 bb2;clear b0 bb2 HA;have al4:=af w1 (.cells #[.string s] 9);have q5:=ah w1 [.string s] 9;have b6:=aa b3 al4
 go_wp2_with fail
 refine(HO.out _ _ q5).mono ?_;rintro zz w7 ⟨gb,cap,xo,xc,rfl,h0,rxx9,bb8⟩;have b10:=aa b6 bb8;clear q5 b6 bb8 HO b3 al4;have c11:=h0 0 _ rfl
 go_wp2_with fail
 refine(HB.out _ b10).mono ?_;rintro zz w12 ⟨rfl,bb13⟩;have b14:=aa b10 bb13;clear h0 rxx9 b10 bb13 HB c11
 go_wp2
 go_ret
 exact⟨by simp,b14⟩
end Go.Proofs.YtddkchlamdhgcaaGreatDoor
