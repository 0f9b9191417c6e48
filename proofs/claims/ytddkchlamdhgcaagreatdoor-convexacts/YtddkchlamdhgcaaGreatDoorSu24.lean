/-
  Texts laid together: Dy2, Gr1, Ce2, Ef1, Co10, Co20, Ce6, Eg1, Ar2, Ar4, Gq1, Eh1, Eh3.
-/
import Derived.Test.YtddkchlamdhgcaaGreatDoorSu12
import Derived.Test.YtddkchlamdhgcaaGreatDoorSu19
set_option maxRecDepth 100000
set_option maxHeartbeats 6400000
namespace Go.Proofs.YtddkchlamdhgcaaGreatDoor
open _root_.Go.Proofs.Tryz
open Go.RowKit
theorem II (v:Value)(t:ak)(w:World)(hv:Dv w v t)(hL:(Dg.dg 4294967296 t.n).length≤500000)(he: -1000000≤t.e∧t.e≤1000000)(hT:Tab w)(htz:tz t.n≤1000000):
  Calls Tryz.prog 139 #[v] w (jN w (bare t)):=by
 obtain⟨s,rfl,hr⟩:=hv;obtain⟨ts,n,e⟩:=t;simp only at hr hL he htz⊢;obtain⟨ao,ca,rfl⟩:=hr.shape;obtain⟨e1,e2⟩:=he
 by_cases hn:n=0
 ·subst hn
  rw[show Dg.dg 4294967296 0=[] from rfl] at hr⊢
  go_enter func139,ntmps139
  rw[show bare ⟨ts,0,e⟩=⟨false,0,0⟩ from by unfold bare;rfl]
  go_wp2
  go_returns
  exact⟨_,rfl,aQ _ _ _ _,((Below.refl _ _).alloc (Nat.le_refl _) _).alloc (by simp[World.size_alloc]) _⟩
 ·have h0:(((Dg.dg 4294967296 n).length:Int)==0)=false:=by simp[Dg.dg_nil_iff 4294967296 n (by omega)];exact hn
  have HB:Hid (bare ⟨ts,n,e⟩=⟨ts,n/2^tz n,e+tz n⟩):=by show bare ⟨ts,n,e⟩=_;unfold bare;rw[if_neg hn]
  have hsm:=Dg.small_dg 4294967296 n (by omega);have hvl:=Dg.vl_dg 4294967296 n (by omega);have HTW:Hid (∀w1,Below w.heap.size w w1→Calls Tryz.prog 150 #[.slice ao (Dg.dg 4294967296 n).length ca] w1 fun e w'=>e= .returned (.int .i64 ((tz n:Nat):Int))∧w'=w1):=fun w1 b1=>by
   have:=Gl _ n w1 (hr.l b1) (by omega) (hT.l b1)
   rwa [if_neg hn] at this
  have HSH:Hid (∀w1,Below w.heap.size w w1→Calls Tryz.prog 99 #[.slice ao (Dg.dg 4294967296 n).length ca,.int .i64 (-((tz n:Nat):Int))] w1 (Num w1 (n/2^tz n))):=fun w1 b1=>by
   have:=eO _ _ (-((tz n:Nat):Int)) w1 (hr.l b1) hsm (by omega) (by omega) (by omega);rw[hvl] at this;have e:shN n (-((tz n:Nat):Int))=n/2^tz n:=by
    unfold shN
    by_cases hz: -((tz n:Nat):Int)<0
    ·rw[if_pos hz];congr 2;omega
    ·rw[if_neg hz]
     have h0:tz n=0:=by omega
     rw[h0];simp
   rwa [e] at this
  obtain⟨m,hm⟩: ∃m,(Dg.dg 4294967296 n).length=m:=⟨_,rfl⟩;obtain⟨k,hk⟩: ∃k,tz n=k:=⟨_,rfl⟩;obtain⟨q,hq⟩: ∃q,n/2^tz n=q:=⟨_,rfl⟩;rw[hq,hk] at HB;rw[hq,hk,hm] at HSH;rw[hk,hm] at HTW;rw[hm] at h0 hL⊢;rw[hk] at htz;rw[HB.out];clear hm hk hq hr hsm hvl HB hn hT;have l1:=(aA w (.bool ts) (.slice ao m ca) (.int .i64 e) 187).l (af _ (.cells #[.bool false,.slice none 0 0,.int .i64 0] 187));have l2:=aA (w.alloc (.cells #[.bool ts,.slice ao m ca,.int .i64 e] 187)) (.bool false) (.slice none 0 0) (.int .i64 0) 187;have bA:=aa (af w (.cells #[.bool ts,.slice ao m ca,.int .i64 e] 187)) (af _ (.cells #[.bool false,.slice none 0 0,.int .i64 0] 187));rw[World.size_alloc] at l2
  go_enter func139,ntmps139
  go_wp2_with fail
  refine(cN ts ao m ca e _).mono ?_;rintro x w1 ⟨rfl,b1⟩;have l1:=l1.l b1;have l2:=l2.l b1;have b01:=aa bA b1;clear bA b1
  go_wp2_with fail
  refine(HTW.out w1 b01).mono ?_;rintro x w2 ⟨rfl,rfl⟩;have bd:Below w2.heap.size w2 w2.drew:=(Below.refl _ _).drew;have l1:=l1.l bd;have l2:=l2.l bd;have b02:=aa b01 bd;obtain⟨-,⟨c0,c1,c2⟩,-⟩:=id l1;clear b01 bd;have e3:IntKind.i64.wrap (-(k:Int))= -(k:Int):=IntWalk.i64_in _ ⟨by omega,by omega⟩;have e4:IntKind.i64.wrap (e+(k:Int))=e+(k:Int):=IntWalk.i64_in _ ⟨by omega,by omega⟩
  go_wp2_with fail
  go_region_held3 (fun wq=>wq.cell? ⟨w.heap.size,0,none⟩=some (.bool ts)∧wq.cell? ⟨w.heap.size,1,none⟩=some (.slice ao m ca)∧wq.cell? ⟨w.heap.size,2,none⟩=some (.int .i64 e)) (go_keep) (first
   | (go_at_call 138;refine(cN ts ao m ca e _).mono ?_;rintro x w3 ⟨rfl,b3⟩;have l13:=l1.l b3;have l23:=l2.l b3;have b03:=aa b02 b3;obtain⟨-,⟨p0,p1,p2⟩,-⟩:=id l13)
   | (go_at_call 99;refine(HSH.out _ b03).mono ?_;rintro x w4 ⟨vs,rfl,own4,b4⟩;have l14:=l13.l b4;have l24:=l23.l b4;have b04:=aa b03 b4;obtain⟨so,sc,hvs⟩:=own4.rd.shape;subst hvs;obtain⟨-,⟨q0,q1,q2⟩,-⟩:=id l14)
   | (go_at_call 151;refine(l9 ts so _ sc _ _).mono ?_;rintro x w5 ⟨rfl,b5⟩;have l25:=l24.l b5;have l15:=l14.l b5;obtain⟨-,⟨r0,r1,r2⟩,-⟩:=id l15;have b05:=aa b04 b5;have rd5:=own4.rd.l b5;obtain⟨hl5,⟨d0,d1,d2⟩,f0,f1,f2⟩:=id l25))
  all_goals go_wp2
  have l5:=aD l25 (.bool ts) (.slice so (Dg.dg 4294967296 q).length sc) (.int .i64 (e+(k:Int)));have hbw:w.heap.size≤w.heap.size+1:=by omega
  have b5':=((b05.setCell (p:=⟨w.heap.size+1,0,none⟩) hbw (.bool ts)).setCell (p:=⟨w.heap.size+1,1,none⟩) hbw (.slice so (Dg.dg 4294967296 q).length sc)).setCell (p:=⟨w.heap.size+1,2,none⟩) hbw (.int .i64 (e+(k:Int)));have own5:=(own4.l b5).apart3 (b:=w.heap.size+1) l23.1 (.bool ts) (.slice so (Dg.dg 4294967296 q).length sc) (.int .i64 (e+(k:Int)));obtain⟨-,⟨g0,g1,g2⟩,-⟩:=l5;refine bodyPost_ret (v:= .agg #[.bool ts,.slice so (Dg.dg 4294967296 q).length sc,.int .i64 (e+(k:Int))]) (by simp[results,results139,go_sem,g0,g1,g2]) rfl ?_;exact⟨_,rfl,own5.lower b03.size,b5'⟩
theorem FE (R D L G:Int)(gr:Bool)(top:Int)(w:World)(h1:1≤D)(h2:D≤120)(t1: -1000000≤top)(t2:top≤1000000):
  yC 95 #[ygV R D L G gr,yi top] w (yR w (yi (aT R D top))):=by
 have b1:=af w (.cells (ygA R D L G gr) 133);have l1:=ah w (ygL R D L G gr) 133;have HW:Hid (yJ 98 #[ygV R D L G gr] (yi (xg R))):=fun w1=>tY R D L G gr w1
 have hwl:=eN R;have hfl:=Qd top (ai R) (by omega);unfold aT;rw[jf] at HW;obtain⟨wd,hwd⟩: ∃k,ai R=k:=⟨_,rfl⟩;rw[hwd] at HW hwl hfl⊢;have hne:((wd:Int)==0)=false:=by simp;omega
 have hne2: ¬(wd:Int)=0:=by omega
 have q1: -1000000≤top.tdiv wd∧top.tdiv wd≤1000000:=by
  have:=Int.natAbs_tdiv_le_natAbs top wd;omega
 have q2: -1000004≤top.tdiv wd*wd∧top.tdiv wd*wd≤1000004:=by
  have e:=Int.tmod_add_mul_tdiv top wd;have e2:(wd:Int)*top.tdiv wd=top.tdiv wd*wd:=Int.mul_comm _ _;have hx:=Int.tmod_lt_of_pos top (b:=(wd:Int)) (by omega);have hy:=Int.tmod_lt_of_pos (-top) (b:=(wd:Int)) (by omega);rw[Int.neg_tmod] at hy;omega
 obtain⟨q,hq⟩: ∃q,top.tdiv wd=q:=⟨_,rfl⟩;rw[hq] at hfl q1 q2;obtain⟨m,hm⟩: ∃m,q*(wd:Int)=m:=⟨_,rfl⟩;rw[hm] at hfl q2;have w0:IntKind.i64.wrap q=q:=IntWalk.i64_in _ ⟨by omega,by omega⟩;have w1:IntKind.i64.wrap m=m:=IntWalk.i64_in _ ⟨by omega,by omega⟩;have w2:IntKind.i64.wrap (D-1)=D-1:=IntWalk.i64_in _ ⟨by omega,by omega⟩;clear hwd
 by_cases hlt:top<m
 ·rw[hfl.1 hlt]
  have w3:IntKind.i64.wrap (q-1)=q-1:=IntWalk.i64_in _ ⟨by omega,by omega⟩;have w4:IntKind.i64.wrap (q-1-(D-1))=q-1-(D-1):=IntWalk.i64_in _ ⟨by omega,by omega⟩;clear hfl
  go_enter func95,ntmps95
  go_wp2_with fail
  refine(HW.out _).mono ?_;rintro z w3' ⟨rfl,b3⟩;have b03:=aa b1 b3;have c1:=(l1.l b3).c 1 rfl
  go_wp2
  go_ret
  exact⟨rfl,b03⟩
 ·rw[hfl.2 hlt]
  have hltf:decide (top<m)=false:=by simp;omega
  have w4:IntKind.i64.wrap (q-(D-1))=q-(D-1):=IntWalk.i64_in _ ⟨by omega,by omega⟩;clear hfl
  go_enter func95,ntmps95
  go_wp2_with fail
  refine(HW.out _).mono ?_;rintro z w3' ⟨rfl,b3⟩;have b03:=aa b1 b3;have c1:=(l1.l b3).c 1 rfl
  go_wp2
  go_ret
  exact⟨rfl,b03⟩
theorem jp.block {w:World}{base g n cap:Nat}{bs:List Bool}(h:jp w base (.slice (some ⟨g,0,none⟩) n cap) bs)(hn:n=bs.length):base≤g∧g<w.heap.size:=by
 subst hn;exact World.ownsRow.lt h g rfl
theorem jp.c {w:World}{base g n cap:Nat}{bs:List Bool}(h:jp w base (.slice (some ⟨g,0,none⟩) n cap) bs)(hn:n=bs.length)(j:Nat)(hj:j<bs.length):w.cell? ⟨g,j,none⟩=some (.bool (bs.getD j false)):=by
 subst hn;have hc:=World.ownsRow.cellAt h j (by omega);rw[hc,List.getElem?_map,List.getElem?_eq_getElem hj];simp[List.getD_eq_getElem?_getD,hj]
theorem jp.wider {w:World}{base b':Nat}{v:Value}{bs:List Bool}(h:jp w base v bs)(hb:b'≤base):jp w b' v bs:=by
 obtain⟨hl,h2⟩:=h;refine⟨hl, ?_⟩
 rcases h2 with h2| ⟨g,cap,cur,hv,hbg,r⟩
 ·exact .inl h2
 ·exact .inr ⟨g,cap,cur,hv,Nat.le_trans hb hbg,r⟩
theorem AY (g cap:Nat)(zs:List Nat)(f c x:Nat)(w:World)(hr:ik w g zs)(hs:Dg.Small 256 zs)(hx:x<18446744073709551616)(hfc:f+c≤8*zs.length)(hl:zs.length≤1000):
  yC 125 #[.slice (some ⟨g,0,none⟩) zs.length cap,yi f,yi c,.int .u64 x] w fun e w'=>e= .returned (.tuple #[])∧ik w' g (iS f c x zs)∧w.grownBy w' (some g):=by
 go_enter func125,ntmps125
 go_wp2
 go_loopw [3,8] (fun xv iv wr=> ∃(j y:Nat) (cur:List Nat),j≤c∧iv=yi ((f:Int)+j-1)∧xv= .int .u64 y∧y<18446744073709551616∧ik wr g cur∧Dg.Small 256 cur∧Hid (cur.length=zs.length)∧Hid (iS f j y cur=iS f c x zs)∧w.grownBy wr (some g))
  (fun _ iv _=>(intOf iv+1).toNat)
 case atStart=>exact⟨c,x,zs,Nat.le_refl _,by go_num,rfl,hx,hr,hs,rfl,rfl,ib _ _⟩
 case round=>
  obtain⟨j,y,cur,hj,rfl,rfl,hy,own,hsm,Hl,Hx,gr⟩:=hrel;have hlen:=Hl.out
  by_cases hj0:0<j
  ·obtain⟨j',rfl⟩: ∃j',j=j'+1:=⟨j-1,by omega⟩
   obtain⟨i,hi⟩: ∃i,f+j'=i:=⟨_,rfl⟩;have hiI:(f:Int)+((j'+1:Nat):Int)-1=(i:Int):=by omega
   rw[hiI];obtain⟨q,hq⟩: ∃q,i/8=q:=⟨_,rfl⟩;obtain⟨r,hr'⟩: ∃r,i % 8=r:=⟨_,rfl⟩;have hqI:(i:Int)/8=(q:Int):=by omega
   have hrI:(i:Int) % 8=(r:Int):=by omega
   have hcell:=own.c q (by omega);have hfree:=own.f q (by omega);have hs1:=hsm q;obtain⟨b,hb⟩: ∃b,cur.getD q 0=b:=⟨_,rfl⟩;rw[hb] at hcell hs1;have hql:q<zs.length:=by omega
   have hr8:r<8:=by omega
   have HH:Hid (_∧_∧_∧_):=⟨hi,hq,hr',hb⟩;have hic:(f:Int)≤(i:Int):=by omega
   have hib:(i:Int)≤8000:=by omega
   clear hi hq hr' hb hlen hiI
   go_wp2
   go_region
   all_goals go_wp2
   all_goals go_roundw
   case rel=>
    obtain⟨hi,hq,hr',hb⟩:=HH.out;have hbl:b|||y % 2*2^ (7-r)<256:=Nat.or_lt_two_pow (n:=8) hs1 (Cf y r)
    refine⟨j',y/2,cur.set q (b|||y % 2*2^ (7-r)),by omega,by congr 1;omega,rfl,by omega, ?_,Io hsm _ _ hbl, ?_, ?_,eF gr (eF (bI _ _ _ _) (vm _ _))⟩
    ·rw[aaR b y r hs1 hy]
     exact(own.store q _).drew
    ·show _=_
     rw[List.length_set];exact Hl.out
    ·show _=_
     have:=Hx.out;rw[iS,hi,hq,hr',hb] at this;exact this
   case measure=>simp only[intOf];omega
  ·have hd: ¬((f:Int)≤(f:Int)+(j:Int)-1):=by omega
   have h0:Hid (j=0):=(by omega:j=0);clear hlen
   go_wp2
   go_end0
   have h1:=h0.out;subst h1;have:=Hx.out;rw[iS] at this;rw[←this];exact⟨rfl,own,gr⟩
theorem XU.l {w w1 w2:World}{lv:List Value}(h:XU w lv w1)(b:yB w1 w2):XU w lv w2:=⟨h.ly.l b,h.m.l b,aa h.b b⟩
theorem KF (D L G fam:Int)(gr:Bool)(sz ex:Nat)(F:Nat)(s x1 x2 x3:Bool)(ao:Option Addr)(dn dc:Nat)(pw:Int)(e f:Nat)(w:World)(hE:IntKind.i64.wrap (pw-L)=(e:Int))(he:e<65536)
  (HWd: ∀w1,yB w w1→yC 65 #[.slice ao dn dc] w1 fun z w'=>z= .returned (.int .u64 f)∧w1=w')
  (ld:Nat) (ab:Int) (hab:bits .and .u64 f ld=ab) (habz:ab≠0)
  (HL:yJ 116 #[ylV 2 D L G gr sz ex fam F] (.int .u64 ld)):
  yC 122 #[ylV 2 D L G gr sz ex fam F,ypV s (.slice ao dn dc) pw x1 x2 x3] w (yR w (yfV s ((e:Int)+1) f)):=by
 have hsf:=cD;have HWd':Hid _:=HWd;clear HWd;have HL':Hid _:=HL;clear HL;have hz1:(ab==0)=false:=by simpa using habz
 have hz2:(ab != 0)=true:=by simpa using habz
 clear habz;have bp:=af (w.alloc (.cells (ylA 2 D L G gr sz ex fam F) 116)) (.cells (ypA s (.slice ao dn dc) pw x1 x2 x3) 80);have bz:=af ((w.alloc (.cells (ylA 2 D L G gr sz ex fam F) 116)).alloc (.cells (ypA s (.slice ao dn dc) pw x1 x2 x3) 80)) (.cells (yfA false 0 0) 119);have ql0:=((ah w (ylL 2 D L G gr sz ex fam F) 116).l bp).l bz;have qp0:=(ah (w.alloc (.cells (ylA 2 D L G gr sz ex fam F) 116)) (ypL s (.slice ao dn dc) pw x1 x2 x3) 80).l bz;have qz0:=ah ((w.alloc (.cells (ylA 2 D L G gr sz ex fam F) 116)).alloc (.cells (ypA s (.slice ao dn dc) pw x1 x2 x3) 80)) (yfL false 0 0) 119;have b0:=aa (aa (af w (.cells (ylA 2 D L G gr sz ex fam F) 116)) bp) bz;rw[World.size_alloc] at qp0;rw[World.size_alloc,World.size_alloc] at qz0;have ba:=af (((w.alloc (.cells (ylA 2 D L G gr sz ex fam F) 116)).alloc (.cells (ypA s (.slice ao dn dc) pw x1 x2 x3) 80)).alloc (.cells (yfA false 0 0) 119)) (.cells (yfA false 0 0) 119);have b0d:=b0.drew;have b0a:=(aa b0 ba).drew;have ql0a:=(ql0.l ba).drew;have qp0a:=(qp0.l ba).drew;have ql0d:=ql0.drew;have qp0d:=qp0.drew;obtain⟨cx0,cx1,cx2,cx3,cx4,cx5,cx6,cx7,cx8⟩:=ql0d.cs9;obtain⟨cu0,cu1,cu2,cu3,cu4,cu5⟩:=qp0d.cs6;obtain⟨cxa0,cxa1,cxa2,cxa3,cxa4,cxa5,cxa6,cxa7,cxa8⟩:=ql0a.cs9;obtain⟨cua0,cua1,cua2,cua3,cua4,cua5⟩:=qp0a.cs6;have hn0:w.heap.size+1+1+1≠w.heap.size:=by omega
 have hn1:w.heap.size+1+1+1≠w.heap.size+1:=by omega
 go_enter func122,ntmps122
 go_wp2_with fail
 go_region_held3 (fun wq=>(wq.cell? ⟨w.heap.size,0,none⟩=some (yi 2)∧wq.cell? ⟨w.heap.size,1,none⟩=some (yi D)∧wq.cell? ⟨w.heap.size,2,none⟩=some (yi L)∧wq.cell? ⟨w.heap.size,3,none⟩=some (yi G)∧wq.cell? ⟨w.heap.size,4,none⟩=some (.bool gr)∧wq.cell? ⟨w.heap.size,5,none⟩=some (yi sz)∧wq.cell? ⟨w.heap.size,6,none⟩=some (yi ex)∧wq.cell? ⟨w.heap.size,7,none⟩=some (yi fam)∧wq.cell? ⟨w.heap.size,8,none⟩=some (.func (.func F) #[] #[]))∧(wq.cell? ⟨w.heap.size+1,0,none⟩=some (.bool s)∧wq.cell? ⟨w.heap.size+1,1,none⟩=some (.slice ao dn dc)∧wq.cell? ⟨w.heap.size+1,2,none⟩=some (yi pw)∧wq.cell? ⟨w.heap.size+1,3,none⟩=some (.bool x1)∧wq.cell? ⟨w.heap.size+1,4,none⟩=some (.bool x2)∧wq.cell? ⟨w.heap.size+1,5,none⟩=some (.bool x3))) (go_keep) (first
  | (go_at_call 65;(first| (with_reducible (refine(HWd'.out _ b0d).mono ?_))| (with_reducible (refine(HWd'.out _ b0a).mono ?_)));rintro z wv ⟨rfl,rfl⟩))
 all_goals (
  have ba4:=af (((w.alloc (.cells (ylA 2 D L G gr sz ex fam F) 116)).alloc (.cells (ypA s (.slice ao dn dc) pw x1 x2 x3) 80)).alloc (.cells (yfA false 0 0) 119)) (.cells (yfA s e f) 119);have ql4:=(ql0.l ba4).drew;have qz4:=(qz0.l ba4).drew;have qf4:=(ah (((w.alloc (.cells (ylA 2 D L G gr sz ex fam F) 116)).alloc (.cells (ypA s (.slice ao dn dc) pw x1 x2 x3) 80)).alloc (.cells (yfA false 0 0) 119)) (yfL s e f) 119).drew;rw[World.size_alloc,World.size_alloc,World.size_alloc] at qf4;have b4:=(aa b0 ba4).drew;clear ba4 ba b0d b0a ql0a qp0a ql0d qp0d ql0 qp0 qz0 b0 cx0 cxa0 cx1 cxa1 cx2 cxa2 cx3 cxa3 cx4 cxa4 cx5 cxa5 cx6 cxa6 cx7 cxa7 cx8 cxa8 cu0 cua0 cu1 cua1 cu2 cua2 cu3 cua3 cu4 cua4 cu5 cua5;generalize((((w.alloc (.cells (ylA 2 D L G gr sz ex fam F) 116)).alloc (.cells (ypA s (.slice ao dn dc) pw x1 x2 x3) 80)).alloc (.cells (yfA false 0 0) 119)).alloc (.cells (yfA s e f) 119)).drew=w4 at*;have ql4d:=ql4.drew;have qf4d:=qf4.drew;have qz4d:=qz4.drew;have b4d:=b4.drew;obtain⟨cl0,cl1,cl2,cl3,cl4,cl5,cl6,cl7,cl8⟩:=ql4d.cs9;obtain⟨cf0,cf1,cf2⟩:=qf4d.cs3
  go_wp2_with fail
  go_region_held3 (fun wq=>(wq.cell? ⟨w.heap.size,0,none⟩=some (yi 2)∧wq.cell? ⟨w.heap.size,1,none⟩=some (yi D)∧wq.cell? ⟨w.heap.size,2,none⟩=some (yi L)∧wq.cell? ⟨w.heap.size,3,none⟩=some (yi G)∧wq.cell? ⟨w.heap.size,4,none⟩=some (.bool gr)∧wq.cell? ⟨w.heap.size,5,none⟩=some (yi sz)∧wq.cell? ⟨w.heap.size,6,none⟩=some (yi ex)∧wq.cell? ⟨w.heap.size,7,none⟩=some (yi fam)∧wq.cell? ⟨w.heap.size,8,none⟩=some (.func (.func F) #[] #[]))∧(wq.cell? ⟨w.heap.size+1+1+1,0,none⟩=some (.bool s)∧wq.cell? ⟨w.heap.size+1+1+1,1,none⟩=some (yi e)∧wq.cell? ⟨w.heap.size+1+1+1,2,none⟩=some (.int .u64 f))) (go_keep) (first
   | (go_at_call 116;refine(HL'.out _).mono ?_;rintro z w5 ⟨rfl,b5'⟩;have ql5:=ql4d.l b5';have qf5:=qf4d.l b5';have qz5:=qz4d.l b5';have b5:=aa b4d b5';obtain⟨dl0,dl1,dl2,dl3,dl4,dl5,dl6,dl7,dl8⟩:=ql5.cs9;obtain⟨df0,df1,df2⟩:=qf5.cs3))
  clear ql4 ql4d qf4 qf4d qz4 qz4d b4 b4d b5' cl0 cl1 cl2 cl3 cl4 cl5 cl6 cl7 cl8 cf0 cf1 cf2;have jf1:=qf5.f 1;have hew:IntKind.i64.wrap ((e:Int)+1)=(e:Int)+1:=IntWalk.i64_in _ ⟨by omega,by omega⟩
  go_upto_region 4 with fail
  have hfz:w.heap.size+1+1+1≠w.heap.size+1+1:=by omega
  have bu6:=ag w5 (w.heap.size+1+1+1) 1 (yi ((e:Int)+1));have qf6:au (w5.setCell ⟨w.heap.size+1+1+1,1,none⟩ (yi ((e:Int)+1))) (w.heap.size+1+1+1) 119 (yfL s ((e:Int)+1) f):=qf5.set 1 (yi ((e:Int)+1));have qz6:=qz5.off hfz 1 (yi ((e:Int)+1));have b6:=bu6.below b5 (by omega);clear bu6 qf5 qz5 b5 ql5 df0 df1 df2 jf1;generalize(w5.setCell ⟨w.heap.size+1+1+1,1,none⟩ (yi ((e:Int)+1)))=w6 at*;have bu:=((ag w6 (w.heap.size+1+1) 0 (.bool s)).trans (ag _ (w.heap.size+1+1) 1 (yi ((e:Int)+1)))).trans (ag _ (w.heap.size+1+1) 2 (.int .u64 f));have cR:au (((w6.setCell ⟨w.heap.size+1+1,0,none⟩ (.bool s)).setCell ⟨w.heap.size+1+1,1,none⟩ (yi ((e:Int)+1))).setCell ⟨w.heap.size+1+1,2,none⟩ (.int .u64 f)) (w.heap.size+1+1) 119 (yfL s ((e:Int)+1) f):=(((qz6.set 0 (.bool s)).set 1 (yi ((e:Int)+1))).set 2 (.int .u64 f));have bR:=bu.below b6 (by omega);have hl:=run_loadVar_mid (P:=Tryz.prog) _ (w.heap.size+1+1) 0 119 (yfL s ((e:Int)+1) f) _ cR.range underlying119 rfl (by kernel_rfl);have HH:Hid (_∧_):=⟨hl,bR⟩;obtain⟨yz0,yz1,yz2⟩:=qz6.cs3;have jz0:=qz6.f 0;have jz1:=qz6.f 1;have jz2:=qz6.f 2;obtain⟨yf0,yf1,yf2⟩:=qf6.cs3;clear hl bR cR bu
  go_wp2
  obtain⟨hl,bR⟩:=HH.out;exact bodyPost_ret (br results122 rfl hl) rfl ⟨rfl,bR⟩
 )
theorem KG (D L G fam:Int)(gr:Bool)(sz ex:Nat)(F:Nat)(s x1 x2 x3:Bool)(ao:Option Addr)(dn dc:Nat)(pw:Int)(e f:Nat)(w:World)(hE:IntKind.i64.wrap (pw-L)=(e:Int))(_he:e<65536)
  (HWd: ∀w1,yB w w1→yC 65 #[.slice ao dn dc] w1 fun z w'=>z= .returned (.int .u64 f)∧w1=w')
  (ld:Nat) (ab:Int) (hab:bits .and .u64 f ld=ab) (habz:ab=0)
  (HL:yJ 116 #[ylV 2 D L G gr sz ex fam F] (.int .u64 ld)):
  yC 122 #[ylV 2 D L G gr sz ex fam F,ypV s (.slice ao dn dc) pw x1 x2 x3] w (yR w (yfV s e f)):=by
 have hsf:=cD;have HWd':Hid _:=HWd;clear HWd;have HL':Hid _:=HL;clear HL;subst habz;have bp:=af (w.alloc (.cells (ylA 2 D L G gr sz ex fam F) 116)) (.cells (ypA s (.slice ao dn dc) pw x1 x2 x3) 80);have bz:=af ((w.alloc (.cells (ylA 2 D L G gr sz ex fam F) 116)).alloc (.cells (ypA s (.slice ao dn dc) pw x1 x2 x3) 80)) (.cells (yfA false 0 0) 119);have ql0:=((ah w (ylL 2 D L G gr sz ex fam F) 116).l bp).l bz;have qp0:=(ah (w.alloc (.cells (ylA 2 D L G gr sz ex fam F) 116)) (ypL s (.slice ao dn dc) pw x1 x2 x3) 80).l bz;have qz0:=ah ((w.alloc (.cells (ylA 2 D L G gr sz ex fam F) 116)).alloc (.cells (ypA s (.slice ao dn dc) pw x1 x2 x3) 80)) (yfL false 0 0) 119;have b0:=aa (aa (af w (.cells (ylA 2 D L G gr sz ex fam F) 116)) bp) bz;rw[World.size_alloc] at qp0;rw[World.size_alloc,World.size_alloc] at qz0;have ba:=af (((w.alloc (.cells (ylA 2 D L G gr sz ex fam F) 116)).alloc (.cells (ypA s (.slice ao dn dc) pw x1 x2 x3) 80)).alloc (.cells (yfA false 0 0) 119)) (.cells (yfA false 0 0) 119);have b0d:=b0.drew;have b0a:=(aa b0 ba).drew;have ql0a:=(ql0.l ba).drew;have qp0a:=(qp0.l ba).drew;have ql0d:=ql0.drew;have qp0d:=qp0.drew;obtain⟨cx0,cx1,cx2,cx3,cx4,cx5,cx6,cx7,cx8⟩:=ql0d.cs9;obtain⟨cu0,cu1,cu2,cu3,cu4,cu5⟩:=qp0d.cs6;obtain⟨cxa0,cxa1,cxa2,cxa3,cxa4,cxa5,cxa6,cxa7,cxa8⟩:=ql0a.cs9;obtain⟨cua0,cua1,cua2,cua3,cua4,cua5⟩:=qp0a.cs6;have hn0:w.heap.size+1+1+1≠w.heap.size:=by omega
 have hn1:w.heap.size+1+1+1≠w.heap.size+1:=by omega
 go_enter func122,ntmps122
 go_wp2_with fail
 go_region_held3 (fun wq=>(wq.cell? ⟨w.heap.size,0,none⟩=some (yi 2)∧wq.cell? ⟨w.heap.size,1,none⟩=some (yi D)∧wq.cell? ⟨w.heap.size,2,none⟩=some (yi L)∧wq.cell? ⟨w.heap.size,3,none⟩=some (yi G)∧wq.cell? ⟨w.heap.size,4,none⟩=some (.bool gr)∧wq.cell? ⟨w.heap.size,5,none⟩=some (yi sz)∧wq.cell? ⟨w.heap.size,6,none⟩=some (yi ex)∧wq.cell? ⟨w.heap.size,7,none⟩=some (yi fam)∧wq.cell? ⟨w.heap.size,8,none⟩=some (.func (.func F) #[] #[]))∧(wq.cell? ⟨w.heap.size+1,0,none⟩=some (.bool s)∧wq.cell? ⟨w.heap.size+1,1,none⟩=some (.slice ao dn dc)∧wq.cell? ⟨w.heap.size+1,2,none⟩=some (yi pw)∧wq.cell? ⟨w.heap.size+1,3,none⟩=some (.bool x1)∧wq.cell? ⟨w.heap.size+1,4,none⟩=some (.bool x2)∧wq.cell? ⟨w.heap.size+1,5,none⟩=some (.bool x3))) (go_keep) (first
  | (go_at_call 65;(first| (with_reducible (refine(HWd'.out _ b0d).mono ?_))| (with_reducible (refine(HWd'.out _ b0a).mono ?_)));rintro z wv ⟨rfl,rfl⟩))
 all_goals (
  have ba4:=af (((w.alloc (.cells (ylA 2 D L G gr sz ex fam F) 116)).alloc (.cells (ypA s (.slice ao dn dc) pw x1 x2 x3) 80)).alloc (.cells (yfA false 0 0) 119)) (.cells (yfA s e f) 119);have ql4:=(ql0.l ba4).drew;have qz4:=(qz0.l ba4).drew;have qf4:=(ah (((w.alloc (.cells (ylA 2 D L G gr sz ex fam F) 116)).alloc (.cells (ypA s (.slice ao dn dc) pw x1 x2 x3) 80)).alloc (.cells (yfA false 0 0) 119)) (yfL s e f) 119).drew;rw[World.size_alloc,World.size_alloc,World.size_alloc] at qf4;have b4:=(aa b0 ba4).drew;clear ba4 ba b0d b0a ql0a qp0a ql0d qp0d ql0 qp0 qz0 b0 cx0 cxa0 cx1 cxa1 cx2 cxa2 cx3 cxa3 cx4 cxa4 cx5 cxa5 cx6 cxa6 cx7 cxa7 cx8 cxa8 cu0 cua0 cu1 cua1 cu2 cua2 cu3 cua3 cu4 cua4 cu5 cua5;generalize((((w.alloc (.cells (ylA 2 D L G gr sz ex fam F) 116)).alloc (.cells (ypA s (.slice ao dn dc) pw x1 x2 x3) 80)).alloc (.cells (yfA false 0 0) 119)).alloc (.cells (yfA s e f) 119)).drew=w4 at*;have ql4d:=ql4.drew;have qf4d:=qf4.drew;have qz4d:=qz4.drew;have b4d:=b4.drew;obtain⟨cl0,cl1,cl2,cl3,cl4,cl5,cl6,cl7,cl8⟩:=ql4d.cs9;obtain⟨cf0,cf1,cf2⟩:=qf4d.cs3
  go_wp2_with fail
  go_region_held3 (fun wq=>(wq.cell? ⟨w.heap.size,0,none⟩=some (yi 2)∧wq.cell? ⟨w.heap.size,1,none⟩=some (yi D)∧wq.cell? ⟨w.heap.size,2,none⟩=some (yi L)∧wq.cell? ⟨w.heap.size,3,none⟩=some (yi G)∧wq.cell? ⟨w.heap.size,4,none⟩=some (.bool gr)∧wq.cell? ⟨w.heap.size,5,none⟩=some (yi sz)∧wq.cell? ⟨w.heap.size,6,none⟩=some (yi ex)∧wq.cell? ⟨w.heap.size,7,none⟩=some (yi fam)∧wq.cell? ⟨w.heap.size,8,none⟩=some (.func (.func F) #[] #[]))∧(wq.cell? ⟨w.heap.size+1+1+1,0,none⟩=some (.bool s)∧wq.cell? ⟨w.heap.size+1+1+1,1,none⟩=some (yi e)∧wq.cell? ⟨w.heap.size+1+1+1,2,none⟩=some (.int .u64 f))) (go_keep) (first
   | (go_at_call 116;refine(HL'.out _).mono ?_;rintro z w5 ⟨rfl,b5'⟩;have ql5:=ql4d.l b5';have qf5:=qf4d.l b5';have qz5:=qz4d.l b5';have b5:=aa b4d b5';obtain⟨dl0,dl1,dl2,dl3,dl4,dl5,dl6,dl7,dl8⟩:=ql5.cs9;obtain⟨df0,df1,df2⟩:=qf5.cs3))
  clear ql4 ql4d qf4 qf4d qz4 qz4d b4 b4d b5' cl0 cl1 cl2 cl3 cl4 cl5 cl6 cl7 cl8 cf0 cf1 cf2;have bu:=((ag w5 (w.heap.size+1+1) 0 (.bool s)).trans (ag _ (w.heap.size+1+1) 1 (yi e))).trans (ag _ (w.heap.size+1+1) 2 (.int .u64 f));have cR:au (((w5.setCell ⟨w.heap.size+1+1,0,none⟩ (.bool s)).setCell ⟨w.heap.size+1+1,1,none⟩ (yi e)).setCell ⟨w.heap.size+1+1,2,none⟩ (.int .u64 f)) (w.heap.size+1+1) 119 (yfL s e f):=(((qz5.set 0 (.bool s)).set 1 (yi e)).set 2 (.int .u64 f));have bR:=bu.below b5 (by omega);have hl:=run_loadVar_mid (P:=Tryz.prog) _ (w.heap.size+1+1) 0 119 (yfL s e f) _ cR.range underlying119 rfl (by kernel_rfl);have HH:Hid (_∧_):=⟨hl,bR⟩;obtain⟨yz0,yz1,yz2⟩:=qz5.cs3;have jz0:=qz5.f 0;have jz1:=qz5.f 1;have jz2:=qz5.f 2;obtain⟨yf0,yf1,yf2⟩:=qf5.cs3;clear hl bR cR bu
  go_wp2
  obtain⟨hl,bR⟩:=HH.out;exact bodyPost_ret (br results122 rfl hl) rfl ⟨rfl,bR⟩
 )
theorem EnF.l {w W W':World}{bf:Nat}{vv fl:List Value}(h:EnF w bf vv fl W)(b:yB W W'):EnF w bf vv fl W':=
 ⟨h.v.l b,h.z.l b,h.f.l b,aa h.b b⟩
theorem zZ {w w':World}{base e size k:Nat}{v:Value}{xs:List Value}(h:w.ownsRow base e size v k xs)(hb:yB w w'):w'.ownsRow base e size v k xs:=by
 obtain⟨hl,h2⟩:=h;refine⟨hl, ?_⟩
 rcases h2 with h2| ⟨g,cap,cur,hv,hbg,hh,r⟩
 ·exact .inl h2
 ·refine .inr ⟨g,cap,cur,hv,hbg, ?_,r⟩
  rw[hb.block g ?_]
  ·exact hh
  ·rw[Array.getElem?_eq_some_iff] at hh
   exact hh.1
theorem Nx {w w':World}{g:Nat}{k:IntKind}{v:Value}{zs:List Nat}(r:Rd w k v zs)(hg:w.grownBy w' (some g))(ho:wF g v zs):Rd w' k v zs:=by
 obtain⟨ao,cap,rfl,h1,h2,h3⟩:=r;refine⟨ao,cap,rfl,h1,h2,fun hp=> ?_⟩
 obtain⟨b,off,rfl,h4⟩:=h3 hp;refine⟨b,off,rfl,fun i hi=> ?_⟩
 have h5:=h4 i hi;have hlt:b<w.heap.size:=World.block_lt_of_cell? w _ h5;have hne:b≠g:=ho hp _ _ _ rfl;rw[←h5];unfold World.cell?;simp only;rw[hg.block b hlt (fun e=>hne (Option.some.inj e))]
theorem au.grownO {w w':World}{b:Nat}{ty:TypeId}{vs:List Value}{row:Option Nat}(h:au w b ty vs)(hg:w.grownBy w' row)(hne: ∀g,row=some g→b≠g):au w' b ty vs:=
 (hg.block b h.lt (fun e=>hne b e.symm rfl)).trans h
theorem aC {w w':World}{g o:Nat}{cs:List Value}(h:w.rangeAt g o cs)(hb:yB w w'):w'.rangeAt g o cs:=fun j v hv=>by
 have:=h j v hv;rw[←this];exact World.cell?_of_block (hb.block g (World.block_lt_of_cell? w _ this))
theorem BM (qs:Bool)(ao:Option Addr)(la ca:Nat)(bo:Option Addr)(lb cb:Nat)(N M:Nat)(E n:Int)(w:World)
  (ha:Rd w .i64 (.slice ao la ca) (Dg.dg 65536 N)) (hb:Rd w .i64 (.slice bo lb cb) (Dg.dg 65536 M)) (hla:(Dg.dg 65536 N).length≤100000) (hlb:(Dg.dg 65536 M).length≤100000) (hM:0<M) (n1: -900000≤E-n) (n2:E-n≤900000):
  yC 36 #[yrV qs (.slice ao la ca) (.slice bo lb cb) E,yi n] w (Rp w (eZ N (E-n)/dX M (E-n)) (eZ N (E-n) % dX M (E-n)) (dX M (E-n))):=by
 have b1:=af w (.cells (yrA qs (.slice ao la ca) (.slice bo lb cb) E) 37);have l1:=ah w (yrL qs (.slice ao la ca) (.slice bo lb cb) E) 37;have hX:=GB (n:=E-n) hla n2;have hY:=GC (n:=E-n) hlb n1;have hY0:=N8 (E-n) hM;have HIN:Hid (∀v u w1,Rd w1 .i64 v (Dg.dg 65536 (eZ N (E-n)))→Rd w1 .i64 u (Dg.dg 65536 (dX M (E-n)))→yC 66 #[v,u] w1 (JI w1 (eZ N (E-n)/dX M (E-n)) (eZ N (E-n) % dX M (E-n)))):=fun v u w1 r1 r2=>
  qM v u _ _ w1 r1 r2 (by omega) (by omega) hY0
 have HSN:Hid (∀w1,yB w w1→n≤E→yC 41 #[.slice ao la ca,yi (E-n)] w1 (cG w1 (eZ N (E-n)))):=fun w1 b hn=>by
  have:=kD _ _ (E-n).toNat w1 (ha.l b) (Dg.small_dg _ _ (by omega)) (by omega) (by omega);rw[Dg.vl_dg _ _ (by omega),←fw,Int.toNat_of_nonneg (by omega)] at this;exact this
 have HSD:Hid (∀w1,yB w w1→ ¬n≤E→yC 41 #[.slice bo lb cb,yi (n-E)] w1 (cG w1 (dX M (E-n)))):=fun w1 b hn=>by
  have:=kD _ _ (n-E).toNat w1 (hb.l b) (Dg.small_dg _ _ (by omega)) (by omega) (by omega);rw[Dg.vl_dg _ _ (by omega),Int.toNat_of_nonneg (by omega),show n-E= -(E-n) by omega,←eM] at this
  rw[show n-E= -(E-n) by omega]
  exact this
 have HN0:Hid (¬n≤E→eZ N (E-n)=N):=fun h=>if_pos (by omega)
 have HD0:Hid (n≤E→dX M (E-n)=M):=fun h=>if_neg (by omega)
 have RA:Hid (Rd _ _ _ _):=ha.l b1;have RB:Hid (Rd _ _ _ _):=hb.l b1;have W1:IntKind.i64.wrap (E-n)=E-n:=IntWalk.i64_in _ ⟨by omega,by omega⟩;have W2:IntKind.i64.wrap (n-E)=n-E:=IntWalk.i64_in _ ⟨by omega,by omega⟩;obtain⟨X,hX⟩: ∃X,eZ N (E-n)=X:=⟨_,rfl⟩;obtain⟨Y,hY⟩: ∃Y,dX M (E-n)=Y:=⟨_,rfl⟩;rw[hX] at HIN HSN HN0⊢;rw[hY] at HIN HSD HD0⊢;clear ha hb hla hlb hX hY hY0 hM;have c1:=l1.c 1 rfl;have c2:=l1.c 2 rfl;have c3:=l1.c 3 rfl
 by_cases hn:n≤E
 ·obtain rfl:=HD0.out hn
  go_enter func36,ntmps36
  go_wp2_with fail
  go_quiet (fail)
  have bd:=aL b1 nq;have rb:=Rd.l RB.out (aL (Below.refl _ _) nq)
  go_wp2_with fail
  refine(HSN.out _ bd hn).mono ?_;rintro z w2 ⟨v2,rfl,r2,b2⟩;have b02:=aa bd b2;have rb2:=rb.l b2
  go_wp2_with fail
  refine(HIN.out _ _ _ r2 rb2).mono ?_;rintro z w3 ⟨v3,v4,rfl,r3,r4,b3⟩;have b03:=aa b02 b3
  go_wp2
  go_ret3
  exact⟨_,_,_,rfl,r3,r4,rb2.l b3,b03⟩
 ·have hnf:decide (n≤E)=false:=by simp;omega
  obtain rfl:=HN0.out hn
  go_enter func36,ntmps36
  go_wp2_with fail
  go_quiet (fail)
  have bd:=aL b1 nq;have ra:=Rd.l RA.out (aL (Below.refl _ _) nq)
  go_wp2_with fail
  refine(HSD.out _ bd hn).mono ?_;rintro z w2 ⟨v2,rfl,r2,b2⟩;have b02:=aa bd b2;have ra2:=ra.l b2
  go_wp2_with fail
  refine(HIN.out _ _ _ ra2 r2).mono ?_;rintro z w3 ⟨v3,v4,rfl,r3,r4,b3⟩;have b03:=aa b02 b3
  go_wp2
  go_ret3
  exact⟨_,_,_,rfl,r3,r4,r2.l b3,b03⟩
theorem HdI.wider {base base':Nat}{ts:List ak}{lv:Value}{w:World}(h:HdI base ts lv w)(hb:base'≤base):HdI base' ts lv w:=by
 obtain⟨cs,h1,h2⟩:=h;exact⟨cs,Hv h1 hb,h2⟩
theorem row_one {w:World}{q r:Nat}{g:Option Nat}(h:au w q 135 [.int .u32 r])(hg: ∀b,g=some b→b≠q):RowAt w g (.slice (some ⟨q,0,none⟩) 1 1) [r]:=
 ⟨⟨_,1,rfl,Nat.le_refl _,by unfold maxLen;omega,fun _=>⟨q,0,rfl,fun i hi=>by
  obtain rfl:i=0:=by simpa using hi
  exact h.c 0 rfl⟩⟩,fun b hb _ a n c hv=>by
  cases hv
  exact fun e=>hg b hb e.symm⟩
end Go.Proofs.YtddkchlamdhgcaaGreatDoor
