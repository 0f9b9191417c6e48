/-
  Texts laid together: Div1, Ref6, Co7, Co13, Co14, Co18, Gh1, Ce2, Nx2, Ar2, Ar4, Cv12.
-/
import Derived.Test.YtlgkfdcmokchgaaGreatDoorUt04
import Derived.Test.YtlgkfdcmokchgaaGreatDoorUt06
import Derived.Test.YtlgkfdcmokchgaaGreatDoorUt08
import Derived.Test.YtlgkfdcmokchgaaGreatDoorUt09
set_option maxRecDepth 100000
set_option maxHeartbeats 6400000
namespace Go.Proofs.YtlgkfdcmokchgaaGreatDoor
open _root_.Go.Proofs.Tryz
open Go.RowKit
theorem Bz (v:Value)(zs:List Nat)(w:World)(h:Rd w .u32 v zs)(hl:zs.length≤1000000):
  yC 70 #[v] w fun e w'=>e= .returned (.slice (some ⟨w.heap.size,0,none⟩) zs.length zs.length)∧Own w' w.heap.size 54 .u32 (.slice (some ⟨w.heap.size,0,none⟩) zs.length zs.length) zs∧yB w w':=by
 obtain⟨i0,hi,hz0,hz1,hz2⟩:=info_parts Tryz.infoU32;have hsz:(Tryz.prog.info? 54).map (·.size)=some 1:=by rw[hi];simp[hz1]
 obtain⟨ao,ca,rfl⟩:=h.shape
 go_enter func70,ntmps70
 go_wp2_with (at_make;refine wpList_make_full _ rfl _ _ 57 rfl w.heap.size 54 i0 (.int .u32 0) 1 underlying57 hi hz0 hz1 _ _ _ _ zs.length rfl rfl (by omega) (by omega) ?b2 ?b3 (Nat.le_refl _) ?_)
 case b2=>rw[hz2];omega
 case b3=>unfold maxLen;omega
 intro w0 hown0 hgrow0;have own0:=gL hown0;have bel0:yB w w0:=(Below.refl _ _).grown hgrow0 (Nat.le_refl _) (fun k h=>by cases h)
 obtain⟨w1,hrun,own1,gr1⟩:=Nw 57 57 3 underlying57 hsz own0 (h.l bel0) (by simp);have bel1:=bel0.grown gr1 bel0.size (fun k hk=>by cases hk;exact Nat.le_refl _)
 clear hown0 hgrow0 hsz
 go_wp2
 go_ret
 refine⟨rfl, ?_,bel1⟩;have e:zs++(List.replicate zs.length 0).drop zs.length=zs:=by simp
 rw[e] at own1;exact own1
theorem MD (va:Value)(xs:List Nat)(n wh pt P Q:Nat)(w:World)(ha:Rd w .i64 va xs)(sa:Dg.Small 65536 xs)(hla:xs.length≤1000000)(hn:n=16*wh+pt)(hpt:pt<16)(hnl:n≤100000000)(hP:P=2^pt)(hQ:Q=2^ (16-pt)):
  yC 27 #[va,yi n] w (Si w (Dg.vl 65536 xs/2^n)):=by
 have hPQ:P*Q=65536:=by rw[hP,hQ,←Nat.pow_add,show pt+(16-pt)=16 from by omega]
 have hpw:65536^wh*P=2^n:=by rw[hn,hP,Nat.pow_add,Nat.pow_mul]
 have hP0:0<P:=by rw[hP];exact Nat.pow_pos (by omega)
 have hQ0:0<Q:=by rw[hQ];exact Nat.pow_pos (by omega)
 have hPl:P≤65536:=by rw[←hPQ];exact Nat.le_mul_of_pos_right _ hQ0
 have hQl:Q≤65536:=by rw[←hPQ];exact Nat.le_mul_of_pos_left _ hP0
 obtain⟨ao,ca,rfl,-,-,hca⟩:=ha;obtain⟨i0,hi,hz0,hz1,hz2⟩:=info_parts Tryz.infoI64;have hq:(n:Int)/16=(wh:Int):=by omega
 have hr:(n:Int) % 16=(pt:Int):=by omega
 have hwl:wh≤100000000:=by omega
 have HPQ:Hid _:=hPQ;have HPW:Hid _:=hpw;have HP:Hid _:=hP
 by_cases hge:xs.length≤wh
 ·have hz:Dg.vl 65536 xs/2^n=0:=by
   apply Nat.div_eq_of_lt;have h1:=Dg.vl_lt 65536 xs sa;have h2:65536^xs.length≤65536^wh:=Nat.pow_le_pow_right (by omega) hge;have h3:65536^wh≤65536^wh*P:=Nat.le_mul_of_pos_right _ hP0;omega
  rw[hz];clear hz hn hPQ hpw hP hQ
  go_enter func27,ntmps27
  go_wp2
  go_ret
  exact⟨_,rfl,(aQ _ 0 0 _).rd,(fun a n c h=>by cases h),Below.refl _ _⟩
 ·have hdQ:(65536:Int)/(P:Int)=(Q:Int):=by
   have:65536/P=Q:=by rw[←hPQ];exact Nat.mul_div_cancel_left _ hP0
   rw[←this];exact(Int.natCast_ediv 65536 P).symm
  clear hn hPQ hpw hP hQ
  go_enter func27,ntmps27
  go_wp2
  go_loop [5,6] (fun dv iv=> ∃k d:Nat,k≤pt∧iv=yi k∧dv=yi d∧Hid (d=2^k)) (fun _ iv=>pt-(intOf iv).toNat)
  case atStart=>exact⟨0,1,Nat.zero_le _,rfl,rfl,rfl⟩
  case round=>
   obtain⟨k,d,hk,rfl,rfl,hdk⟩:=hrel;have hdl:d≤65536:=by
    rw[hdk.out];have:2^k≤2^15:=Nat.pow_le_pow_right (by omega) (by omega);omega
   by_cases hlt:k<pt
   ·go_wp2
    go_round
    case rel=>exact⟨k+1,2*d,by omega,by go_num,by go_num,by rw[show d=2^k from hdk.out,Nat.pow_succ];exact Nat.mul_comm _ _⟩
    case measure=>simp[intOf];omega
   ·have hke:k=pt:=by omega
    subst hke;have hdP:d=P:=hdk.out.trans HP.out.symm;subst hdP;clear hdk hdl HP
    go_wp2
    go_loopw [7,8] (fun ov iv wr=> ∃j:Nat,wh+j≤xs.length∧iv=yi ((wh+j:Nat):Int)∧Own wr w.heap.size 3 .i64 ov ((low d Q (xs.drop wh)).take j)∧yB w wr) (fun _ iv _=>xs.length-(intOf iv).toNat)
    case atStart=>exact⟨0,by omega,by go_num,aQ _ _ _ _,Below.refl _ _⟩
    case round=>
     obtain⟨j,hj,rfl,own,bel⟩:=hrel
     by_cases hlt2:wh+j<xs.length
     ·obtain⟨b,off,rfl,hcell⟩:=hca (by omega)
      have hx:=cell_later bel (hcell (wh+j) hlt2);have hy:=fun h:wh+j+1<xs.length=>cell_later bel (hcell (wh+j+1) h)
      have hxl:=sa (wh+j);have hyl:=sa (wh+j+1);have hy0: ¬wh+j+1<xs.length→xs.getD (wh+j+1) 0=0:=fun h=>Dg.getD_of_le _ _ (by omega)
      have hsn:=XR d Q (xs.drop wh) j (by simp;omega);rw[ui,ui,←Nat.add_assoc] at hsn;obtain⟨x,ex⟩: ∃x,xs.getD (wh+j) 0=x:=⟨_,rfl⟩;obtain⟨y,ey⟩: ∃y,xs.getD (wh+j+1) 0=y:=⟨_,rfl⟩;obtain⟨es,ees⟩: ∃es,(low d Q (xs.drop wh)).take j=es:=⟨_,rfl⟩;have hel:es.length≤1000000:=by rw[←ees];simp[mA];omega
      rw[ex] at hx hxl hsn;rw[ey] at hy hyl hy0 hsn;rw[ees] at hsn own;have HS:Hid _:=hsn;have hbs:=bel.size;obtain⟨q1,hq1⟩: ∃q1,x/d=q1:=⟨_,rfl⟩;obtain⟨m1,hm1⟩: ∃m1,y % d=m1:=⟨_,rfl⟩;have hq1I:(x:Int)/(d:Int)=(q1:Int):=by rw[←hq1];exact(Int.natCast_ediv x d).symm
      have hm1I:(y:Int) % (d:Int)=(m1:Int):=by rw[←hm1];exact(Int.natCast_emod y d).symm
      have hq1l:q1≤65536:=by rw[←hq1];have:=Nat.div_le_self x d;omega
      have hm1l:m1<d:=by rw[←hm1];exact Nat.mod_lt _ hP0
      rw[hq1,hm1] at HS;have hmQ:m1*Q≤65536*65536:=Nat.mul_le_mul (by omega) hQl;have hmQI:(m1:Int)*(Q:Int)≤4294967296:=by rw[←Int.natCast_mul];omega
      have hmQ0:0≤(m1:Int)*(Q:Int):=by rw[←Int.natCast_mul];omega
      clear ex ey ees hcell hca hsn hq1 hm1 hmQ
      by_cases h2:wh+j+1<xs.length
      ·have hy1:=hy h2
       clear hy hy0;have own2:=fun m=>Own.l own (aL (Below.refl wr.heap.size wr) m)
       go_wp2
       go_quiet (fail)
       go_wp2_with (at_builtin;refine wpList_append_own _ rfl _ _ 27 rfl w.heap.size 3 i0 (yi 0) 1 8 underlying27 hi hz0 hz1 hz2 rfl (by decide) _ _ _ rfl (World.ownsRow.alloc (own2 _) _) ⟨wr.heap.size,0,none⟩ 1 1 [yi ((q1:Int)+(m1:Int)*(Q:Int))] rfl rfl ?c1 ?c2 ?c3 ?c4 ?c5 ?_)
       case c1=>exact cell_one_new _ _ _
       case c2=>intro u hu;simp at hu;subst hu;rfl
       case c3=>unfold maxLen;omega
       case c4=>omega
       case c5=>simp;omega
       intro v' w3 hown' hgrow _;have e0:((q1:Int)+(m1:Int)*(Q:Int))=((q1+m1*Q:Nat):Int):=by rw[Int.natCast_add,Int.natCast_mul]
       rw[e0] at hown' hgrow;have R:=iW (aL bel _) (own2 _) hown' hgrow;clear hown' hgrow own own2 e0
       go_wp2
       go_roundw
       case rel=>exact⟨j+1,by omega,by go_num,by rw[HS.out];exact R.1,R.2⟩
       case measure=>simp[intOf];omega
      ·have hy1:=hy0 h2
       subst hy1;have hm0:m1=0:=by
        have:(m1:Int)=0:=by rw[←hm1I];simp
        omega
       subst hm0;simp only[Nat.zero_mul,Nat.add_zero] at HS;clear hy hy0 hm1I hmQI hmQ0
       go_wp2_with (at_builtin;refine wpList_append_own _ rfl _ _ 27 rfl w.heap.size 3 i0 (yi 0) 1 8 underlying27 hi hz0 hz1 hz2 rfl (by decide) _ _ _ rfl (World.ownsRow.alloc own _) ⟨wr.heap.size,0,none⟩ 1 1 [yi ((q1:Int))] rfl rfl ?d1 ?d2 ?d3 ?d4 ?d5 ?_)
       case d1=>exact cell_one_new _ _ _
       case d2=>intro u hu;simp at hu;subst hu;rfl
       case d3=>unfold maxLen;omega
       case d4=>omega
       case d5=>simp;omega
       intro v' w3 hown' hgrow _;have R:=iW bel own hown' hgrow;clear hown' hgrow own
       go_wp2
       go_roundw
       case rel=>exact⟨j+1,by omega,by go_num,by rw[HS.out];exact R.1,R.2⟩
       case measure=>simp[intOf];omega
     ·have hje:wh+j=xs.length:=by omega
      rw[List.take_of_length_le (by rw[mA];simp;omega)] at own;have hsm:=Ug d Q (xs.drop wh) HPQ.out (fun i=>by rw[ui];exact sa _)
      have hv:Dg.vl 65536 (low d Q (xs.drop wh))=Dg.vl 65536 xs/2^n:=by
       have:=Y8 d Q hP0 (xs.drop wh);rw[HPQ.out] at this;rw[this,aa7 65536 (by omega) xs wh (by omega) sa,Nat.div_div_eq_div_mul,HPW.out]
      have hlw:(low d Q (xs.drop wh)).length≤1000000:=by rw[mA];simp;omega
      obtain⟨ls,hls⟩: ∃ls,low d Q (xs.drop wh)=ls:=⟨_,rfl⟩;rw[hls] at own hsm hv hlw;have HV:Hid _:=hv;clear hls hv;obtain⟨oo,oc,rfl⟩:=own.rd.shape;have hF:=JH own
      go_wp2_with fail
      refine(i9 _ _ _ _ _ own.rd).mono ?_;rintro e w' ⟨m,rfl,hm,rfl⟩;have hml:=hm.1;have HF:Hid (Far w.heap.size (.slice oo m m)):=LP hF m m;clear hF;have hr2:=uE (cap':=m) 65536 (by omega) own.rd hsm hm (Nat.le_refl _) (by unfold maxLen;omega);rw[HV.out] at hr2;clear hm
      go_wp2
      go_ret
      exact⟨_,rfl,hr2,HF.out,bel⟩
def Bg (zs:List Nat):List Nat:=(List.range zs.length).map fun i=>zs.getD (i+1-2*(i % 2)) 0
def jT (k:Nat)(zs:List Nat):List Nat:=if k=3 then zs.reverse else if 6≤k then Bg zs else zs
def wG (k:Nat)(s:ByteArray):List Nat:=jT k (jr s)
def aZ (k:Nat)(s:ByteArray):Bool:=decide (eH (wG k s) 0 1=1)
def aR (k:Nat)(s:ByteArray):Nat:=eH (wG k s) 1 (exN k)
def aU (k:Nat)(s:ByteArray):Nat:=eH (wG k s) (1+exN k) (frN k)
def bM (n:Int)(s:ByteArray):Nat:=if dF n s=0 then dh n.toNat (aZ n.toNat s) (aR n.toNat s) (aU n.toNat s) else 0
def dz (n:Int)(s:ByteArray):Bool:=if dF n s=0 then kt n.toNat (aZ n.toNat s) (aR n.toNat s) (aU n.toNat s) else false
theorem adT (R D L G:Int)(gr s:Bool)(ao:Option Addr)(la ca:Nat)(e sg bl pw K wd:Int)(bs:Bool)(bn:Nat)(be:Int)(un bb hb:Bool)(rd:Nat)(rk:Int)(w:World)
  (hsg:(sg==0)=false) (W1:IntKind.i64.wrap (bl-1)=bl-1) (W2:IntKind.i64.wrap (bl-1+e)=bl-1+e) (W3:IntKind.i64.wrap (wd*K)=wd*K) (W4:IntKind.i64.wrap (e-wd*K)=e-wd*K)
  (hun:un=decide (pw<L)) (hbb:(un&&gr)=bb) (HP1:bb=true→K=L) (HP2:bb=false→K=pw)
  (HH1:hb=true→ ¬K<L∧ ¬G<K∧ ¬be<wd*K) (HH2:hb=false→K<L∨(¬K<L∧G<K)∨(¬K<L∧ ¬G<K∧be<wd*K)) (HR1:hb=true→rk=K) (HR2:hb=false→rd=0∧rk=0)
  (HSG:yH w 159 #[ydV s (.slice ao la ca) e] (yi sg))
  (HDI:yJ 160 #[ydV s (.slice ao la ca) e] (.slice ao la ca))
  (HBI:yH w 89 #[.slice ao la ca] (yi bl))
  (HPW:yJ 116 #[ygV R D L G gr,yi (bl-1+e)] (yi pw))
  (HWD:yJ 119 #[ygV R D L G gr] (yi wd))
  (HBA: ∀w1,yB w w1→yC 161 #[ydV s (.slice ao la ca) e] w1 (jN w1 ⟨bs,bn,be⟩))
  (HSH:hb=true→ ∀w1,yB w w1→yC 91 #[.slice ao la ca,yi (e-wd*K)] w1 (Num w1 rd)):
  yC 125 #[ygV R D L G gr,ydV s (.slice ao la ca) e] w (D7 w hb rd rk):=by
 replace HP1:Hid _:=HP1;replace HP2:Hid _:=HP2;replace HH1:Hid _:=HH1;replace HH2:Hid _:=HH2;replace HR1:Hid _:=HR1;replace HR2:Hid _:=HR2;replace HSG:Hid _:=HSG;replace HDI:Hid _:=HDI;replace HBI:Hid _:=HBI;replace HPW:Hid _:=HPW;replace HWD:Hid _:=HWD;replace HBA:Hid _:=HBA;replace HSH:Hid _:=HSH;have HUN:Hid _:=hun;have HBB:Hid _:=hbb;clear hun hbb;have b1:=aa (aa (af w (.cells (ygA R D L G gr) 145)) (af _ (.cells (ydA s (.slice ao la ca) e) 197))) (af _ (.cells #[yN,yi 0] 153));have g1:=((ah w (ygL R D L G gr) 145).l (af _ (.cells (ydA s (.slice ao la ca) e) 197))).l (af _ (.cells #[yN,yi 0] 153));have q1:=(ah (w.alloc (.cells (ygA R D L G gr) 145)) (ydL s (.slice ao la ca) e) 197).l (af _ (.cells #[yN,yi 0] 153));have c1:=ah ((w.alloc (.cells (ygA R D L G gr) 145)).alloc (.cells (ydA s (.slice ao la ca) e) 197)) [yN,yi 0] 153;simp only[World.size_alloc] at q1 c1;obtain⟨y0,y1,y2⟩:=q1.cs3
 go_enter func125,ntmps125
 go_wp2_with fail
 refine(HSG.out _ b1).mono ?_;rintro z w2 ⟨rfl,bb2⟩;clear y0 y1 y2;have g_2:=g1.l bb2;have q_2:=q1.l bb2;have c_2:=c1.l bb2;have b0_2:=aa b1 bb2;clear g1 q1 c1 b1 bb2;have bd_2:yB w2 w2.drew:=(Below.refl _ _).drew;have g_3:=g_2.l bd_2;have q_3:=q_2.l bd_2;have c_3:=c_2.l bd_2;have b0_3:=aa b0_2 bd_2;clear g_2 q_2 c_2 b0_2 bd_2;obtain⟨x0,x1,x2,x3,x4⟩:=g_3.cs5;obtain⟨y0,y1,y2⟩:=q_3.cs3
 go_wp2_with fail
 go_region_held3 (fun wq=>(wq.cell? ⟨w.heap.size,0,none⟩=some (yi R)∧wq.cell? ⟨w.heap.size,1,none⟩=some (yi D)∧wq.cell? ⟨w.heap.size,2,none⟩=some (yi L)∧wq.cell? ⟨w.heap.size,3,none⟩=some (yi G)∧wq.cell? ⟨w.heap.size,4,none⟩=some (.bool gr))∧wq.cell? ⟨w.heap.size+1,0,none⟩=some (.bool s)∧wq.cell? ⟨w.heap.size+1,1,none⟩=some (.slice ao la ca)∧wq.cell? ⟨w.heap.size+1,2,none⟩=some (yi e)) (go_keep) (first
  | (go_at_call 160;have hgd:=b0_3;clear hgd;refine(HDI.out _).mono ?_;rintro z wa ⟨rfl,bb_wa⟩;have b0_wa:=aa b0_3 bb_wa;have g_wa:=g_3.l bb_wa;have q_wa:=q_3.l bb_wa;have c_wa:=c_3.l bb_wa;obtain⟨xwa0,xwa1,xwa2,xwa3,xwa4⟩:=g_wa.cs5;obtain⟨ywa0,ywa1,ywa2⟩:=q_wa.cs3;clear b0_3)
  | (go_at_call 89;have hgd:=b0_wa;clear hgd;refine(HBI.out _ b0_wa).mono ?_;rintro z wb ⟨rfl,bb_wb⟩;have b0_wb:=aa b0_wa bb_wb;have g_wb:=g_wa.l bb_wb;have q_wb:=q_wa.l bb_wb;have c_wb:=c_wa.l bb_wb;obtain⟨xwb0,xwb1,xwb2,xwb3,xwb4⟩:=g_wb.cs5;obtain⟨ywb0,ywb1,ywb2⟩:=q_wb.cs3;clear b0_wa)
  | (go_at_call 116;have hgd:=b0_wb;clear hgd;refine(HPW.out _).mono ?_;rintro z wc ⟨rfl,bb_wc⟩;have b0_wc:=aa b0_wb bb_wc;have g_wc:=g_wb.l bb_wc;have q_wc:=q_wb.l bb_wc;have c_wc:=c_wb.l bb_wc;obtain⟨xwc0,xwc1,xwc2,xwc3,xwc4⟩:=g_wc.cs5;obtain⟨ywc0,ywc1,ywc2⟩:=q_wc.cs3;clear b0_wb))
 go_goals
 clear x0 x1 x2 x3 x4 y0 y1 y2 xwa0 xwa1 xwa2 xwa3 xwa4 xwb0 xwb1 xwb2 xwb3 xwb4 xwc0 xwc1 xwc2 xwc3 xwc4 ywa0 ywa1 ywa2 ywb0 ywb1 ywb2 ywc0 ywc1 ywc2;have x2:=g_wc.c 2 rfl;have x4:=g_wc.c 4 rfl;have hlt:decide (pw<L)=un:=HUN.out.symm
 go_upto_region 4 with fail
 skip
 go_cut [34] (fun s34 wx=>s34= .bool bb∧wx=wc)
 case first=>
  cases un
  ·go_wp2_with fail
   go_meet
   exact⟨by rw[←HBB.out];rfl,rfl⟩
  ·go_wp2_with fail
   go_meet
   exact⟨by rw[←HBB.out];rfl,rfl⟩
 case rest=>
  obtain⟨rfl,hw34⟩:=hcut;subst hw34
  go_upto_if 34 with fail
  go_cut [6] (fun s6 wx=>s6=yi K∧wx=wc)
  case first=>
   cases bb
   ·have eK:Hid (K=pw):=HP2.out rfl
    go_wp2_with fail
    go_meet
    exact⟨by rw[eK.out],rfl⟩
   ·have eK:Hid (K=L):=HP1.out rfl
    go_wp2_with fail
    go_meet
    exact⟨by rw[eK.out],rfl⟩
  case rest=>
   obtain⟨rfl,hw6⟩:=hcut;subst hw6;clear x2 x4 hlt HP1 HP2;obtain⟨x0,x1,x2,x3,x4⟩:=g_wc.cs5
   go_wp2_with fail
   refine(HWD.out _).mono ?_;rintro z w5 ⟨rfl,bb5⟩;clear x0 x1 x2 x3 x4;have g_11:=g_wc.l bb5;have q_11:=q_wc.l bb5;have c_11:=c_wc.l bb5;have b0_11:=aa b0_wc bb5;clear g_wc q_wc c_wc b0_wc bb5;obtain⟨x0,x1,x2,x3,x4⟩:=g_11.cs5;obtain⟨y0,y1,y2⟩:=q_11.cs3
   cases hb
   ·obtain⟨rfl,rfl⟩:=HR2.out rfl
    have hx:=HH2.out rfl;clear HH1 HH2 HR1 HR2 HSH
    rcases hx with hx| ⟨hx1,hx⟩| ⟨hx1,hx2,hx⟩
    ·skip
     have d0:=c_11.c 0 rfl;have f0:=c_11.f 0;have d1:=c_11.c 1 rfl;have f1:=c_11.f 1
     go_wp2
     have bu:But (w.heap.size+1+1) w5 ((w5.setCell ⟨w.heap.size+1+1,0,none⟩ yN).setCell ⟨w.heap.size+1+1,1,none⟩ (yi 0)):=(ag w5 (w.heap.size+1+1) 0 yN).trans (ag _ (w.heap.size+1+1) 1 (yi 0));have cX:au ((w5.setCell ⟨w.heap.size+1+1,0,none⟩ yN).setCell ⟨w.heap.size+1+1,1,none⟩ (yi 0)) (w.heap.size+1+1) 153 [yN,yi 0]:=(c_11.set 0 yN).set 1 (yi 0);have bX:=bu.below b0_11 (show w.heap.size≤w.heap.size+1+1 by omega)
     obtain⟨s0,s1⟩:=cX.cs2;refine bodyPost_ret (v:= .tuple #[.agg #[yN,yi 0],.bool false]) (by simp[results,results125,go_sem,s0,s1]) rfl ?_;exact⟨_,rfl,aQ _ _ _ _,bX⟩
    ·have e1:decide (K<L)=false:=decide_eq_false (by omega)
     have d0:=c_11.c 0 rfl;have f0:=c_11.f 0;have d1:=c_11.c 1 rfl;have f1:=c_11.f 1
     go_wp2
     have bu:But (w.heap.size+1+1) w5 ((w5.setCell ⟨w.heap.size+1+1,0,none⟩ yN).setCell ⟨w.heap.size+1+1,1,none⟩ (yi 0)):=(ag w5 (w.heap.size+1+1) 0 yN).trans (ag _ (w.heap.size+1+1) 1 (yi 0));have cX:au ((w5.setCell ⟨w.heap.size+1+1,0,none⟩ yN).setCell ⟨w.heap.size+1+1,1,none⟩ (yi 0)) (w.heap.size+1+1) 153 [yN,yi 0]:=(c_11.set 0 yN).set 1 (yi 0);have bX:=bu.below b0_11 (show w.heap.size≤w.heap.size+1+1 by omega)
     obtain⟨s0,s1⟩:=cX.cs2;refine bodyPost_ret (v:= .tuple #[.agg #[yN,yi 0],.bool false]) (by simp[results,results125,go_sem,s0,s1]) rfl ?_;exact⟨_,rfl,aQ _ _ _ _,bX⟩
    ·have e1:decide (K<L)=false:=decide_eq_false (by omega)
     have e2:decide (G<K)=false:=decide_eq_false (by omega)
     go_wp2_with fail
     refine(HBA.out _ b0_11).mono ?_;rintro z w6 ⟨vb,rfl,ob6,bb6⟩;obtain⟨vo6,vc6,hvb6⟩:=ob6.rd.shape;subst hvb6;clear ob6;have hfd:=fun W=>G0 bs vo6 (Dg.dg 4294967296 bn).length vc6 be W
     have hfe:=fun W=>Ju bs vo6 (Dg.dg 4294967296 bn).length vc6 be W
     clear x0 x1 x2 x3 x4 y0 y1 y2;have g_12:=g_11.l bb6;have q_12:=q_11.l bb6;have c_12:=c_11.l bb6;have b0_12:=aa b0_11 bb6;clear g_11 q_11 c_11 b0_11 bb6;have d0:=c_12.c 0 rfl;have f0:=c_12.f 0;have d1:=c_12.c 1 rfl;have f1:=c_12.f 1
     go_wp2
     have bu:But (w.heap.size+1+1) w6 ((w6.setCell ⟨w.heap.size+1+1,0,none⟩ yN).setCell ⟨w.heap.size+1+1,1,none⟩ (yi 0)):=(ag w6 (w.heap.size+1+1) 0 yN).trans (ag _ (w.heap.size+1+1) 1 (yi 0));have cX:au ((w6.setCell ⟨w.heap.size+1+1,0,none⟩ yN).setCell ⟨w.heap.size+1+1,1,none⟩ (yi 0)) (w.heap.size+1+1) 153 [yN,yi 0]:=(c_12.set 0 yN).set 1 (yi 0);have bX:=bu.below b0_12 (show w.heap.size≤w.heap.size+1+1 by omega)
     obtain⟨s0,s1⟩:=cX.cs2;refine bodyPost_ret (v:= .tuple #[.agg #[yN,yi 0],.bool false]) (by simp[results,results125,go_sem,s0,s1]) rfl ?_;exact⟨_,rfl,aQ _ _ _ _,bX⟩
   ·obtain⟨h1,h2,h3⟩:=HH1.out rfl
    have hrk:=HR1.out rfl;have HS1:Hid _:=HSH.out rfl;clear HH1 HH2 HR1 HR2 HSH;subst hrk;have e1:decide (rk<L)=false:=decide_eq_false (by omega);have e2:decide (G<rk)=false:=decide_eq_false (by omega);have e3:decide (be<wd*rk)=false:=decide_eq_false (by omega)
    go_wp2_with fail
    refine(HBA.out _ b0_11).mono ?_;rintro z w6 ⟨vb,rfl,ob6,bb6⟩;obtain⟨vo6,vc6,hvb6⟩:=ob6.rd.shape;subst hvb6;clear ob6;have hfd:=fun W=>G0 bs vo6 (Dg.dg 4294967296 bn).length vc6 be W
    have hfe:=fun W=>Ju bs vo6 (Dg.dg 4294967296 bn).length vc6 be W
    clear x0 x1 x2 x3 x4 y0 y1 y2;have g_12:=g_11.l bb6;have q_12:=q_11.l bb6;have c_12:=c_11.l bb6;have b0_12:=aa b0_11 bb6;clear g_11 q_11 c_11 b0_11 bb6;have bd_12:yB w6 w6.drew:=(Below.refl _ _).drew;have g_13:=g_12.l bd_12;have q_13:=q_12.l bd_12;have c_13:=c_12.l bd_12;have b0_13:=aa b0_12 bd_12;clear g_12 q_12 c_12 b0_12 bd_12;obtain⟨y0,y1,y2⟩:=q_13.cs3;have nA:w.heap.size+1+1≠w.heap.size+1:=by omega
    go_wp2_with fail
    go_region_held3 (fun wq=>wq.cell? ⟨w.heap.size+1,0,none⟩=some (.bool s)∧wq.cell? ⟨w.heap.size+1,1,none⟩=some (.slice ao la ca)∧wq.cell? ⟨w.heap.size+1,2,none⟩=some (yi e)) (go_keep) (first
     | (go_at_call 160;have hgd:=b0_13;clear hgd;refine(HDI.out _).mono ?_;rintro z wf ⟨rfl,bb_wf⟩;have b0_wf:=aa b0_13 bb_wf;have g_wf:=g_13.l bb_wf;have q_wf:=q_13.l bb_wf;have c_wf:=c_13.l bb_wf;obtain⟨ywf0,ywf1,ywf2⟩:=q_wf.cs3;clear b0_13)
     | (go_at_call 91;have hgd:=b0_wf;clear hgd;refine(HS1.out _ b0_wf).mono ?_;rintro z wg ⟨vs,rfl,os,bb_wg⟩;have b0_wg:=aa b0_wf bb_wg;have g_wg:=g_wf.l bb_wg;have q_wg:=q_wf.l bb_wg;have c_wg:=c_wf.l bb_wg;obtain⟨ywg0,ywg1,ywg2⟩:=q_wg.cs3;obtain⟨so,sc,hvs⟩:=os.rd.shape;subst hvs;obtain⟨d0,d1⟩:=c_wg.cs2;have f0:=c_wg.f 0;have f1:=c_wg.f 1;have oL:=os.lower b0_wf.size;clear b0_wf))
    go_goals
    clear d0 d1 f0 f1;have d0:=c_wg.c 0 rfl;have f0:=c_wg.f 0;have d1:=c_wg.c 1 rfl;have f1:=c_wg.f 1
    go_wp2
    have bu:But (w.heap.size+1+1) wg ((wg.setCell ⟨w.heap.size+1+1,0,none⟩ (yT so rd sc)).setCell ⟨w.heap.size+1+1,1,none⟩ (yi rk)):=(ag wg (w.heap.size+1+1) 0 (yT so rd sc)).trans (ag _ (w.heap.size+1+1) 1 (yi rk));have cX:au ((wg.setCell ⟨w.heap.size+1+1,0,none⟩ (yT so rd sc)).setCell ⟨w.heap.size+1+1,1,none⟩ (yi rk)) (w.heap.size+1+1) 153 [yT so rd sc,yi rk]:=(c_wg.set 0 (yT so rd sc)).set 1 (yi rk);have bX:=bu.below b0_wg (show w.heap.size≤w.heap.size+1+1 by omega)
    have oX:=bu.own oL c_wg (by decide);obtain⟨s0,s1⟩:=cX.cs2;refine bodyPost_ret (v:= .tuple #[.agg #[yT so rd sc,yi rk],.bool true]) (by simp[results,results125,go_sem,s0,s1]) rfl ?_;exact⟨_,rfl,oX,bX⟩
theorem jp.block {w:World}{base g n cap:Nat}{bs:List Bool}(h:jp w base (.slice (some ⟨g,0,none⟩) n cap) bs)(hn:n=bs.length):base≤g∧g<w.heap.size:=by
 subst hn;exact World.ownsRow.lt h g rfl
theorem jp.c {w:World}{base g n cap:Nat}{bs:List Bool}(h:jp w base (.slice (some ⟨g,0,none⟩) n cap) bs)(hn:n=bs.length)(j:Nat)(hj:j<bs.length):w.cell? ⟨g,j,none⟩=some (.bool (bs.getD j false)):=by
 subst hn;have hc:=World.ownsRow.cellAt h j (by omega);rw[hc,List.getElem?_map,List.getElem?_eq_getElem hj];simp[List.getD_eq_getElem?_getD,hj]
def nxT (k:Nat)(s:ByteArray):ak:=ji k (aZ k s) (aR k s) (aU k s)
def opT (n:Int)(p:ByteArray):ak:=if dF n p=0 then nxT n.toNat p else⟨false,0,0⟩
def opC (n : Int) (p : ByteArray) (v : Value) : List Value := [.int .i64 ((bM n p : Nat) : Int), .bool (dz n p), .bool (opT n p).s, v, .int .i64 (opT n p).e]
def F7 (w:World)(n:Int)(g:Option Nat)(p:ByteArray)(v:Value):Prop:=
 (∃so sc,v= .slice so (Dg.dg 4294967296 (opT n p).n).length sc)∧Rd w .u32 v (Dg.dg 4294967296 (opT n p).n)∧ ∀b,g=some b→wF b v (Dg.dg 4294967296 (opT n p).n)
def sV (w:World)(n:Int)(g:Option Nat):List ByteArray→List Value→Prop
 | [],cs=>cs=[]
 |p::ps,cs=> ∃v rest,cs=opC n p v++rest∧F7 w n g p v∧sV w n g ps rest
theorem sV.mono {w w':World}{n:Int}{g g':Option Nat}(h: ∀p v,F7 w n g p v→F7 w' n g' p v): ∀{ps:List ByteArray} {cs:List Value},sV w n g ps cs→sV w' n g' ps cs
 | [],_,hc=>hc
 |p::_,_,hc=>by
  obtain⟨v,rest,h1,h2,h3⟩:=hc;exact⟨v,rest,h1,h p v h2,sV.mono h h3⟩
theorem F7.l {w w':World}{n:Int}{g:Option Nat}{p:ByteArray}{v:Value}(h:F7 w n g p v)(hb:yB w w'):F7 w' n g p v:=⟨h.1,h.2.1.l hb,h.2.2⟩
structure sF (w:World) (n:Int) (ps:List ByteArray) (g cap:Nat):Prop where
 fit:ps.length≤cap
 most:cap≤maxLen
 each: ∀(i:Nat) p,ps[i]? =some p→ ∃so sc,w.rangeAt g (i*5) (opC n p (.slice so (Dg.dg 4294967296 (opT n p).n).length sc))∧Rd w .u32 (.slice so (Dg.dg 4294967296 (opT n p).n).length sc) (Dg.dg 4294967296 (opT n p).n)
theorem sF.l {w w':World}{n:Int}{ps:List ByteArray}{g cap:Nat}(h:sF w n ps g cap)(hb:yB w w'):sF w' n ps g cap:=
 ⟨h.fit,h.most,fun i p hp=>by
  obtain⟨so,sc,h1,h2⟩:=h.each i p hp;exact⟨so,sc,aC h1 hb,h2.l hb⟩⟩
theorem toInt_num2 (c n wy p pp r r1 f1:Int)(g ps ov un ex ok:Bool)(m P:Nat)(t:ak)(s:ByteArray)(w:World)(h1:(c != 1)=true)(h2:(c != 2)=false)(hr1:r1=if ok=true then r else 0)(hf1:f1=if ok=true then(if ex=true then 0 else 1) else 16)
  (HQ: ∀w1,yB w w1→yC 38 #[yi n,.string s,yi wy] w1 (CRes w1 c g m p t 0))
  (HT: ∀xo xc w1,yC 40 #[yDV t xo xc] w1 fun z w'=> ∃eo ec,z= .returned (yrV t.s (yT xo t.n xc) (.slice eo 1 ec) t.e)∧Rd w' .u32 (.slice eo 1 ec) [1]∧yB w1 w')
  (HG: ∀xo xc eo ec w1,yB w w1→Rd w1 .u32 (yT xo t.n xc) (Dg.dg 4294967296 t.n)→Rd w1 .u32 (.slice eo 1 ec) [1]→yC 39 #[yrV t.s (yT xo t.n xc) (.slice eo 1 ec) t.e,ygV 2 64 0 0 true,yi wy] w1 fun z w'=> ∃po pc,z= .returned (.tuple #[ypV ps (yT po P pc) pp ex ov un,yi 0])∧Rd w' .u32 (yT po P pc) (Dg.dg 4294967296 P)∧yB w1 w')
  (HH: ∀po pc w1,yB w w1→Rd w1 .u32 (yT po P pc) (Dg.dg 4294967296 P)→yC 41 #[ypV ps (yT po P pc) pp ex ov un] w1 (yR w1 (.tuple #[yi r,.bool ok]))):
  yC 15 #[yi n,.string s,yi wy] w (yR w (.tuple #[yi r1,yi f1,yi 0])):=by
 replace HQ:Hid _:=HQ;replace HT:Hid _:=HT;replace HG:Hid _:=HG;replace HH:Hid _:=HH;replace hr1:Hid _:=hr1;replace hf1:Hid _:=hf1
 go_enter func15,ntmps15
 have b0:=Below.refl w.heap.size w
 go_wp2_with fail
 refine(HQ.out _ b0).mono ?_;rintro zz w1 ⟨v1x3,v2x4,rfl,r1x5,r2x6,bb2⟩;have b7:=aa b0 bb2;obtain⟨vo,vc,hv⟩:=r1x5.shape;subst hv;obtain⟨xo,xc,hv⟩:=r2x6.shape;subst hv;clear b0 bb2 HQ;obtain⟨W10,hW9,q11,q12,al8⟩:=iG w1 (yvL c g (yT vo m vc) p) 48 (yDL t xo xc) 78;replace hW9:Hid _:=hW9;have hl13:w.heap.size≤w1.heap.size:=b7.size;have r14:=r2x6.l al8;have b15:=aa b7 al8;clear r1x5 r2x6 b7 al8
 go_upto_region 2 with fail
 rw[hW9.out];clear hW9;obtain⟨W18,hW17,q19,al16⟩:=cA W10 (ygL 2 64 0 0 true) 82;replace hW17:Hid _:=hW17;have hl20:w.heap.size≤W10.heap.size:=b15.size;have hl21:=q12.lt;have c22:=q11.c 0 rfl;have q23:=q12.l al16;have r24:=r14.l al16;have b25:=aa b15 al16;clear q11 q12 r14 b15 al16
 go_upto_region 7 with fail
 rw[hW17.out];clear c22 hW17
 go_upto_region 7 with fail
 have bW26:yB W18 W18.drew:=(Below.refl _ _).drew;have q27:=q23.l bW26;have q28:=q19.l bW26;have r29:=r24.l bW26;have b30:=aa b25 bW26;clear q23 q19 r24 b25 bW26;refine wp_region_held_drew (S:=fun wq=>au wq (w1.heap.size+1) 78 (yDL t xo xc)∧au wq W10.heap.size 82 (ygL 2 64 0 0 true)) (by kernel_rfl) ⟨q27,q28⟩ (fun hS0=> ?_)
 generalize W18.drew=WD31 at q27 q28 r29 b30 hS0⊢;refine tq 0 (yDV t xo xc) rfl (fun _ hw0=>fy 78 (.tmp 10) rfl (w1.heap.size+1) 0 (by kernel_rfl) _ _ hw0.1.range underlying78 rfl (by kernel_rfl)) hS0 ?_
 refine tq 2 (ygV 2 64 0 0 true) rfl (fun _ hw0=>fy 82 (.tmp 12) rfl W10.heap.size 0 (by kernel_rfl) _ _ hw0.2.range underlying82 rfl (by kernel_rfl)) hS0 ?_
 refine tq 3 (yi wy) rfl (fun _ _=>by kernel_rfl) hS0 ?_
 refine wpAnyH_ready (rs:=[1,8]) (by kernel_rfl) (by simp) ?_;refine AllReadyH.cons rfl (fun K hK=> ?_) (AllReadyH.cons rfl (fun K hK=> ?_) AllReadyH.nil)
 ·go_simp
  refine(HT.out _ _ _).mono ?_;rintro zz w32 ⟨eo,ec,rfl,r1x34,bb33⟩;have q35:=q27.l bb33;have q36:=q28.l bb33;have r37:=r29.l bb33;have b38:=aa b30 bb33;clear q27 q28 r29 b30 bb33 HT;refine hK.out _ _ ⟨q35,q36⟩ (fun hS39=> ?_)
  clear hK K;refine wpAnyH_ready (rs:=[4,8]) (by kernel_rfl) (by simp) ?_;refine AllReadyH.cons rfl (fun K hK=> ?_) (AllReadyH.cons rfl (fun K hK=> ?_) AllReadyH.nil)
  ·go_simp
   refine(HG.out _ _ _ _ _ b38 r37 r1x34).mono ?_;rintro zz w40 ⟨po,pc,rfl,r1x42,bb41⟩;have q43:=q35.l bb41;have q44:=q36.l bb41;have b45:=aa b38 bb41;clear q35 q36 r37 r1x34 b38 bb41 HG;refine hK.out _ _ ⟨q43,q44⟩ (fun hS46=> ?_)
   clear hK K;refine tq 5 (.tuple #[ypV ps (yT po P pc) pp ex ov un,yi 0]) rfl (fun _ _=>by kernel_rfl) hS46 ?_
   refine tq 6 (ypV ps (yT po P pc) pp ex ov un) rfl (fun _ _=>by go_simp) hS46 ?_
   refine tq 7 (yi 0) rfl (fun _ _=>by go_simp) hS46 ?_
   refine wpAnyH_ready (rs:=[8]) (by kernel_rfl) (by simp) ?_;refine AllReadyH.cons rfl (fun K hK=> ?_) AllReadyH.nil
   go_simp
   have al47:=af w40 (.cells (ypA false yN 0 false false false) 84);have q48:=ah w40 (ypL false yN 0 false false false) 84;have hl51:w.heap.size≤w40.heap.size:=b45.size;have hl52:=q43.lt;have hl53:=q44.lt;have q54:=q43.l al47;have q55:=q44.l al47;have r56:=r1x42.l al47;have b57:=aa b45 al47;refine hK.out _ _ ⟨q54,q55⟩ (fun hS58=> ?_)
   clear hK K;clear q43 q44 r1x42 b45 al47;generalize w40.alloc (.cells (ypA false yN 0 false false false) 84)=WN49 at q54 q55 q48 r56 b57 hS58⊢;generalize w40.heap.size=PQ50 at q48 hl51 hl52 hl53⊢;refine wpAnyH_ready (rs:=[9]) (by kernel_rfl) (by simp) ?_;refine AllReadyH.cons rfl (fun K hK=> ?_) AllReadyH.nil
   have bu:But PQ50 WN49 (WN49.setCells PQ50 0 (ypL ps (yT po P pc) pp ex ov un)):=de _ _ _ _;have hth:WN49.there PQ50 0 6:=dD q48;have q59:au (WN49.setCells PQ50 0 (ypL ps (yT po P pc) pp ex ov un)) PQ50 84 (ypL ps (yT po P pc) pp ex ov un):=q48.sets _ rfl;have r60:=bu.rd r56 (aX r56 q48 (by simp));have q61:=bu.loc q54 (by omega);have q62:=bu.loc q55 (by omega);have b63:=bu.below b57 (by omega);rw[if_pos (by kernel_rfl)];refine wp_store_mid 84 (.tmp 13) (.tmp 42) rfl PQ50 0 (ypA ps (yT po P pc) pp ex ov un) (by kernel_rfl) (by kernel_rfl) hth (by kernel_rfl) (by simp[Value.oneCell']) ?_;refine hK.out _ _ ⟨q61,q62⟩ (fun hS64=> ?_)
   clear hK K;clear q48 r56 q54 q55 b57 bu hth;refine tq 10 (yi 0) rfl (fun _ _=>by kernel_rfl) hS64 ?_
   refine wpAnyH_done (by kernel_rfl) ?_ _;clear hS0 hS39 hS46 hS58 hS64;change Exit.then _ _ _ _ (World.setCells WN49 PQ50 0 (ypL ps (yT po P pc) pp ex ov un));generalize World.setCells WN49 PQ50 0 (ypL ps (yT po P pc) pp ex ov un)=W65 at q61 q62 q59 r60 b63⊢;simp only[Act.put,List.getElem_toArray,List.getElem_cons_succ,List.getElem_cons_zero,List.setIfInBounds_toArray,List.set_cons_zero,List.set_cons_succ];obtain⟨c66,c67,c68,c69,c70,c71⟩:=q59.cs6
   go_wp2_with fail
   refine(HH.out _ _ _ b63 r60).mono ?_;rintro zz w72 ⟨rfl,bb73⟩;have q74:=q59.l bb73;have b75:=aa b63 bb73;clear q61 q62 q59 r60 b63 bb73 HH c66 c67 c68 c69 c70 c71;obtain⟨d0,d1,d2,d3,d4,d5⟩:=q74.cs6;have bf:=b75;clear b75;replace hr1:=hr1.out;replace hf1:=hf1.out
   cases ok
   all_goals cases ex
   all_goals simp at hr1 hf1
   all_goals subst hr1 hf1
   all_goals
    go_wp2
    go_ret3
    exact⟨by simp,bf⟩
  ·go_simp
   have al40:=af w32 (.cells (ypA false yN 0 false false false) 84);have q41:=ah w32 (ypL false yN 0 false false false) 84;have hl44:w.heap.size≤w32.heap.size:=b38.size;have hl45:=q35.lt;have hl46:=q36.lt;have q47:=q35.l al40;have q48:=q36.l al40;have r49:=r37.l al40;have r50:=r1x34.l al40;have b51:=aa b38 al40;refine hK.out _ _ ⟨q47,q48⟩ (fun hS52=> ?_)
   clear hK K;clear q35 q36 r37 r1x34 b38 al40;generalize w32.alloc (.cells (ypA false yN 0 false false false) 84)=WN42 at q47 q48 q41 r49 r50 b51 hS52⊢;generalize w32.heap.size=PQ43 at q41 hl44 hl45 hl46⊢;refine wpAnyH_ready (rs:=[4]) (by kernel_rfl) (by simp) ?_;refine AllReadyH.cons rfl (fun K hK=> ?_) AllReadyH.nil
   go_simp
   refine(HG.out _ _ _ _ _ b51 r49 r50).mono ?_;rintro zz w53 ⟨po,pc,rfl,r1x55,bb54⟩;have q56:=q47.l bb54;have q57:=q48.l bb54;have q58:=q41.l bb54;have b59:=aa b51 bb54;clear q47 q48 q41 r49 r50 b51 bb54 HG;refine hK.out _ _ ⟨q56,q57⟩ (fun hS60=> ?_)
   clear hK K;refine tq 5 (.tuple #[ypV ps (yT po P pc) pp ex ov un,yi 0]) rfl (fun _ _=>by kernel_rfl) hS60 ?_
   refine tq 6 (ypV ps (yT po P pc) pp ex ov un) rfl (fun _ _=>by go_simp) hS60 ?_
   refine tq 7 (yi 0) rfl (fun _ _=>by go_simp) hS60 ?_
   refine wpAnyH_ready (rs:=[9]) (by kernel_rfl) (by simp) ?_;refine AllReadyH.cons rfl (fun K hK=> ?_) AllReadyH.nil
   have bu:But PQ43 w53 (w53.setCells PQ43 0 (ypL ps (yT po P pc) pp ex ov un)):=de _ _ _ _;have hth:w53.there PQ43 0 6:=dD q58;have q61:au (w53.setCells PQ43 0 (ypL ps (yT po P pc) pp ex ov un)) PQ43 84 (ypL ps (yT po P pc) pp ex ov un):=q58.sets _ rfl;have r62:=bu.rd r1x55 (aX r1x55 q58 (by simp));have q63:=bu.loc q56 (by omega);have q64:=bu.loc q57 (by omega);have b65:=bu.below b59 (by omega);rw[if_pos (by kernel_rfl)];refine wp_store_mid 84 (.tmp 13) (.tmp 42) rfl PQ43 0 (ypA ps (yT po P pc) pp ex ov un) (by kernel_rfl) (by kernel_rfl) hth (by kernel_rfl) (by simp[Value.oneCell']) ?_;refine hK.out _ _ ⟨q63,q64⟩ (fun hS66=> ?_)
   clear hK K;clear q58 r1x55 q56 q57 b59 bu hth;refine tq 10 (yi 0) rfl (fun _ _=>by kernel_rfl) hS66 ?_
   refine wpAnyH_done (by kernel_rfl) ?_ _;clear hS0 hS39 hS52 hS60 hS66;change Exit.then _ _ _ _ (World.setCells w53 PQ43 0 (ypL ps (yT po P pc) pp ex ov un));generalize World.setCells w53 PQ43 0 (ypL ps (yT po P pc) pp ex ov un)=W67 at q63 q64 q61 r62 b65⊢;simp only[Act.put,List.getElem_toArray,List.getElem_cons_succ,List.getElem_cons_zero,List.setIfInBounds_toArray,List.set_cons_zero,List.set_cons_succ];obtain⟨c68,c69,c70,c71,c72,c73⟩:=q61.cs6
   go_wp2_with fail
   refine(HH.out _ _ _ b65 r62).mono ?_;rintro zz w74 ⟨rfl,bb75⟩;have q76:=q61.l bb75;have b77:=aa b65 bb75;clear q63 q64 q61 r62 b65 bb75 HH c68 c69 c70 c71 c72 c73;obtain⟨d0,d1,d2,d3,d4,d5⟩:=q76.cs6;have bf:=b77;clear b77;replace hr1:=hr1.out;replace hf1:=hf1.out
   cases ok
   all_goals cases ex
   all_goals simp at hr1 hf1
   all_goals subst hr1 hf1
   all_goals
    go_wp2
    go_ret3
    exact⟨by simp,bf⟩
 ·go_simp
  have al32:=af WD31 (.cells (ypA false yN 0 false false false) 84);have q33:=ah WD31 (ypL false yN 0 false false false) 84;have hl36:w.heap.size≤WD31.heap.size:=b30.size;have hl37:=q27.lt;have hl38:=q28.lt;have q39:=q27.l al32;have q40:=q28.l al32;have r41:=r29.l al32;have b42:=aa b30 al32;refine hK.out _ _ ⟨q39,q40⟩ (fun hS43=> ?_)
  clear hK K;clear q27 q28 r29 b30 al32;generalize WD31.alloc (.cells (ypA false yN 0 false false false) 84)=WN34 at q39 q40 q33 r41 b42 hS43⊢;generalize WD31.heap.size=PQ35 at q33 hl36 hl37 hl38⊢;refine wpAnyH_ready (rs:=[1]) (by kernel_rfl) (by simp) ?_;refine AllReadyH.cons rfl (fun K hK=> ?_) AllReadyH.nil
  go_simp
  refine(HT.out _ _ _).mono ?_;rintro zz w44 ⟨eo,ec,rfl,r1x46,bb45⟩;have q47:=q39.l bb45;have q48:=q40.l bb45;have q49:=q33.l bb45;have r50:=r41.l bb45;have b51:=aa b42 bb45;clear q39 q40 q33 r41 b42 bb45 HT;refine hK.out _ _ ⟨q47,q48⟩ (fun hS52=> ?_)
  clear hK K;refine wpAnyH_ready (rs:=[4]) (by kernel_rfl) (by simp) ?_;refine AllReadyH.cons rfl (fun K hK=> ?_) AllReadyH.nil
  go_simp
  refine(HG.out _ _ _ _ _ b51 r50 r1x46).mono ?_;rintro zz w53 ⟨po,pc,rfl,r1x55,bb54⟩;have q56:=q47.l bb54;have q57:=q48.l bb54;have q58:=q49.l bb54;have b59:=aa b51 bb54;clear q47 q48 q49 r50 r1x46 b51 bb54 HG;refine hK.out _ _ ⟨q56,q57⟩ (fun hS60=> ?_)
  clear hK K;refine tq 5 (.tuple #[ypV ps (yT po P pc) pp ex ov un,yi 0]) rfl (fun _ _=>by kernel_rfl) hS60 ?_
  refine tq 6 (ypV ps (yT po P pc) pp ex ov un) rfl (fun _ _=>by go_simp) hS60 ?_
  refine tq 7 (yi 0) rfl (fun _ _=>by go_simp) hS60 ?_
  refine wpAnyH_ready (rs:=[9]) (by kernel_rfl) (by simp) ?_;refine AllReadyH.cons rfl (fun K hK=> ?_) AllReadyH.nil
  have bu:But PQ35 w53 (w53.setCells PQ35 0 (ypL ps (yT po P pc) pp ex ov un)):=de _ _ _ _;have hth:w53.there PQ35 0 6:=dD q58;have q61:au (w53.setCells PQ35 0 (ypL ps (yT po P pc) pp ex ov un)) PQ35 84 (ypL ps (yT po P pc) pp ex ov un):=q58.sets _ rfl;have r62:=bu.rd r1x55 (aX r1x55 q58 (by simp));have q63:=bu.loc q56 (by omega);have q64:=bu.loc q57 (by omega);have b65:=bu.below b59 (by omega);rw[if_pos (by kernel_rfl)];refine wp_store_mid 84 (.tmp 13) (.tmp 42) rfl PQ35 0 (ypA ps (yT po P pc) pp ex ov un) (by kernel_rfl) (by kernel_rfl) hth (by kernel_rfl) (by simp[Value.oneCell']) ?_;refine hK.out _ _ ⟨q63,q64⟩ (fun hS66=> ?_)
  clear hK K;clear q58 r1x55 q56 q57 b59 bu hth;refine tq 10 (yi 0) rfl (fun _ _=>by kernel_rfl) hS66 ?_
  refine wpAnyH_done (by kernel_rfl) ?_ _;clear hS0 hS43 hS52 hS60 hS66;change Exit.then _ _ _ _ (World.setCells w53 PQ35 0 (ypL ps (yT po P pc) pp ex ov un));generalize World.setCells w53 PQ35 0 (ypL ps (yT po P pc) pp ex ov un)=W67 at q63 q64 q61 r62 b65⊢;simp only[Act.put,List.getElem_toArray,List.getElem_cons_succ,List.getElem_cons_zero,List.setIfInBounds_toArray,List.set_cons_zero,List.set_cons_succ];obtain⟨c68,c69,c70,c71,c72,c73⟩:=q61.cs6
  go_wp2_with fail
  refine(HH.out _ _ _ b65 r62).mono ?_;rintro zz w74 ⟨rfl,bb75⟩;have q76:=q61.l bb75;have b77:=aa b65 bb75;clear q63 q64 q61 r62 b65 bb75 HH c68 c69 c70 c71 c72 c73;obtain⟨d0,d1,d2,d3,d4,d5⟩:=q76.cs6;have bf:=b77;clear b77;replace hr1:=hr1.out;replace hf1:=hf1.out
  cases ok
  all_goals cases ex
  all_goals simp at hr1 hf1
  all_goals subst hr1 hf1
  all_goals
   go_wp2
   go_ret3
   exact⟨by simp,bf⟩
end Go.Proofs.YtlgkfdcmokchgaaGreatDoor
