/-
  Texts laid together: Div1, DivBy, Dr2, Bs1, Ref7, Cv5.
-/
import Derived.Test.YtiakgfmlpdfhdaaDoorSv11
import Derived.Test.YtiakgfmlpdfhdaaDoorSv14
import Derived.Test.YtiakgfmlpdfhdaaDoorSv15
import Derived.Test.YtiakgfmlpdfhdaaDoorSv22
set_option maxRecDepth 100000
set_option maxHeartbeats 3200000
namespace Go.Proofs.YtiakgfmlpdfhdaaDoor
open Go.RowKit
theorem Bz (v:Value)(zs:List Nat)(w:World)(h:Rd w .u32 v zs)(hl:zs.length≤1000000):
  yC 92 #[v] w fun e w'=>e= .returned (.slice (some ⟨w.heap.size,0,none⟩) zs.length zs.length)∧Own w' w.heap.size 87 .u32 (.slice (some ⟨w.heap.size,0,none⟩) zs.length zs.length) zs∧yB w w':=by
 obtain⟨i0,hi,hz0,hz1,hz2⟩:=info_parts Tryd.infoU32;have hsz:(Tryd.prog.info? 87).map (·.size)=some 1:=by rw[hi];simp[hz1]
 obtain⟨ao,ca,rfl⟩:=h.shape
 go_enter Tryd.func92,Tryd.ntmps92
 go_wp2_with (at_make;refine wpList_make_full _ rfl _ _ 92 rfl w.heap.size 87 i0 (.int .u32 0) 1 Tryd.underlying92 hi hz0 hz1 _ _ _ _ zs.length rfl rfl (by omega) (by omega) ?b2 ?b3 (Nat.le_refl _) ?_)
 case b2=>rw[hz2];omega
 case b3=>unfold maxLen;omega
 intro w0 hown0 hgrow0;have own0:=gL hown0;have bel0:yB w w0:=(Below.refl _ _).grown hgrow0 (Nat.le_refl _) (fun k h=>by cases h)
 obtain⟨w1,hrun,own1,gr1⟩:=Nw 92 92 3 Tryd.underlying92 hsz own0 (h.l bel0) (by simp);have bel1:=bel0.grown gr1 bel0.size (fun k hk=>by cases hk;exact Nat.le_refl _)
 clear hown0 hgrow0 hsz
 go_wp2
 go_ret
 refine⟨rfl, ?_,bel1⟩;have e:zs++(List.replicate zs.length 0).drop zs.length=zs:=by simp
 rw[e] at own1;exact own1
theorem uG (g n cap base:Nat)(zs:List Nat)(d:Nat)(w:World)(ho:Own w base 87 .u32 (.slice (some ⟨g,0,none⟩) n cap) zs)(hs:Dg.Small 4294967296 zs)(hd:0<d)(hd2:d<4294967296)(hl:zs.length≤1000000):
  yC 93 #[.slice (some ⟨g,0,none⟩) n cap,.int .u32 d] w fun e w'=>
   ∃qs,e= .returned (.int .u32 ((Dg.vl 4294967296 zs % d:Nat):Int))∧Own w' base 87 .u32 (.slice (some ⟨g,0,none⟩) n cap) qs∧qs.length=zs.length∧Dg.Small 4294967296 qs∧Dg.vl 4294967296 qs=Dg.vl 4294967296 zs/d∧w.grownBy w' (some g):=by
 have hn:=ho.len;subst hn
 go_enter Tryd.func93,Tryd.ntmps93
 go_wp2
 go_loopw [5,6] (fun rv iv wr=> ∃(k r:Nat) (cur:List Nat),k≤zs.length∧iv=yi ((k:Int)-1)∧rv= .int .u32 r∧Own wr base 87 .u32 (.slice (some ⟨g,0,none⟩) zs.length cap) cur∧acQ zs cur d k r∧w.grownBy wr (some g))
  (fun _ iv _=>(intOf iv+1).toNat)
 case atStart=>exact⟨zs.length,0,zs,Nat.le_refl _,rfl,rfl,ho,⟨rfl,hs,hd,fun _ _=>rfl,by simp[Dg.vl]⟩,ib _ _⟩
 case round=>
  obtain⟨k,r,cur,hk,rfl,rfl,own,hI,gr⟩:=hrel
  by_cases hk0:k=0
  ·subst hk0
   go_wp2
   go_ret
   obtain⟨h1,h2,h3,h4,h5⟩:=hI;simp only[List.drop_zero] at h5;have e1:Dg.vl 4294967296 zs/d=Dg.vl 4294967296 cur:=by
    rw[h5,Nat.mul_comm,Nat.mul_add_div hd,Nat.div_eq_of_lt h3];omega
   have e2:Dg.vl 4294967296 zs % d=r:=by
    rw[h5,Nat.mul_comm,Nat.mul_add_mod,Nat.mod_eq_of_lt h3]
   exact⟨cur,by rw[e2];rfl,own,h1,h2,e1.symm,gr⟩
  ·obtain⟨m,rfl⟩: ∃m,k=m+1:=⟨k-1,by omega⟩
   have hlen:=hI.1;have hz:=own.c m (by omega);have hf:=own.f m;have hr:=hI.2.2.1;have hzs:=hs m;rw[hI.2.2.2.1 m (by omega)] at hz;obtain⟨z,ez⟩: ∃z,zs.getD m 0=z:=⟨_,rfl⟩;rw[ez] at hz hzs;have Hz:Hid _:=ez;clear ez;have hq:=I6 (t:=r*4294967296+z) hr hzs rfl
   go_wp2_with fail
   refine(Vb r z d wr hr hzs hd2).mono ?_;rintro e w1 ⟨rfl,bel⟩;have own1:=own.l bel;have hz1:=own1.c m (by omega);have hf1:=own1.f m;have gr1:=eF gr (Ew (some g) bel)
   go_wp2
   go_roundw
   case rel=>exact⟨m,_,_,by omega,by go_num,rfl,own1.store m _,Tx hI (by omega) (by rw[Hz.out]) hd hq,eF gr1 (bI _ _ _ _)⟩
   case measure=>simp[intOf]
theorem Aw (s:Bool)(ao:Option Addr)(ca:Nat)(xs:List Nat)(e:Int)(w:World)(hr:Rd w .u32 (.slice ao xs.length ca) xs)(sa:Dg.Small 4294967296 xs)(hL:xs.length≤20000)(he1: -1000000≤e)(he2:e≤1000000):
  yC 22 #[ydV s (.slice ao xs.length ca) e] w (di w (bare ⟨s,Dg.vl 4294967296 xs,e⟩)):=by
 have HO:Hid (∀w1,yB w w1→yC 48 #[.slice ao xs.length ca] w1 (cG w1 (Dg.vl 4294967296 xs))):=fun w1 b1=>fQ _ xs w1 (hr.l b1) sa (by omega)
 have hl16:(Dg.dg 65536 (Dg.vl 4294967296 xs)).length≤100000:=by have:=zX sa;omega
 obtain⟨n,hn⟩: ∃n,Dg.vl 4294967296 xs=n:=⟨_,rfl⟩;rw[hn] at HO hl16⊢;have HB:Hid (∀v w1,Rv w1 v ⟨s,n,e⟩→yC 29 #[v] w1 (di w1 (bare ⟨s,n,e⟩))):=fun v w1 hv=>lA v _ w1 hv hl16 he1 he2
 obtain⟨⟨bs,bn,be⟩,hbt⟩: ∃bt,bare ⟨s,n,e⟩=bt:=⟨_,rfl⟩;rw[hbt] at HB⊢;clear hn hbt hr sa hL;have bA:=aa (af w (.cells (ydA s (.slice ao xs.length ca) e) 25)) (af _ (.cells (ydA false yN 0) 36));have l1:=(aA w (.bool s) (.slice ao xs.length ca) (yi e) 25).l (af _ (.cells (ydA false yN 0) 36));have l2:=aA (w.alloc (.cells (ydA s (.slice ao xs.length ca) e) 25)) (.bool false) yN (yi 0) 36;have z2:=dI (w.alloc (.cells (ydA s (.slice ao xs.length ca) e) 25)) 36;rw[World.size_alloc] at l2 z2;obtain⟨W,hW⟩: ∃W,((w.alloc (.cells (ydA s (.slice ao xs.length ca) e) 25)).alloc (.cells (ydA false yN 0) 36))=W:=⟨_,rfl⟩;rw[hW] at bA l1 l2 z2;have bd:yB W W.drew:=(Below.refl _ _).drew;have l1:=l1.l bd;have l2:=l2.l bd;have z2:=z2.l bd;have b02:=aa bA bd;rw[←hW] at l1 l2 z2 b02;clear bA bd hW;obtain⟨-,⟨c0,c1,c2⟩,-⟩:=id l1;have ne3:w.heap.size+1≠w.heap.size:=by omega
 go_enter Tryd.func22,Tryd.ntmps22
 go_wp2_with fail
 go_region_held3 (fun wq=>wq.cell? ⟨w.heap.size,0,none⟩=some (.bool s)∧wq.cell? ⟨w.heap.size,1,none⟩=some (.slice ao xs.length ca)∧wq.cell? ⟨w.heap.size,2,none⟩=some (yi e)) (go_keep) (first
  | (go_at_call 48;refine(HO.out _ b02).mono ?_;rintro z w3 ⟨vs,rfl,r3,b3⟩;have l13:=l1.l b3;have l23:=l2.l b3;have z23:=z2.l b3;have b03:=aa b02 b3;obtain⟨-,⟨p0,p1,p2⟩,-⟩:=id l13;obtain⟨so0,sc0,hv0⟩:=r3.shape;subst hv0)
  | (go_at_call 29;refine(HB.out _ w3 ⟨_,rfl,r3⟩).mono ?_;rintro z w4 ⟨vt,rfl,r4,hF4,b4⟩;have l14:=l13.l b4;have l24:=l23.l b4;have z24:=z23.l b4;have b04:=aa b03 b4;obtain⟨so,sc,hvs⟩:=r4.shape;subst hvs;have HF:Hid (Far w.heap.size (yS so bn sc)):=hF4.mono b03.size;clear hF4;obtain⟨-,⟨q0,q1,q2⟩,-⟩:=id l14;obtain⟨hl3,⟨d0,d1,d2⟩,f0,f1,f2⟩:=id l24))
 all_goals go_wp2
 obtain⟨-,⟨g0,g1,g2⟩,-⟩:=aD l24 (.bool bs) (yS so bn sc) (yi be);have r7:=z24.rd r4 (Dg.norm_dg _ _ (by omega)) (.bool bs) (yS so bn sc) (yi be);have b8:=am b04 (show w.heap.size≤w.heap.size+1 by omega) (.bool bs) (yS so bn sc) (yi be)
 refine bodyPost_ret (v:=(ydV bs (yS so bn sc) be)) (by simp[results,Tryd.results22,go_sem,g0,g1,g2]) rfl ?_;exact⟨_,rfl,r7,HF.out,b8⟩
def Sz (w:World)(m:Nat)(x:Nat→ak)(ao:Nat→Option Addr)(ca:Nat→Nat)(p:Nat)(iv:Value)(wr:World):Prop:=
 ∃i:Nat,i+1≤m∧iv=yi i∧yB w wr∧Yu wr p x ao ca (loI x i) (hiI x i)∧
  mL wr w.heap.size (.bool false) yN (yi 0) (.bool false) yN (yi 0)
theorem IU (va:Value)(xs:List Nat)(vb:Value)(d:Nat)(w:World)(ha:Rd w .i64 va xs)(hb:Rd w .i64 vb [d])(sa:Dg.Small 65536 xs)(hla:xs.length≤1000000)(hd0:0<d)(hd:d<65536):
  yC 36 #[va,vb] w fun e w'=> ∃vq vr,e= .returned (.tuple #[vq,vr])∧Rd w' .i64 vq (Dg.dg 65536 (Dg.vl 65536 xs/d))∧Rd w' .i64 vr (Dg.dg 65536 (Dg.vl 65536 xs % d))∧yB w w':=by
 obtain⟨i0,hi,hz0,hz1,hz2⟩:=info_parts Tryd.infoI64;obtain⟨ao,ca,rfl,-,-,hca⟩:=ha;obtain⟨bo,cb,rfl,-,-,hcb⟩:=hb;obtain⟨bb,boff,rfl,hcellb⟩:=hcb (by simp);have hcb0:=hcellb 0 (by simp);simp only[List.getD_cons_zero,Nat.add_zero] at hcb0;have hlen1:([d]:List Nat).length=1:=rfl;rw[hlen1];clear hcellb hcb hlen1
 go_enter Tryd.func36,Tryd.ntmps36
 go_wp2_with (at_make;refine wpList_make_full _ rfl _ _ 34 rfl w.heap.size 3 i0 (yi 0) 1 Tryd.underlying34 hi hz0 hz1 _ _ _ _ xs.length rfl rfl (by omega) (by omega) ?b2 ?b3 (Nat.le_refl _) ?_)
 case b2=>rw[hz2];omega
 case b3=>unfold maxLen;omega
 intro w0 hown0 hgrow0;have own0:=gL hown0;have bel0:yB w w0:=(Below.refl _ _).grown hgrow0 (Nat.le_refl _) (fun k h=>by cases h)
 clear hown0 hgrow0
 go_wp2
 go_loopw [7,8] (fun rv iv wr=> ∃(k r:Nat) (cur:List Nat),k≤xs.length∧iv=yi ((k:Int)-1)∧rv=yi r∧Own wr w.heap.size 3 .i64 (.slice (some ⟨w.heap.size,0,none⟩) xs.length xs.length) cur∧X9 xs cur d k r∧yB w wr)
  (fun _ iv _=>(intOf iv+1).toNat)
 case atStart=>exact⟨xs.length,0,_,Nat.le_refl _,rfl,rfl,own0,⟨by simp,Dg.small_replicate _ _ (by omega),hd0,by simp[Dg.vl]⟩,bel0⟩
 case round=>
  clear own0 bel0;obtain⟨k,r,cur,hk,rfl,rfl,own,hI,bel⟩:=hrel;have hlen:=hI.1;have hr:=hI.2.2.1
  by_cases hk0:k=0
  ·subst hk0
   obtain⟨h1,h2,h3,h5⟩:=hI;simp only[List.drop_zero] at h5;have e1:Dg.vl 65536 xs/d=Dg.vl 65536 cur:=by
    rw[h5,Nat.mul_comm,Nat.mul_add_div hd0,Nat.div_eq_of_lt h3];omega
   have e2:Dg.vl 65536 xs % d=r:=by
    rw[h5,Nat.mul_comm,Nat.mul_add_mod,Nat.mod_eq_of_lt h3]
   have HE1:Hid (Dg.vl 65536 xs/d=Dg.vl 65536 cur):=e1;have HE2:Hid (Dg.vl 65536 xs % d=r):=e2;have hcl:cur.length≤1000000:=by omega
   clear h5 e1 e2 hlen h1
   go_wp2_with fail
   refine(i9 _ _ _ cur _ own.rd).mono ?_;rintro e w' ⟨m,rfl,hm,rfl⟩;have rq:=xh own h2 hm (by omega);have a1:Below w'.heap.size w' (w'.alloc (.cells #[yi r] 3)):=(Below.refl _ _).alloc (Nat.le_refl _) _;have r1:=cE (w:=w') (k:= .i64) (e:=3) [r] #[yi r] rfl (by unfold maxLen;simp)
   go_wp2_with fail
   refine(i9 _ _ _ [r] _ r1).mono ?_;rintro e w2 ⟨m2,rfl,hm2,rfl⟩;have hml:=hm2.1;simp only[List.length_cons,List.length_nil] at hml;have rr:=uE (cap':=m2) 65536 (by omega) r1 (Dg.small_cons.2 ⟨by omega,Dg.small_nil _ (by omega)⟩) hm2 (Nat.le_refl _) (by unfold maxLen;omega);have ev:Dg.vl 65536 [r]=r:=by simp[Dg.vl]
   rw[ev] at rr;have rq2:=rq.l a1;have bel2:=aa bel a1;clear hm hm2 r1 ev
   go_wp2
   go_ret2
   exact⟨_,_,rfl,by rw[HE1.out];exact rq2,by rw[HE2.out];exact rr,bel2⟩
  ·obtain⟨m,rfl⟩: ∃m,k=m+1:=⟨k-1,by omega⟩
   obtain⟨b,off,rfl,hcell⟩:=hca (by omega);have hx:=cell_later bel (hcell m (by omega));have hbb:=cell_later bel hcb0;have hxl:=sa m;have hq:=own.c m (by omega);have hf:=own.f m;obtain⟨x,ex⟩: ∃x,xs.getD m 0=x:=⟨_,rfl⟩;rw[ex] at hx hxl;have hql:=M8 (t:=65536*r+x) hr hxl rfl;have hst:=Qp hI (by omega) (by rw[ex]) hd0 hql;have hrl:(65536*r+x) % d<d:=Nat.mod_lt _ hd0;obtain⟨t,ht⟩: ∃t,65536*r+x=t:=⟨_,rfl⟩;have htl:t<4294967296:=by omega
   rw[ht] at hst hql hrl;have htI:65536*(r:Int)+(x:Int)=(t:Int):=by omega
   obtain⟨q1,hq1⟩: ∃q1,t/d=q1:=⟨_,rfl⟩;obtain⟨m1,hm1⟩: ∃m1,t % d=m1:=⟨_,rfl⟩;have e1:(t:Int).tdiv d=(q1:Int):=by rw[Int.tdiv_eq_ediv_of_nonneg (by omega),←hq1];exact(Int.natCast_ediv t d).symm
   have e2:(t:Int).tmod d=(m1:Int):=by rw[Int.tmod_eq_emod_of_nonneg (by omega),←hm1];exact(Int.natCast_emod t d).symm
   have e3:(t:Int)/(d:Int)=(q1:Int):=by rw[←hq1];exact(Int.natCast_ediv t d).symm
   have e4:(t:Int) % (d:Int)=(m1:Int):=by rw[←hm1];exact(Int.natCast_emod t d).symm
   rw[hq1] at hst hql;rw[hm1] at hst hrl;have e5:IntKind.i64.wrap (q1:Int)=(q1:Int):=IntWalk.i64_in _ ⟨by omega,by omega⟩;have hdne:((d:Int)==0)=false:=by simp;omega
   clear ex hcell hca hI hq1 hm1 ht hlen
   go_wp2
   go_region
   all_goals go_wp2
   all_goals go_roundw
   case rel=>exact⟨m,_,_,by omega,by go_num,rfl,Own.l (own.store m _) (Below.drew (Below.refl _ _)),hst,(bel.setCell (by exact Nat.le_refl _) _).drew⟩
   case measure=>simp[intOf]
theorem fromN_any (d:Nat)(w:World)(hd:d<9223372036854775808):yC 32 #[yi d] w (cG w d):=by
 obtain⟨i0,hi,hz0,hz1,hz2⟩:=info_parts Tryd.infoI64
 go_enter Tryd.func32,Tryd.ntmps32
 go_wp2
 go_loopw [0,3] (fun nv av wr=> ∃(x:Nat) (ys:List Nat),x≤d∧nv=yi x∧Own wr w.heap.size 3 .i64 av ys∧Hid (FromI d x ys)∧yB w wr) (fun nv _ _=>(intOf nv).toNat)
 case atStart=>exact⟨d,[],Nat.le_refl _,rfl,aQ _ _ _ _,⟨by show 0+65536^0*d=d;omega,fun i=>by simp,fun _ c=>absurd rfl c⟩,Below.refl _ _⟩
 case round=>
  obtain⟨x,ys,hxd,rfl,own,HI,bel⟩:=hrel
  by_cases hx:x=0
  ·subst hx
   have he:=fromI_end HI.out;subst he;clear HI
   go_wp2
   go_ret
   exact⟨_,rfl,own.rd,bel⟩
  ·have hbs:=bel.size
   have hl:=fromI_len HI.out hx (by omega);have HS:Hid _:=fromI_step HI.out hx;have e1:(x:Int) % 65536=((x % 65536:Nat):Int):=by omega
   have e2:(x:Int)/65536=((x/65536:Nat):Int):=by omega
   have hpos:(0:Int)< (x:Int):=by omega
   have hlt:x/65536<x:=by omega
   obtain⟨r,er⟩: ∃r,x % 65536=r:=⟨_,rfl⟩;obtain⟨q,eq⟩: ∃q,x/65536=q:=⟨_,rfl⟩;rw[er] at e1 HS;rw[eq] at e2 HS hlt;have hql:q≤d:=by omega
   clear HI er eq
   go_wp2_with (at_builtin;refine wpList_append_own _ rfl _ _ 34 rfl w.heap.size 3 i0 (yi 0) 1 8 Tryd.underlying34 hi hz0 hz1 hz2 rfl (by decide) _ _ _ rfl (World.ownsRow.alloc own _) ⟨wr.heap.size,0,none⟩ 1 1 [yi (r:Int)] rfl rfl ?c1 ?c2 ?c3 ?c4 ?c5 ?_)
   case c1=>exact cell_one_new _ _ _
   case c2=>intro u hu;simp at hu;subst hu;rfl
   case c3=>unfold maxLen;omega
   case c4=>omega
   case c5=>simp;omega
   intro v' w3 hown' hgrow _;have R:=iW bel own hown' hgrow;clear hown' hgrow own
   go_wp2
   go_roundw
   case rel=>exact⟨q,ys++[r],hql,rfl,R.1,HS,R.2⟩
   case measure=>simp[intOf];omega
end Go.Proofs.YtiakgfmlpdfhdaaDoor
