/-
  Texts laid together: Cr2, Ref7, Fro, IntoM, Into0, LessF.
-/
import Derived.Deep.RegionWith
import Derived.Laws.OwnMore
import Derived.Test.YtbdokgamhinajaaGreatDoorSm18
set_option maxRecDepth 100000
set_option maxHeartbeats 6400000
namespace Go.Proofs.YtbdokgamhinajaaGreatDoor
open _root_.Go.Proofs.Tryz
open Go.RowKit
def jp (w:World)(base:Nat)(v:Value)(bs:List Bool):Prop:=w.ownsRow base 4 1 v bs.length (bs.map Value.bool)
theorem Tryz.infoB:(Tryz.prog.info? 4).map (fun i=>(i.zero,i.size,i.bytes))=some (some (.bool false),1,1):=by kernel_rfl
def qV (ts:List Nat):Nat→List Bool
 |0=>[]
 |n+1=>qV ts n++[decide (fU ts n=1)]
theorem kS (ts:List Nat): ∀n,(qV ts n).length=n
 |0=>rfl
 |n+1=>by rw[qV,List.length_append,kS ts n];rfl
theorem wW (ts:List Nat): ∀n i,i<n→(qV ts n)[i]? =some (decide (fU ts i=1))
 |0,_,h=>absurd h (Nat.not_lt_zero _)
 |n+1,i,h=>by
  rw[qV]
  by_cases hi:i<n
  ·rw[List.getElem?_append_left (by rw[kS];exact hi)]
   exact wW ts n i hi
  ·have:i=n:=by omega
   subst this;rw[List.getElem?_append_right (by rw[kS];exact Nat.le_refl _),kS,Nat.sub_self];rfl
theorem Mu {P:Program}(t:TypeId)(s:ByteArray)(p:Nat)(h:P.underlying t=some .string)(hp:p<s.size)(W:World):
  (Instr.index t (.string s) (yi p)).run P W= .ok (.int .u8 (((jr s).getD p 0:Nat):Int)) W:=by
 rw[run_index_string W t s .i64 p h,dif_pos ⟨by omega,by omega⟩]
 congr 2
 have hp':p<s.data.size:=hp;rw[jr,List.getD_eq_getElem?_getD,List.getElem?_map,Array.getElem?_toList,Array.getElem?_eq_getElem hp'];rfl
theorem Mv {w wr w3:World}{x:Bool}{es:List Bool}{lv v':Value}(bel:yB w wr)(ownL:jp wr w.heap.size lv es)
  (hown':w3.ownsRow w.heap.size 4 1 v' (es.length+1) ((es.map Value.bool)++[.bool x]))
  (hgrow:(wr.alloc (.cells #[.bool x] 4)).grownBy w3 lv.ownBlock):
  jp w3 w.heap.size v' (es++[x])∧yB w w3:=by
 have b1:yB wr (wr.alloc (.cells #[.bool x] 4)):=(Below.refl _ _).alloc (Nat.le_refl _) _;refine⟨?_, ?_⟩
 ·unfold jp
  simpa using hown'
 ·refine(aa bel b1).grown hgrow (Nat.le_trans bel.size b1.size) (fun k hk=> ?_)
  exact(World.ownsRow.lt ownL k hk).1
theorem jp.l {w w':World}{base:Nat}{v:Value}{bs:List Bool}(h:jp w base v bs)(hb:yB w w'):jp w' base v bs:=by
 obtain⟨hl,h2⟩:=h;refine⟨hl, ?_⟩
 rcases h2 with h2| ⟨g,cap,cur,hv,hbg,hh,r⟩
 ·exact .inl h2
 ·refine .inr ⟨g,cap,cur,hv,hbg, ?_,r⟩
  rw[hb.block g ?_]
  ·exact hh
  ·rw[Array.getElem?_eq_some_iff] at hh
   exact hh.1
theorem T7: ∀j,j<8→2^ (7-j)/2=if j+1<8 then 2^ (7-(j+1)) else 0:=by decide
theorem P3 (k:Nat)(hk:1≤k∧k≤8)(s:ByteArray)(w:World)(hs:s.size=szN k):
  yC 63 #[yi k,.string s] w fun z w'=> ∃v,z= .returned v∧jp w' w.heap.size v (qV (wG k s) (8*szN k))∧yB w w':=by
 obtain⟨i0,hi,hz0,hz1,hz2⟩:=info_parts Tryz.infoB;have HP:Hid (∀(i:Nat) w1,i<szN k→yC 110 #[yi k,yi i] w1 (yR w1 (yi ((plN k i:Nat):Int)))):=fun i w1 h=>IF k hk i h w1
 have HX:Hid (∀p W,p<s.size→(Instr.index 9 (.string s) (yi (p:Int))).run Tryz.prog W= .ok (.int .u8 (((jr s).getD p 0:Nat):Int)) W):=fun p W h=>Mu 9 s p underlying9 h W
 have HT:Hid (∀i,i<szN k→(wG k s).getD i 0=(jr s).getD (plN k i) 0∧plN k i<szN k):=fun i h=>⟨Kh k _ i (by rw[oV,hs]) (by rw[oV,hs];exact h),Co hk h⟩
 have hsm:=xi k _ (zU s);have HSM:Hid (Dg.Small 256 (wG k s)):=hsm;have hsz:=(fZ hk).2.2.1;obtain⟨sz,esz⟩: ∃x,szN k=x:=⟨_,rfl⟩;obtain⟨ts,ets⟩: ∃x,wG k s=x:=⟨_,rfl⟩;rw[esz] at HP HT hsz hs⊢;rw[ets] at HT HSM⊢;clear hsm esz ets hk
 go_enter func63,ntmps63
 go_wp2
 go_loopw [5,6] (fun ov iv wr=> ∃i:Nat,i≤sz∧iv=yi i∧jp wr w.heap.size ov (qV ts (8*i))∧yB w wr) (fun _ iv _=>sz-(intOf iv).toNat)
 case atStart=>exact⟨0,by omega,rfl,World.ownsRow_nil _ _ _ 1,Below.refl _ _⟩
 case round=>
  obtain⟨i,hi1,rfl,own,bel⟩:=hrel
  by_cases hlt:i<sz
  ·have hx:=HX.out (plN k i)
   obtain⟨ht1,ht2⟩:=HT.out i hlt;have hx:=fun W=>HX.out (plN k i) W (by omega)
   rw[←ht1] at hx;have hc:=HSM.out i;obtain⟨c,ec⟩: ∃c,ts.getD i 0=c:=⟨_,rfl⟩;obtain⟨pp,ep⟩: ∃c,plN k i=c:=⟨_,rfl⟩;have hp:=fun w1=>HP.out i w1 hlt
   rw[ep] at hx hp;rw[ec] at hx hc;have HPP:Hid _:=hp;have HC:Hid (ts.getD i 0=c):=ec;have hwc:IntKind.i64.wrap (c:Int)=(c:Int):=IntWalk.i64_in _ ⟨by omega,by omega⟩;clear hp ht1 ht2 ep ec
   go_wp2_with fail
   refine(HPP.out _).mono ?_;rintro z w2 ⟨rfl,b2⟩;have own2:=own.l b2;have bel2:=aa bel b2;clear own bel b2 HPP
   go_wp2
   go_loopw [5,8] (fun ov kv wr=> ∃j kk:Nat,j≤8∧Hid (kk=if j<8 then 2^ (7-j) else 0)∧kv=yi (kk:Int)∧kk≤128∧jp wr w.heap.size ov (qV ts (8*i+j))∧yB w wr) (fun _ kv _=>(intOf kv).toNat)
   case atStart=>exact⟨0,128,by omega,rfl,rfl,by omega,own2,bel2⟩
   case round=>
    obtain⟨j,kk,hj,HK,rfl,hkl,own,bel⟩:=hrel
    by_cases hj8:j<8
    ·have hkk:kk=2^ (7-j):=by have:=HK.out;rwa [if_pos hj8] at this
     have hk0:0<kk:=by rw[hkk];exact Nat.pow_pos (by omega)
     obtain⟨b,eb⟩: ∃b,decide (fU ts (8*i+j)=1)=b:=⟨_,rfl⟩;have hbit:fU ts (8*i+j)=c/kk % 2:=by
      unfold fU;rw[show(8*i+j)/8=i from by omega,show(8*i+j) % 8=j from by omega,HC.out,hkk]
     have hsu:qV ts (8*i+(j+1))=qV ts (8*i+j)++[b]:=by rw[←eb,show 8*i+(j+1)=8*i+j+1 from by omega];rfl
     obtain⟨r,er⟩: ∃r,c/kk % 2=r:=⟨_,rfl⟩;obtain⟨q,eq⟩: ∃q,c/kk=q:=⟨_,rfl⟩;have hqI:(c:Int)/(kk:Int)=(q:Int):=by rw[←eq];exact(Int.natCast_ediv c kk).symm
     have hql:q<256:=by rw[←eq];exact Nat.lt_of_le_of_lt (Nat.div_le_self _ _) hc
     have hrI:(q:Int) % 2=(r:Int):=by rw[←er,eq];omega
     have hbI:((r:Int)==1)=b:=by
      rw[←eb,hbit,er]
      by_cases h:r=1
      ·subst h;rfl
      ·rw[decide_eq_false h];simp;omega
     have hkI:((kk:Int) != 0)=true:=by rw[bne_iff_ne];omega
     have hhf:(kk:Int)/2=((kk/2:Nat):Int):=by omega
     have hst:=T7 j hj8;rw[←hkk] at hst;have HST:Hid (_∧_):=⟨hst,hsu⟩;have hlen:=kS ts (8*i+j);obtain⟨es,ees⟩: ∃es,qV ts (8*i+j)=es:=⟨_,rfl⟩;rw[ees] at own hlen HST;have hel:es.length≤200:=by omega
     obtain⟨kh,ekh⟩: ∃x,kk/2=x:=⟨_,rfl⟩;rw[ekh] at hhf HST;have hkh:kh<kk:=by omega
     have hbs:=bel.size;clear eb hbit hsu er eq hst hlen ees ekh hkk HK
     go_wp2_with (at_builtin;refine wpList_append_own _ rfl _ _ 118 rfl w.heap.size 4 i0 (.bool false) 1 1 underlying118 hi hz0 hz1 hz2 rfl (by decide) _ _ _ rfl (World.ownsRow.alloc own _) ⟨wr.heap.size,0,none⟩ 1 1 [.bool b] rfl rfl ?c1 ?c2 ?c3 ?c4 ?c5 ?_)
     case c1=>exact cell_one_new _ _ _
     case c2=>intro u hu;simp at hu;subst hu;rfl
     case c3=>unfold maxLen;omega
     case c4=>omega
     case c5=>simp;omega
     intro v' w3 hown' hgrow _;have R:=Mv bel own hown' hgrow;clear hown' hgrow own
     go_wp2
     go_roundw
     case rel=>exact⟨j+1,kh,by omega,HST.out.1,rfl,by omega,by rw[HST.out.2];exact R.1,R.2⟩
     case measure=>simp[intOf];omega
    ·have hk0:kk=0:=by have:=HK.out;rwa [if_neg hj8] at this
     have HJ:Hid (j=8):=(by omega:j=8);subst hk0
     go_wp2
     go_roundw
     case rel=>
      have:=HJ.out;subst this;exact⟨i+1,by omega,by go_num,own,bel⟩
     case measure=>simp[intOf];omega
  ·have HI:Hid (i=sz):=(by omega:i=sz)
   go_wp2
   go_ret
   have:=HI.out;subst this;exact⟨_,rfl,own,bel⟩
def X9 (xs cur:List Nat)(d k r:Nat):Prop:=
 cur.length=xs.length∧Dg.Small 65536 cur∧r<d∧Dg.vl 65536 (xs.drop k)=Dg.vl 65536 (cur.drop k)*d+r
theorem Qp {xs cur:List Nat}{d k r t:Nat}(h:X9 xs cur d (k+1) r)(hk:k<xs.length)(ht:t=65536*r+xs.getD k 0)(hd:0<d)(hq:t/d<65536):
  X9 xs (cur.set k (t/d)) d k (t % d):=by
 obtain⟨h1,h2,h3,h5⟩:=h;refine⟨by simpa using h1,Dg.small_set h2 _ _ hq,Nat.mod_lt _ hd, ?_⟩;rw[AU xs k hk,AU (cur.set k (t/d)) k (by simpa using(by omega:k<cur.length)),Dg.getD_set _ _ _ _ (by omega),if_pos rfl,List.drop_set_of_lt (by omega)];simp only[Dg.vl];rw[h5];have:=Nat.div_add_mod t d;rw[Nat.add_mul,Nat.mul_comm (t/d) d,Nat.mul_assoc,Nat.mul_add];omega
theorem M8 {t d r x:Nat}(h1:r<d)(h2:x<65536)(ht:t=65536*r+x):t/d<65536:=by
 rw[Nat.div_lt_iff_lt_mul (by omega)];have:(r+1)*65536≤d*65536:=Nat.mul_le_mul_right _ h1;rw[Nat.mul_comm 65536 d];omega
theorem Cv (d:Nat)(h:d<65536):Dg.dg 65536 d=if d=0 then[] else[d]:=by
 by_cases e:d=0
 ·subst e;rfl
 ·rw[if_neg e]
  exact(Dg.eq_dg 65536 (by omega) [d] d (Dg.small_cons.2 ⟨h,Dg.small_nil _ (by omega)⟩) (by intro _;simpa using e) (by simp[Dg.vl])).symm
theorem IU (va:Value)(xs:List Nat)(vb:Value)(d:Nat)(w:World)(ha:Rd w .i64 va xs)(hb:Rd w .i64 vb [d])(sa:Dg.Small 65536 xs)(hla:xs.length≤1000000)(hd0:0<d)(hd:d<65536):
  yC 114 #[va,vb] w fun e w'=> ∃vq vr,e= .returned (.tuple #[vq,vr])∧Rd w' .i64 vq (Dg.dg 65536 (Dg.vl 65536 xs/d))∧Rd w' .i64 vr (Dg.dg 65536 (Dg.vl 65536 xs % d))∧yB w w':=by
 obtain⟨i0,hi,hz0,hz1,hz2⟩:=info_parts Tryz.infoI64;obtain⟨ao,ca,rfl,-,-,hca⟩:=ha;obtain⟨bo,cb,rfl,-,-,hcb⟩:=hb;obtain⟨bb,boff,rfl,hcellb⟩:=hcb (by simp);have hcb0:=hcellb 0 (by simp);simp only[List.getD_cons_zero,Nat.add_zero] at hcb0;have hlen1:([d]:List Nat).length=1:=rfl;rw[hlen1];clear hcellb hcb hlen1
 go_enter func114,ntmps114
 go_wp2_with (at_make;refine wpList_make_full _ rfl _ _ 28 rfl w.heap.size 3 i0 (yi 0) 1 underlying28 hi hz0 hz1 _ _ _ _ xs.length rfl rfl (by omega) (by omega) ?b2 ?b3 (Nat.le_refl _) ?_)
 case b2=>rw[hz2];omega
 case b3=>unfold maxLen;omega
 intro w0 hown0 hgrow0;have own0:=gL hown0;have bel0:yB w w0:=(Below.refl _ _).grown hgrow0 (Nat.le_refl _) (fun k h=>by cases h)
 clear hown0 hgrow0
 go_wp2
 go_loopw [7,8] (fun rv iv wr=> ∃(k r:Nat) (cur:List Nat),k≤xs.length∧iv=yi ((k:Int)-1)∧rv=yi r∧Own wr w.heap.size 3 .i64 (.slice (some ⟨w.heap.size,0,none⟩) xs.length xs.length) cur∧X9 xs cur d k r∧yB w wr)
  (fun _ iv _=>(intOf iv+1).toNat)
 case atStart=>exact⟨xs.length,0,_,Nat.le_refl _,rfl,rfl,own0,⟨by simp,Dg.small_replicate _ _ (by omega),hd0,by simp[Dg.vl]⟩,bel0⟩
 case round=>
  clear own0 bel0;obtain⟨k,r,cur,hk,rfl,rfl,own,hI,bel⟩:=hrel;have hlen:=hI.1;have hr:=hI.2.2.1
  by_cases hk0:k=0
  ·subst hk0
   obtain⟨h1,h2,h3,h5⟩:=hI;simp only[List.drop_zero] at h5;have e1:Dg.vl 65536 xs/d=Dg.vl 65536 cur:=by
    rw[h5,Nat.mul_comm,Nat.mul_add_div hd0,Nat.div_eq_of_lt h3];omega
   have e2:Dg.vl 65536 xs % d=r:=by
    rw[h5,Nat.mul_comm,Nat.mul_add_mod,Nat.mod_eq_of_lt h3]
   have HE1:Hid (Dg.vl 65536 xs/d=Dg.vl 65536 cur):=e1;have HE2:Hid (Dg.vl 65536 xs % d=r):=e2;have hcl:cur.length≤1000000:=by omega
   clear h5 e1 e2 hlen h1
   go_wp2_with fail
   refine(i9 _ _ _ cur _ own.rd).mono ?_;rintro e w' ⟨m,rfl,hm,rfl⟩;have rq:=xh own h2 hm (by omega);have a1:Below w'.heap.size w' (w'.alloc (.cells #[yi r] 3)):=(Below.refl _ _).alloc (Nat.le_refl _) _;have r1:=cE (w:=w') (k:= .i64) (e:=3) [r] #[yi r] rfl (by unfold maxLen;simp)
   go_wp2_with fail
   refine(i9 _ _ _ [r] _ r1).mono ?_;rintro e w2 ⟨m2,rfl,hm2,rfl⟩;have hml:=hm2.1;simp only[List.length_cons,List.length_nil] at hml;have rr:=uE (cap':=m2) 65536 (by omega) r1 (Dg.small_cons.2 ⟨by omega,Dg.small_nil _ (by omega)⟩) hm2 (Nat.le_refl _) (by unfold maxLen;omega);have ev:Dg.vl 65536 [r]=r:=by simp[Dg.vl]
   rw[ev] at rr;have rq2:=rq.l a1;have bel2:=aa bel a1;clear hm hm2 r1 ev
   go_wp2
   go_ret2
   exact⟨_,_,rfl,by rw[HE1.out];exact rq2,by rw[HE2.out];exact rr,bel2⟩
  ·obtain⟨m,rfl⟩: ∃m,k=m+1:=⟨k-1,by omega⟩
   obtain⟨b,off,rfl,hcell⟩:=hca (by omega);have hx:=cell_later bel (hcell m (by omega));have hbb:=cell_later bel hcb0;have hxl:=sa m;have hq:=own.c m (by omega);have hf:=own.f m;obtain⟨x,ex⟩: ∃x,xs.getD m 0=x:=⟨_,rfl⟩;rw[ex] at hx hxl;have hql:=M8 (t:=65536*r+x) hr hxl rfl;have hst:=Qp hI (by omega) (by rw[ex]) hd0 hql;have hrl:(65536*r+x) % d<d:=Nat.mod_lt _ hd0;obtain⟨t,ht⟩: ∃t,65536*r+x=t:=⟨_,rfl⟩;have htl:t<4294967296:=by omega
   rw[ht] at hst hql hrl;have htI:65536*(r:Int)+(x:Int)=(t:Int):=by omega
   obtain⟨q1,hq1⟩: ∃q1,t/d=q1:=⟨_,rfl⟩;obtain⟨m1,hm1⟩: ∃m1,t % d=m1:=⟨_,rfl⟩;have e1:(t:Int).tdiv d=(q1:Int):=by rw[Int.tdiv_eq_ediv_of_nonneg (by omega),←hq1];exact(Int.natCast_ediv t d).symm
   have e2:(t:Int).tmod d=(m1:Int):=by rw[Int.tmod_eq_emod_of_nonneg (by omega),←hm1];exact(Int.natCast_emod t d).symm
   have e3:(t:Int)/(d:Int)=(q1:Int):=by rw[←hq1];exact(Int.natCast_ediv t d).symm
   have e4:(t:Int) % (d:Int)=(m1:Int):=by rw[←hm1];exact(Int.natCast_emod t d).symm
   rw[hq1] at hst hql;rw[hm1] at hst hrl;have e5:IntKind.i64.wrap (q1:Int)=(q1:Int):=IntWalk.i64_in _ ⟨by omega,by omega⟩;have hdne:((d:Int)==0)=false:=by simp;omega
   clear ex hcell hca hI hq1 hm1 ht hlen
   go_wp2
   go_region
   all_goals go_wp2
   all_goals go_roundw
   case rel=>exact⟨m,_,_,by omega,by go_num,rfl,Own.l (own.store m _) (Below.drew (Below.refl _ _)),hst,(bel.setCell (by exact Nat.le_refl _) _).drew⟩
   case measure=>simp[intOf]
theorem Bj (d:Nat)(w:World)(hd:d<65536):yC 78 #[yi d] w (cG w d):=by
 obtain⟨i0,hi,hz0,hz1,hz2⟩:=info_parts Tryz.infoI64;have hone:=Cv d hd
 by_cases h:d=0
 ·subst h
  go_enter func78,ntmps78
  go_wp2
  refine wp_loop_rounds 1 ?_;rw[rounds_succ]
  go_wp2
  go_ret
  exact⟨_,rfl,(aQ _ 0 0 _).rd,Below.refl _ _⟩
 ·rw[if_neg h] at hone
  have HO:Hid (Dg.dg 65536 d=[d]):=hone;have e1:(d:Int) % 65536=(d:Int):=by omega
  have e2:(d:Int)/65536=0:=by omega
  have hpos:(0:Int)< (d:Int):=by omega
  clear hone
  go_enter func78,ntmps78
  go_wp2
  refine wp_loop_rounds 2 ?_;rw[rounds_succ]
  go_wp2_with (at_builtin;refine wpList_append_own _ rfl _ _ 28 rfl w.heap.size 3 i0 (yi 0) 1 8 underlying28 hi hz0 hz1 hz2 rfl (by decide) _ _ _ rfl (World.ownsRow.alloc (World.ownsRow_nil w w.heap.size 3 1) _) ⟨w.heap.size,0,none⟩ 1 1 [yi d] rfl rfl ?c1 ?c2 ?c3 ?c4 ?c5 ?_)
  case c1=>exact cell_one_new _ _ _
  case c2=>intro u hu;simp at hu;subst hu;rfl
  case c3=>unfold maxLen;omega
  case c4=>omega
  case c5=>simp
  intro v' w3 hown' hgrow _;have R:=iW (Below.refl w.heap.size w) (aQ w w.heap.size 3 .i64) hown' hgrow;clear hown' hgrow;rw[List.nil_append,←HO.out] at R
  go_wp2
  rw[rounds_succ]
  go_wp2
  go_ret
  exact⟨_,rfl,R.1.rd,R.2⟩
theorem abW (B:Nat)(l:List Nat):Dg.vl B l=l.getD 0 0+B*Dg.vl B (l.drop 1):=by
 cases l with
 |nil=>simp[Dg.vl]
 |cons d l=>simp[Dg.vl]
theorem Vm (l:List Nat)(k:Nat):(l.drop k).getD 0 0=l.getD k 0:=by
 simp[List.getD_eq_getElem?_getD]
theorem iy (B:Nat)(l:List Nat)(k:Nat):Dg.vl B (l.drop k)=l.getD k 0+B*Dg.vl B (l.drop (k+1)):=by
 rw[abW B (l.drop k),Vm,List.drop_drop]
theorem Zs (B:Nat)(l:List Nat)(k:Nat)(h:l.length≤k+3):Dg.vl B (l.drop k)=l.getD k 0+B*(l.getD (k+1) 0+B*l.getD (k+2) 0):=by
 rw[iy,iy,iy,List.drop_of_length_le (by omega)];simp[Dg.vl]
theorem Zt (B:Nat)(l:List Nat)(k:Nat)(h:l.length≤k+2):Dg.vl B (l.drop k)=l.getD k 0+B*l.getD (k+1) 0:=by
 rw[iy,iy,List.drop_of_length_le (by omega)];simp[Dg.vl]
theorem BH (B:Nat)(l:List Nat)(k:Nat):Dg.vl B l=Dg.vl B (l.take k)+B^k*Dg.vl B (l.drop k):=by
 by_cases h:k≤l.length
 ·exact Dg.vl_take_drop B l k h
 ·rw[List.take_of_length_le (by omega),List.drop_of_length_le (by omega)]
  simp[Dg.vl]
theorem Zu (rs bs:List Nat)(n R b top under:Nat)(hn:2≤n)(hbl:bs.length=n)(sr:Dg.Small 65536 rs)(nb:Dg.Norm bs)
  (hR:Dg.vl 65536 rs=R) (hb:Dg.vl 65536 bs=b) (hrl:rs.length≤n+1) (hlt:R<65536*b)
  (ht:top=65536*(65536*rs.getD n 0+rs.getD (n-1) 0)+rs.getD (n-2) 0) (hu:under=bs.getD (n-1) 0*65536+bs.getD (n-2) 0):
  R/b≤65535∧R/b≤top/(under+1)+1:=by
 obtain⟨k,rfl⟩: ∃k,n=k+2:=⟨n-2,by omega⟩;have e1:k+2-1=k+1:=by omega
 have e2:k+2-2=k:=by omega
 rw[e1,e2] at ht hu;have r1:=BH 65536 rs k;rw[Zs 65536 rs k (by omega),hR] at r1;have b1:=BH 65536 bs k;rw[Zt 65536 bs k (by omega),hb] at b1;have et:rs.getD k 0+65536*(rs.getD (k+1) 0+65536*rs.getD (k+2) 0)=top:=by omega
 have eu:bs.getD k 0+65536*bs.getD (k+1) 0=under:=by omega
 rw[et] at r1;rw[eu] at b1;have rl:Dg.vl 65536 (rs.take k)<65536^k:=Nat.lt_of_lt_of_le (Dg.vl_lt 65536 _ (Dg.small_take sr k (by omega))) (Nat.pow_le_pow_right (by omega) (List.length_take_le _ _));have hu1:65536≤under:=by
  have h0:=nb (by intro e;rw[e] at hbl;simp at hbl);rw[hbl,e1] at h0;omega
 obtain⟨P,hP⟩: ∃P,65536^k=P:=⟨_,rfl⟩;rw[hP] at r1 b1 rl;have hb0:0<b:=by
  rcases Nat.eq_zero_or_pos b with h|h
  ·rw[h] at hlt;omega
  ·exact h
 obtain⟨Q,hQ⟩: ∃Q,R/b=Q:=⟨_,rfl⟩;have q1:Q≤65535:=by
  rw[←hQ];have:R/b<65536:=by rw[Nat.div_lt_iff_lt_mul hb0];exact hlt
  omega
 have q2:Q*b≤R:=by rw[←hQ];exact Nat.div_mul_le_self R b
 rw[hQ];refine⟨q1, ?_⟩;have q3:Q*(P*under)≤Q*b:=Nat.mul_le_mul_left _ (by omega);have q4:P*(Q*under)<P*(top+1):=by
  have:P*(Q*under)=Q*(P*under):=by rw[←Nat.mul_assoc,Nat.mul_comm P Q,Nat.mul_assoc]
  rw[this,Nat.mul_add];omega
 have q5:Q*under<top+1:=Nat.lt_of_mul_lt_mul_left q4
 rcases Nat.eq_zero_or_pos Q with h|h
 ·rw[h];exact Nat.zero_le _
 ·obtain⟨q,rfl⟩: ∃q,Q=q+1:=⟨Q-1,by omega⟩
  have q6:q*(under+1)≤top:=by
   rw[Nat.add_mul] at q5;rw[Nat.mul_add];omega
  have:=(Nat.le_div_iff_mul_le (by omega)).2 q6;omega
def BI (xs cur:List Nat)(b k R:Nat):Prop:=
 cur.length=xs.length∧Dg.Small 65536 cur∧(∀j,j<k→cur.getD j 0=0)∧R<b∧Dg.vl 65536 (xs.drop k)=Dg.vl 65536 (cur.drop k)*b+R
theorem NF (xs:List Nat)(b:Nat)(hb:0<b):BI xs (List.replicate xs.length 0) b xs.length 0:=by
 refine⟨by simp,Dg.small_replicate _ _ (by omega),fun j hj=>by simp[List.getD_eq_getElem?_getD,hj],hb, ?_⟩
 simp[Dg.vl]
theorem Vn {xs cur:List Nat}{b k R N:Nat}(h:BI xs cur b (k+1) R)(hk:k<xs.length)(hN:N=xs.getD k 0+65536*R)(hb:0<b)(hx:xs.getD k 0<65536):
  N<65536*b∧BI xs (cur.set k (N/b)) b k (N % b):=by
 obtain⟨h1,h2,h3,h4,h5⟩:=h;have hlt:N<65536*b:=by
  have:65536*(R+1)≤65536*b:=Nat.mul_le_mul_left _ h4;omega
 have hq:N/b<65536:=by rw[Nat.div_lt_iff_lt_mul hb];exact hlt
 refine⟨hlt,by simpa using h1,Dg.small_set h2 _ _ hq,fun j hj=> ?_,Nat.mod_lt _ hb, ?_⟩
 ·rw[Dg.getD_set _ _ _ _ (by omega),if_neg (by omega)]
  exact h3 j (by omega)
 ·rw[iy 65536 xs k,iy 65536 (cur.set k (N/b)) k,Dg.getD_set _ _ _ _ (by omega),if_pos rfl,List.drop_set_of_lt (by omega),h5]
  have:=Nat.div_add_mod N b;rw[Nat.add_mul,Nat.mul_comm (N/b) b,Nat.mul_assoc,Nat.mul_add];omega
theorem QV {xs cur:List Nat}{b k R N:Nat}(h:BI xs cur b (k+1) R)(_hk:k<xs.length)(hN:N=xs.getD k 0+65536*R)(hlt:N<b):BI xs cur b k N:=by
 obtain⟨h1,h2,h3,h4,h5⟩:=h;refine⟨h1,h2,fun j hj=>h3 j (by omega),hlt, ?_⟩
 rw[iy 65536 xs k,iy 65536 cur k,h3 k (by omega),h5,Nat.zero_add,Nat.mul_add,Nat.mul_assoc];omega
theorem Vo {xs cur:List Nat}{b R:Nat}(h:BI xs cur b 0 R):Dg.vl 65536 xs/b=Dg.vl 65536 cur∧Dg.vl 65536 xs % b=R:=by
 obtain⟨h1,h2,h3,h4,h5⟩:=h;simp only[List.drop_zero] at h5;rw[h5,Nat.mul_comm];exact⟨by rw[Nat.mul_add_div (by omega),Nat.div_eq_of_lt h4];omega,by rw[Nat.mul_add_mod,Nat.mod_eq_of_lt h4]⟩
theorem NG {b d N:Nat}(h1:N/b≤d)(h2:b*d≤N)(hb:0<b):d=N/b:=by
 have:d≤N/b:=by rw[Nat.le_div_iff_mul_le hb,Nat.mul_comm];exact h2
 omega
theorem QW {b d N:Nat}(h1:N/b≤d)(h2: ¬b*d≤N)(_hb:0<b):N/b+1≤d:=by
 rcases Nat.lt_or_ge (N/b) d with h|h
 ·exact h
 ·exfalso
  apply h2;have e:d=N/b:=by omega
  rw[e];exact Nat.mul_div_le N b
theorem Ho {P:Program}{w:World}{base e:Nat}{k:IntKind}{v u:Value}{xs ys:List Nat}(t ty:Nat)(i:TypeInfo)(bytes:Nat)(ht:P.underlying t=some (.slice e))(hi:P.info? e=some i)
  (hz:i.zero=some (.int k 0)) (hsize:i.size=1) (hby:i.bytes=bytes) (hb8:bytes≤8)
  (ho:Own w base e k v xs) (hr:Rd w k u ys) (hl:xs.length+ys.length≤3000000) (hbase:base≤w.heap.size):
  ∃v' w',(Builtin.append_ #[t,t] ty #[v,u]).run P w= .ok v' w'∧Own w' base e k v' (xs++ys)∧w.grownBy w' v.ownBlock:=by
 obtain⟨ao,cap,rfl,h1,h2,h3⟩:=hr
 cases ao with
 |none=>
  have hy:ys.length=0:=by
   rcases Nat.eq_zero_or_pos ys.length with e|e
   ·exact e
   ·obtain⟨b,off,e2,_⟩:=h3 e;cases e2
  have hyn:ys=[]:=List.length_eq_zero_iff.1 hy;subst hyn;refine⟨v,w, ?_,by rw[List.append_nil];exact ho,ib _ _⟩
  rcases ho.2 with⟨rfl,_⟩| ⟨g,cap',cur,rfl,_,_,hnc,_⟩
  ·simp[Builtin.append_,run_underlying ht,sizeOf,typeInfo,hi,Builtin.lenOf,Builtin.firstCells]
  ·simp[Builtin.append_,run_underlying ht,sizeOf,typeInfo,hi,Builtin.lenOf,Builtin.firstCells,hnc,storeCells]
 |some ad=>
  obtain⟨v',w',r1,r2,r3,_⟩:=run_append_own (P:=P) (w:=w) base t ty e i (.int k 0) 1 bytes ht hi hz hsize hby rfl (by omega) v xs.length _ ho ad ys.length cap (ys.map (fun n:Nat=>Value.int k (n:Int))) (by simp) (fun j u hj=>by
    have hjl:j<ys.length:=by
     have:=(List.getElem?_eq_some_iff.1 hj).1
     simpa using this
    obtain⟨b,off,e2,hc⟩:=h3 (by omega)
    cases e2
    rw[rO,hc j hjl];rw[←hj,j9 k ys j hjl]) (fun u hu=>by
    obtain⟨n,_,rfl⟩:=List.mem_map.1 hu;rfl) (by unfold maxLen;omega) (Nat.le_trans (Nat.mul_le_mul (show xs.length+ys.length≤3000000 from hl) hb8) (by omega)) hbase
  exact⟨v',w',r1,by unfold Own;rw[List.map_append,List.length_append];exact r2,r3⟩
theorem kq {P:Program}{ops:Array Oper}{rest:List Oper}{o:Oper}{a:Act}{w:World}{Q:Exit→Act→World→Prop}(hgd:o.guard=none)(s x:Operand)(t:TypeId)
  (ho:o.op= .call {callee:= .builtin .append,args:= #[s,x],argTypes:= #[t,t]}) (v u v':Value) (w':World) (hs:a.eval s=v) (hx:a.eval x=u)
  (hr:(Builtin.append_ #[t,t] o.type #[v,u]).run P w= .ok v' w') (h:wpList P ops Q rest (a.put o.dst v') w'):wpList P ops Q (o::rest) a w:=by
 refine wpList_plain hgd fun K hK=> ?_
 unfold Oper.wp execOp;simp only[ho,resolve,invoke,builtin,Sem.run_bind,Sem.run_pure,Result.andThen_ok,List.map_toArray,List.map_cons,List.map_nil,hs,hx,hr];exact hK _ _ h
theorem Lt (va vb:Value)(xs ys:List Nat)(w:World)(ha:Rd w .i64 va xs)(hb:Rd w .i64 vb ys)(sa:Dg.Small 65536 xs)(sb:Dg.Small 65536 ys)(hla:xs.length≤2000000)(hlb:ys.length≤xs.length)(hv:Dg.vl 65536 ys≤Dg.vl 65536 xs):
  yC 76 #[va,vb] w (Si w (Dg.vl 65536 xs-Dg.vl 65536 ys)):=by
 obtain⟨ao,ca,rfl,-,-,hca⟩:=ha;obtain⟨bo,cb,rfl,-,-,hcb⟩:=hb;obtain⟨i0,hi,hz0,hz1,hz2⟩:=info_parts Tryz.infoI64;have HV:Hid (Dg.vl 65536 ys≤Dg.vl 65536 xs):=hv;clear hv
 go_enter func76,ntmps76
 go_wp2
 go_loopw [5,6,7] (fun ov cv iv wr=> ∃(k c:Nat) (ps:List Nat),k≤xs.length∧iv=yi k∧cv=yi c∧Own wr w.heap.size 3 .i64 ov ps∧QA xs ys ps k c∧yB w wr) (fun _ _ iv _=>xs.length-(intOf iv).toNat)
 case atStart=>exact⟨0,0,[],by omega,rfl,rfl,aQ _ _ _ _,⟨rfl,Dg.small_nil _ (by omega),by omega,by simp[Dg.vl]⟩,Below.refl _ _⟩
 case round=>
  obtain⟨k,c,ps,hk,rfl,rfl,own,hI,bel⟩:=hrel;have hcl:=hI.2.2.1;have hpl:=hI.1;have hbs:=bel.size
  by_cases hlt:k<xs.length
  ·obtain⟨b,off,rfl,hcella⟩:=hca (by omega)
   have hcell:=cell_later bel (hcella k hlt);have hxl:=sa k;have hyl:=sb k;have hy0: ¬k<ys.length→ys.getD k 0=0:=fun h=>Dg.getD_of_le _ _ (by omega)
   have hst: ∀d c',d<65536→c'≤1→xs.getD k 0+65536*c'=d+ys.getD k 0+c→QA xs ys (ps++[d]) (k+1) c':=fun d c' h1 h2 h3=>I1 hI h1 h2 h3
   have hcy:k<ys.length→ ∃b off,bo=some ⟨b,off,none⟩∧wr.cell? ⟨b,off+k,none⟩=some (yi ((ys.getD k 0:Nat):Int)):=fun h=>by
    obtain⟨b,off,e,hcell⟩:=hcb (by omega);exact⟨b,off,e,cell_later bel (hcell k h)⟩
   obtain⟨x,ex⟩: ∃x,xs.getD k 0=x:=⟨_,rfl⟩;obtain⟨y,ey⟩: ∃y,ys.getD k 0=y:=⟨_,rfl⟩;rw[ex] at hxl hst hcell;rw[ey] at hyl hy0 hst hcy;have Hst:Hid _:=hst;have Hpl:Hid (ps.length=k):=hpl;have hpl2:ps.length≤2000000:=by omega
   clear ex ey hca hcb hI hst hpl hcella;have fin: ∀(T:Int) (d:Nat),T=((d:Nat):Int)→ ∀v' w3,w3.ownsRow w.heap.size 3 1 v' (ps.length+1) ((ps.map (fun n:Nat=>Value.int .i64 (n:Int)))++[yi T])→(wr.alloc (.cells #[yi T] 3)).grownBy w3 (Value.ownBlock u5)→
     Own w3 w.heap.size 3 .i64 v' (ps++[d])∧yB w w3:=by
    intro T d hT v' w3 h1 h2;rw[hT] at h1 h2;exact iW bel own h1 h2
   by_cases h2:k<ys.length
   ·obtain⟨b2,off2,rfl,hcell2⟩:=hcy h2
    clear hcy hy0
    by_cases hneg:x<y+c
    ·have hneg2:((x:Int)-(c:Int)-(y:Int))<0:=by omega
     go_wp2_with (at_builtin;refine wpList_append_own _ rfl _ _ 28 rfl w.heap.size 3 i0 (yi 0) 1 8 underlying28 hi hz0 hz1 hz2 rfl (by decide) _ _ _ rfl (World.ownsRow.alloc own _) ⟨wr.heap.size,0,none⟩ 1 1 [yi ((x:Int)-(c:Int)-(y:Int)+65536)] rfl rfl ?c1 ?c2 ?c3 ?c4 ?c5 ?_)
     try (case c1=>exact cell_one_new _ _ _)
     case c2=>first|rfl| (intro u hu;simp at hu;subst hu;rfl)| (simp;done)| (simp[Value.oneCell'];done)| (trace_state;fail)
     case c3=>unfold maxLen;omega
     case c4=>omega
     case c5=>first|omega| (simp;omega)
     intro v' w3 hown' hgrow _;have R:=fin _ (x+65536-y-c) (by omega) v' w3 hown' hgrow;clear hown' hgrow own fin
     go_wp2
     go_roundw
     case rel=>exact⟨k+1,1,_,by omega,by go_num,by go_num,R.1,Hst.out _ _ (by omega) (by omega) (by omega),R.2⟩
     case measure=>simp[intOf];omega
    ·have hneg2: ¬((x:Int)-(c:Int)-(y:Int))<0:=by omega
     go_wp2_with (at_builtin;refine wpList_append_own _ rfl _ _ 28 rfl w.heap.size 3 i0 (yi 0) 1 8 underlying28 hi hz0 hz1 hz2 rfl (by decide) _ _ _ rfl (World.ownsRow.alloc own _) ⟨wr.heap.size,0,none⟩ 1 1 [yi ((x:Int)-(c:Int)-(y:Int))] rfl rfl ?d1 ?d2 ?d3 ?d4 ?d5 ?_)
     try (case d1=>exact cell_one_new _ _ _)
     case d2=>first|rfl| (intro u hu;simp at hu;subst hu;rfl)| (simp;done)| (simp[Value.oneCell'];done)| (trace_state;fail)
     case d3=>unfold maxLen;omega
     case d4=>omega
     case d5=>first|omega| (simp;omega)
     intro v' w3 hown' hgrow _;have R:=fin _ (x-y-c) (by omega) v' w3 hown' hgrow;clear hown' hgrow own fin
     go_wp2
     go_roundw
     case rel=>exact⟨k+1,0,_,by omega,by go_num,by go_num,R.1,Hst.out _ _ (by omega) (by omega) (by omega),R.2⟩
     case measure=>simp[intOf];omega
   ·have hy:=hy0 h2
    subst hy;clear hcy hy0
    by_cases hneg:x<c
    ·have hneg2:((x:Int)-(c:Int))<0:=by omega
     go_wp2_with (at_builtin;refine wpList_append_own _ rfl _ _ 28 rfl w.heap.size 3 i0 (yi 0) 1 8 underlying28 hi hz0 hz1 hz2 rfl (by decide) _ _ _ rfl (World.ownsRow.alloc own _) ⟨wr.heap.size,0,none⟩ 1 1 [yi ((x:Int)-(c:Int)+65536)] rfl rfl ?e1 ?e2 ?e3 ?e4 ?e5 ?_)
     try (case e1=>exact cell_one_new _ _ _)
     case e2=>first|rfl| (intro u hu;simp at hu;subst hu;rfl)| (simp;done)| (simp[Value.oneCell'];done)| (trace_state;fail)
     case e3=>unfold maxLen;omega
     case e4=>omega
     case e5=>first|omega| (simp;omega)
     intro v' w3 hown' hgrow _;have R:=fin _ (x+65536-c) (by omega) v' w3 hown' hgrow;clear hown' hgrow own fin
     go_wp2
     go_roundw
     case rel=>exact⟨k+1,1,_,by omega,by go_num,by go_num,R.1,Hst.out _ _ (by omega) (by omega) (by omega),R.2⟩
     case measure=>simp[intOf];omega
    ·have hneg2: ¬((x:Int)-(c:Int))<0:=by omega
     go_wp2_with (at_builtin;refine wpList_append_own _ rfl _ _ 28 rfl w.heap.size 3 i0 (yi 0) 1 8 underlying28 hi hz0 hz1 hz2 rfl (by decide) _ _ _ rfl (World.ownsRow.alloc own _) ⟨wr.heap.size,0,none⟩ 1 1 [yi ((x:Int)-(c:Int))] rfl rfl ?f1 ?f2 ?f3 ?f4 ?f5 ?_)
     try (case f1=>exact cell_one_new _ _ _)
     case f2=>first|rfl| (intro u hu;simp at hu;subst hu;rfl)| (simp;done)| (simp[Value.oneCell'];done)| (trace_state;fail)
     case f3=>unfold maxLen;omega
     case f4=>omega
     case f5=>first|omega| (simp;omega)
     intro v' w3 hown' hgrow _;have R:=fin _ (x-c) (by omega) v' w3 hown' hgrow;clear hown' hgrow own fin
     go_wp2
     go_roundw
     case rel=>exact⟨k+1,0,_,by omega,by go_num,by go_num,R.1,Hst.out _ _ (by omega) (by omega) (by omega),R.2⟩
     case measure=>simp[intOf];omega
  ·have hke:k=xs.length:=by omega
   subst hke;have hen:=Nl hI hlb HV.out;have hps:=hI.2.1;have hpl2:ps.length≤2000000:=by omega
   clear hpl;obtain⟨oo,oc,rfl⟩:=own.rd.shape
   go_wp2_with fail
   refine(i9 _ _ _ _ _ own.rd).mono ?_;rintro e w' ⟨n,rfl,hn,rfl⟩;have hnl:=hn.1;have hr:=uE (cap':=n) 65536 (by omega) own.rd hps hn (Nat.le_refl _) (by unfold maxLen;omega);rw[hen] at hr;clear hn hen
   go_wp2
   go_ret
   exact⟨_,rfl,hr,LP (JH own) n n,bel⟩
end Go.Proofs.YtbdokgamhinajaaGreatDoor
