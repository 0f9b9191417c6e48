/-
  Texts laid together: Dz, DivBy, DecW, Aw0, Co2, Co3, Co7, Co13, Co19, Co20, Co21, Co15, Ce1, Gr2, Dt1, Co17, Co18, Lkn, Dn2, Cr11, Eb2, Eb4, Nx2, Ar2, Ar4, Ar5, Rk2, Pa2, Ar8, Oq1, Tx5, Tx13.
-/
import Derived.Test.YtdhpndnncmagiaaGreatDoorMa05
import Derived.Test.YtdhpndnncmagiaaGreatDoorMa06
import Derived.Test.YtdhpndnncmagiaaGreatDoorMa08
set_option maxRecDepth 100000
set_option maxHeartbeats 6400000
namespace Go.Proofs.YtdhpndnncmagiaaGreatDoor
open _root_.Go.Proofs.Tryz
open Go.RowKit
theorem dw {K:Nat}{a:ak}(ha: -(K:Int)≤a.e):V K (bare a)=V K a:=by
 rw[eV,eV];unfold bare
 by_cases h:a.n=0
 ·rw[if_pos h,h];simp[sz]
 ·rw[if_neg h]
  obtain⟨m,h1⟩:=fO h;simp only;rw[lI h1];have:(a.e+(tz a.n:Int)+K).toNat=tz a.n+(a.e+K).toNat:=by omega
  rw[this,Nat.pow_add,←Nat.mul_assoc,Nat.mul_comm _ (2^tz a.n),←h1]
theorem uG (g n cap base:Nat)(zs:List Nat)(d:Nat)(w:World)(ho:Own w base 116 .u32 (.slice (some ⟨g,0,none⟩) n cap) zs)(hs:Dg.Small 4294967296 zs)(hd:0<d)(hd2:d<4294967296)(hl:zs.length≤1000000):
  yC 80 #[.slice (some ⟨g,0,none⟩) n cap,.int .u32 d] w fun e w'=>
   ∃qs,e= .returned (.int .u32 ((Dg.vl 4294967296 zs % d:Nat):Int))∧Own w' base 116 .u32 (.slice (some ⟨g,0,none⟩) n cap) qs∧qs.length=zs.length∧Dg.Small 4294967296 qs∧Dg.vl 4294967296 qs=Dg.vl 4294967296 zs/d∧w.grownBy w' (some g):=by
 have hn:=ho.len;subst hn
 go_enter func80,ntmps80
 go_wp2
 go_loopw [5,6] (fun rv iv wr=> ∃(k r:Nat) (cur:List Nat),k≤zs.length∧iv=yi ((k:Int)-1)∧rv= .int .u32 r∧Own wr base 116 .u32 (.slice (some ⟨g,0,none⟩) zs.length cap) cur∧acQ zs cur d k r∧w.grownBy wr (some g))
  (fun _ iv _=>(intOf iv+1).toNat)
 case atStart=>exact⟨zs.length,0,zs,Nat.le_refl _,rfl,rfl,ho,⟨rfl,hs,hd,fun _ _=>rfl,by simp[Dg.vl]⟩,ib _ _⟩
 case round=>
  obtain⟨k,r,cur,hk,rfl,rfl,own,hI,gr⟩:=hrel
  by_cases hk0:k=0
  ·subst hk0
   go_wp2
   go_ret
   obtain⟨h1,h2,h3,h4,h5⟩:=hI;simp only[List.drop_zero] at h5;have e1:Dg.vl 4294967296 zs/d=Dg.vl 4294967296 cur:=by
    rw[h5,Nat.mul_comm,Nat.mul_add_div hd,Nat.div_eq_of_lt h3];omega
   have e2:Dg.vl 4294967296 zs % d=r:=by
    rw[h5,Nat.mul_comm,Nat.mul_add_mod,Nat.mod_eq_of_lt h3]
   exact⟨cur,by rw[e2];rfl,own,h1,h2,e1.symm,gr⟩
  ·obtain⟨m,rfl⟩: ∃m,k=m+1:=⟨k-1,by omega⟩
   have hlen:=hI.1;have hz:=own.c m (by omega);have hf:=own.f m;have hr:=hI.2.2.1;have hzs:=hs m;rw[hI.2.2.2.1 m (by omega)] at hz;obtain⟨z,ez⟩: ∃z,zs.getD m 0=z:=⟨_,rfl⟩;rw[ez] at hz hzs;have Hz:Hid _:=ez;clear ez;have hq:=I6 (t:=r*4294967296+z) hr hzs rfl
   go_wp2_with fail
   refine(Vb r z d wr hr hzs hd2).mono ?_;rintro e w1 ⟨rfl,bel⟩;have own1:=own.l bel;have hz1:=own1.c m (by omega);have hf1:=own1.f m;have gr1:=eF gr (Ew (some g) bel)
   go_wp2
   go_roundw
   case rel=>exact⟨m,_,_,by omega,by go_num,rfl,own1.store m _,Tx hI (by omega) (by rw[Hz.out]) hd hq,eF gr1 (bI _ _ _ _)⟩
   case measure=>simp[intOf]
theorem Kv (g n cap base m:Nat)(w:World)(ho:Own w base 116 .u32 (.slice (some ⟨g,0,none⟩) n cap) (Dg.dg 4294967296 m))(hl:(Dg.dg 4294967296 m).length≤1000000):
  yC 80 #[.slice (some ⟨g,0,none⟩) n cap,.int .u32 1000000000] w fun e w'=>
   ∃qs,e= .returned (.int .u32 ((m % 1000000000:Nat):Int))∧Own w' base 116 .u32 (.slice (some ⟨g,0,none⟩) n cap) qs∧Dg.Small 4294967296 qs∧Dg.vl 4294967296 qs=m/1000000000∧w.grownBy w' (some g):=by
 have:=uG g n cap base (Dg.dg 4294967296 m) 1000000000 w ho (Dg.small_dg _ _ (by omega)) (by omega) (by omega) hl;rw[Dg.vl_dg _ _ (by omega)] at this;refine Calls.mono this ?_;rintro e w' ⟨qs,h1,h2,h3,h4,h5,h6⟩;exact⟨qs,h1,h2,h4,h5,h6⟩
theorem afy {P:Program}{w0 w:World}{n b:Nat}{ty:TypeId}{z0 z1 z2:Value}{d:TypeDesc}(h:au w b ty [z0,z1,z2])(hb:Below n w0 w)(hn:n≤b)(hu:P.underlying ty=some d)(hd:d.isRow=true)(hi:(P.info? ty).map (·.size)=some 3)(v0 v1 v2:Value):
  (loadVar ty ⟨b,0,none⟩).run P (((w.setCell ⟨b,0,none⟩ v0).setCell ⟨b,1,none⟩ v1).setCell ⟨b,2,none⟩ v2)= .ok (.agg #[v0,v1,v2]) (((w.setCell ⟨b,0,none⟩ v0).setCell ⟨b,1,none⟩ v1).setCell ⟨b,2,none⟩ v2)∧Below n w0 (((w.setCell ⟨b,0,none⟩ v0).setCell ⟨b,1,none⟩ v1).setCell ⟨b,2,none⟩ v2)∧But b w (((w.setCell ⟨b,0,none⟩ v0).setCell ⟨b,1,none⟩ v1).setCell ⟨b,2,none⟩ v2):=by
 have cR:au (((w.setCell ⟨b,0,none⟩ v0).setCell ⟨b,1,none⟩ v1).setCell ⟨b,2,none⟩ v2) b ty [v0,v1,v2]:=(((h.set 0 v0).set 1 v1).set 2 v2);have bu:=((ag w b 0 v0).trans (ag _ b 1 v1)).trans (ag _ b 2 v2);exact⟨run_loadVar_mid (P:=P) _ b 0 ty [v0,v1,v2] _ cR.range hu hd hi,bu.below hb hn,bu⟩
theorem dL {P:Program}{w0 w:World}{n b:Nat}{ty:TypeId}{z0 z1 z2 z3 z4:Value}{d:TypeDesc}(h:au w b ty [z0,z1,z2,z3,z4])(hb:Below n w0 w)(hn:n≤b)(hu:P.underlying ty=some d)(hd:d.isRow=true)(hi:(P.info? ty).map (·.size)=some 5)(v0 v1 v2 v3 v4:Value):
  (loadVar ty ⟨b,0,none⟩).run P (((((w.setCell ⟨b,0,none⟩ v0).setCell ⟨b,1,none⟩ v1).setCell ⟨b,2,none⟩ v2).setCell ⟨b,3,none⟩ v3).setCell ⟨b,4,none⟩ v4)= .ok (.agg #[v0,v1,v2,v3,v4]) (((((w.setCell ⟨b,0,none⟩ v0).setCell ⟨b,1,none⟩ v1).setCell ⟨b,2,none⟩ v2).setCell ⟨b,3,none⟩ v3).setCell ⟨b,4,none⟩ v4)∧Below n w0 (((((w.setCell ⟨b,0,none⟩ v0).setCell ⟨b,1,none⟩ v1).setCell ⟨b,2,none⟩ v2).setCell ⟨b,3,none⟩ v3).setCell ⟨b,4,none⟩ v4)∧But b w (((((w.setCell ⟨b,0,none⟩ v0).setCell ⟨b,1,none⟩ v1).setCell ⟨b,2,none⟩ v2).setCell ⟨b,3,none⟩ v3).setCell ⟨b,4,none⟩ v4):=by
 have cR:au (((((w.setCell ⟨b,0,none⟩ v0).setCell ⟨b,1,none⟩ v1).setCell ⟨b,2,none⟩ v2).setCell ⟨b,3,none⟩ v3).setCell ⟨b,4,none⟩ v4) b ty [v0,v1,v2,v3,v4]:=(((((h.set 0 v0).set 1 v1).set 2 v2).set 3 v3).set 4 v4);have bu:=((((ag w b 0 v0).trans (ag _ b 1 v1)).trans (ag _ b 2 v2)).trans (ag _ b 3 v3)).trans (ag _ b 4 v4);exact⟨run_loadVar_mid (P:=P) _ b 0 ty [v0,v1,v2,v3,v4] _ cR.range hu hd hi,bu.below hb hn,bu⟩
set_option maxRecDepth 20000 in
theorem jG (w:World):yC 71 #[] w (yR w (.agg Ar.toArray)):=by
 have l0:au (w.alloc (.cells Tryz.zeroCells153 153)) w.heap.size 153 Tryz.zeroCells153.toList:=by
  have:=ah w Tryz.zeroCells153.toList 153
  rwa [Array.toArray_toList] at this
 have th:=l0.there 81 (by kernel_rfl);have cR:=l0.sets Ar (by kernel_rfl);have bu:=de w.heap.size Ar 0 (w.alloc (.cells Tryz.zeroCells153 153));have bR:=bu.below (af w (.cells Tryz.zeroCells153 153)) (Nat.le_refl _);have hl:=run_loadVar_mid (P:=Tryz.prog) _ w.heap.size 0 153 Ar _ cR.range underlying153 rfl (by kernel_rfl);have HH:Hid (_∧_):=⟨hl,bR⟩;clear hl bR cR bu l0
 go_enter func71,ntmps71
 go_wp2_with (refine wpList_store_mid rfl 153 (.tmp 0) (.tmp 28) rfl w.heap.size 0 #[yi 0,yi 0,yi 0,yi 0,.bool false,yi 0,yi 0,yi 0,.nilFunc,yi 2,yi 24,yi (-149),yi 104,.bool true,yi 4,yi 8,yi 1,.func (.func 139) #[] #[],yi 2,yi 53,yi (-1074),yi 971,.bool true,yi 8,yi 11,yi 1,.func (.func 139) #[] #[],yi 2,yi 64,yi (-16445),yi 16320,.bool true,yi 10,yi 15,yi 1,.func (.func 140) #[] #[],yi 16,yi 6,yi (-70),yi 57,.bool false,yi 4,yi 7,yi 2,.func (.func 139) #[] #[],yi 16,yi 14,yi (-78),yi 49,.bool false,yi 8,yi 7,yi 2,.func (.func 139) #[] #[],yi 2,yi 24,yi (-151),yi 103,.bool false,yi 4,yi 8,yi 3,.func (.func 141) #[] #[],yi 2,yi 56,yi (-183),yi 71,.bool false,yi 8,yi 8,yi 3,.func (.func 141) #[] #[],yi 2,yi 53,yi (-1076),yi 970,.bool false,yi 8,yi 11,yi 3,.func (.func 141) #[] #[]] rfl rfl th (by kernel_rfl) (by simp[Value.oneCell']) ?_)
 change bodyPost _ _ _ _ _ (World.setCells (w.alloc (.cells Tryz.zeroCells153 153)) w.heap.size 0 Ar);obtain⟨hl,bR⟩:=HH.out;generalize World.setCells (w.alloc (.cells Tryz.zeroCells153 153)) w.heap.size 0 Ar=W at hl bR⊢;exact bodyPost_ret (v:= .agg Ar.toArray) (br results71 rfl hl) rfl ⟨rfl,bR⟩
def tC (w:World)(n:Nat)(c:Int)(e:Ending)(w':World):Prop:=
 e= .returned (.tuple #[.agg (tS n).toArray,yi c])∧yB w w'
theorem lR (n:Int)(w:World)(h:dK n=0):yC 36 #[yi n] w (tC w 0 6):=by
 have hf:=jk n;rw[h] at hf;have HF:Hid _:=hf;clear hf h;have l0:=ah w (yzL 0 0 0 0 false 0 0 0) 94;have hsn:=gn;have b0:=af w (.cells (yzA 0 0 0 0 false 0 0 0) 94);have hl:=run_loadVar_mid (P:=Tryz.prog) _ w.heap.size 0 94 (tS 0) _ l0.range underlying94 rfl (by kernel_rfl);have HH:Hid (_∧_):=⟨hl,b0⟩;clear hl b0 l0
 go_enter func36,ntmps36
 go_wp2_with fail
 refine(HF.out _).mono ?_;rintro z w' ⟨rfl,rfl⟩
 go_wp2
 obtain⟨hl,bR⟩:=HH.out;exact bodyPost_ret (aj results36 rfl rfl hl) rfl ⟨rfl,bR⟩
theorem Cq (zs:List Nat):(Bg zs).length=zs.length:=by simp[Bg]
theorem Fl (zs:List Nat)(i:Nat)(h:i<zs.length):(Bg zs).getD i 0=zs.getD (i+1-2*(i % 2)) 0:=by
 simp[Bg,List.getD_eq_getElem?_getD,h]
theorem aa3 {zs cur:List Nat}{i:Nat}(h:WI zs cur i)(hi:2*i+1<zs.length):WI zs ((cur.set (2*i) (cur.getD (2*i+1) 0)).set (2*i+1) (cur.getD (2*i) 0)) (i+1):=by
 obtain⟨h1,h3⟩:=h;refine⟨by simpa using h1,fun k hk=> ?_⟩
 rw[Dg.getD_set _ _ _ _ (by simp;omega),Dg.getD_set _ _ _ _ (by omega)]
 by_cases e1:2*i+1=k
 ·rw[if_pos e1,if_pos (by omega),h3 _ (by omega),if_neg (by omega),←e1]
  congr 1
  omega
 ·rw[if_neg e1]
  by_cases e2:2*i=k
  ·rw[if_pos e2,if_pos (by omega),h3 _ (by omega),if_neg (by omega),←e2]
   congr 1
   omega
  ·rw[if_neg e2,h3 k hk]
   by_cases e3:k<2*i
   ·rw[if_pos e3,if_pos (by omega)]
   ·rw[if_neg e3,if_neg (by omega)]
theorem ac1 {zs cur:List Nat}{i:Nat}(h:WI zs cur i)(hi:zs.length≤2*i):cur=Bg zs:=by
 obtain⟨h1,h3⟩:=h;apply List.ext_getElem (by rw[Cq];exact h1);intro k hk1 hk2;have hk:k<zs.length:=by omega
 have e1:cur.getD k 0=cur[k]:=by simp[List.getD_eq_getElem?_getD,hk1]
 have e2:(Bg zs).getD k 0=(Bg zs)[k]:=by simp only[List.getD_eq_getElem?_getD,List.getElem?_eq_getElem hk2,Option.getD_some]
 rw[←e1,←e2,h3 k hk,if_pos (by omega),Fl zs k hk]
theorem nM (k:Nat)(zs:List Nat):(jT k zs).length=zs.length:=by
 unfold jT
 split
 ·simp
 ·split
  ·exact Cq zs
  ·rfl
theorem xi (k:Nat)(zs:List Nat)(h:Dg.Small 256 zs):Dg.Small 256 (jT k zs):=by
 unfold jT
 split
 ·intro i
  by_cases hi:i<zs.length
  ·rw[List.getD_eq_getElem?_getD,List.getElem?_reverse hi,←List.getD_eq_getElem?_getD]
   exact h _
  ·rw[List.getD_eq_getElem?_getD,List.getElem?_eq_none (by simpa using hi)]
   simp
 ·split
  ·intro i
   by_cases hi:i<zs.length
   ·rw[Fl zs i hi]
    exact h _
   ·rw[List.getD_eq_getElem?_getD,List.getElem?_eq_none (by rw[Cq];omega)]
    simp
  ·exact h
def kU (k:Nat)(ng:Bool)(e f:Nat):List Nat:=jT k (iS (1+exN k) (frN k) f (iS 1 (exN k) e (if ng then iS 0 1 1 (List.replicate (szN k) 0) else List.replicate (szN k) 0)))
theorem Mx (k:Nat)(ng:Bool)(e f:Nat):(kU k ng e f).length=szN k:=by
 unfold kU;rw[nM,il,il]
 split
 ·rw[il,List.length_replicate]
 ·rw[List.length_replicate]
theorem MQ (R D L G fam:Int)(gr:Bool)(sz ex:Nat)(F:Nat)(c:Int)(q3 q1 qf:Bool)(w:World)(h3:(c==3)=q3)(h1:(c==1)=q1)(hf:(fam != 3)=qf):yC 163 #[ylV R D L G gr sz ex fam F,yi c] w (yR w (.bool (q3||q1&&qf))):=by
 have hsf:=cD;have b0:=af w (.cells (ylA R D L G gr sz ex fam F) 94)
 cases q3<;>cases q1<;>cases qf
 all_goals go_enter func163,ntmps163
 all_goals go_wp2
 all_goals go_ret
 all_goals exact⟨rfl,b0⟩
theorem Qa (k c:Nat)(hk:1≤k∧k≤8)(hc:c=1∨c=3∨c=4∨c=5)(w:World):
  yC 163 #[.agg (tS k).toArray,yi c] w (yR w (.bool (Bk k c))):=by
 rcases bO hk with rfl|rfl|rfl|rfl|rfl|rfl|rfl|rfl
 all_goals rcases hc with rfl|rfl|rfl|rfl
 all_goals first
  |exact MQ _ _ _ _ _ _ _ _ _ _ _ _ true w rfl rfl rfl
  |exact MQ _ _ _ _ _ _ _ _ _ _ _ _ false w rfl rfl rfl
def Fv (k c dn:Nat)(ng:Bool)(p:Int):ByteArray:=if qX k c dn ng p=0 then cF (kU k (pI k c||ng) (pg k c) (lS k c)) else⟨#[]⟩
theorem Fw {k:Nat}(c:Nat)(hk:1≤k∧k≤8):pg k c<65536:=by
 have h:kp k<65536:=by rcases bO hk with rfl|rfl|rfl|rfl|rfl|rfl|rfl|rfl<;>decide
 unfold pg
 split<;>omega
theorem Fx {k:Nat}(c:Nat)(hk:1≤k∧k≤8):lS k c<18446744073709551616:=by
 have h1:wrN k<2^64:=by rcases bO hk with rfl|rfl|rfl|rfl|rfl|rfl|rfl|rfl<;>decide
 have h2:gW k<2^64:=by rcases bO hk with rfl|rfl|rfl|rfl|rfl|rfl|rfl|rfl<;>decide
 unfold lS
 split
 ·split
  ·exact h1
  ·split
   ·exact Nat.or_lt_two_pow (n:=64) h1 (by omega)
   ·omega
 ·omega
theorem KH (x:Nat)(hx:x<18446744073709551616)(w:World):
  yC 145 #[.int .u64 x] w fun z w'=> ∃v,z= .returned v∧Own w' w.heap.size 116 .u32 v (Dg.dg 4294967296 x)∧yB w w':=by
 have hlo:(x:Int) % 4294967296=((x % 4294967296:Nat):Int):=by omega
 have hhi:(x:Int)/4294967296=((x/4294967296:Nat):Int):=by omega
 have hx2:x/4294967296<4294967296:=by omega
 have hx1:x % 4294967296<4294967296:=Nat.mod_lt _ (by omega);have hd:=Nq x;obtain⟨lo,elo⟩: ∃n,x % 4294967296=n:=⟨_,rfl⟩;obtain⟨hi,ehi⟩: ∃n,x/4294967296=n:=⟨_,rfl⟩;rw[elo] at hlo hd hx1;rw[ehi] at hhi hd hx2;have own:Own (w.alloc (.cells #[.int .u32 (lo:Int),.int .u32 (hi:Int)] 116)) w.heap.size 116 .u32 (.slice (some ⟨w.heap.size,0,none⟩) 2 2) [lo,hi]:=
  pr (zs:=[lo,hi]) (heap_alloc_new _ _) (Nat.le_refl _) (by unfold maxLen;simp)
 have htr:=jD (some ⟨w.heap.size,0,none⟩) 2 2 [lo,hi] _ own.rd;have hsm:Dg.Small 4294967296 [lo,hi]:=by
  intro i
  match i with
  |0=>exact hx1
  |1=>exact hx2
  |i+2=>simp
 have b0:=af w (.cells #[.int .u32 (lo:Int),.int .u32 (hi:Int)] 116);have HH:Hid (_∧_):=⟨hd,hsm⟩;have hxI:(x:Int)<18446744073709551616:=by omega
 clear elo ehi hd hsm
 go_enter func145,ntmps145
 go_wp2_with fail
 refine htr.mono ?_;rintro z w1 ⟨n,rfl,ht,rfl⟩
 go_wp2
 go_ret
 obtain⟨hd,hsm⟩:=HH.out;refine⟨_,rfl, ?_,b0⟩;have:=Dg.trim_eq 4294967296 (by omega) [lo,hi] n hsm ht.1 ht.2.1 ht.2.2;rw[hd] at this;rw[←this];exact own.take n ht.1
theorem XF (va:Value)(xs:List Nat)(w:World)(ha:Rd w .u32 va xs)(sa:Dg.Small 4294967296 xs)(hl:xs.length≤2):
  yC 264 #[va] w fun z w'=>z= .returned (.int .u64 ((Dg.vl 4294967296 xs:Nat):Int))∧w'=w:=by
 obtain⟨ao,ca,rfl,-,-,hca⟩:=ha
 go_enter func264,ntmps264
 go_wp2
 go_loop [3,4] (fun xv iv=> ∃j x:Nat,j≤xs.length∧iv=yi ((j:Int)-1)∧xv= .int .u64 (x:Int)∧Hid (x=Dg.vl 4294967296 (xs.drop j))) (fun _ iv=>(intOf iv+1).toNat)
 case atStart=>exact⟨xs.length,0,Nat.le_refl _,by go_num,rfl,by rw[List.drop_of_length_le (Nat.le_refl _)];rfl⟩
 case round=>
  obtain⟨j,x,hj,rfl,rfl,HX⟩:=hrel
  by_cases h0:0<j
  ·obtain⟨i,rfl⟩: ∃i,j=i+1:=⟨j-1,by omega⟩
   rw[show((i+1:Nat):Int)-1=(i:Int) from by omega]
   obtain⟨b,off,rfl,hcell⟩:=hca (by omega);have hc:=hcell i (by omega);have hs:=sa i;have hx:=HX.out;have hxl:x<4294967296:=by
    have h1:=Dg.vl_lt 4294967296 (xs.drop (i+1)) (fun k=>by
     rw[List.getD_eq_getElem?_getD,List.getElem?_drop,←List.getD_eq_getElem?_getD];exact sa _)
    rw[←hx,List.length_drop] at h1;have h2:(4294967296:Nat)^ (xs.length-(i+1))≤4294967296^1:=Nat.pow_le_pow_right (by omega) (by omega);omega
   have hst:Dg.vl 4294967296 (xs.drop i)=xs.getD i 0+4294967296*x:=by
    rw[hx,List.drop_eq_getElem_cons (show i<xs.length by omega),Dg.vl]
    simp[List.getD_eq_getElem?_getD,show i<xs.length by omega]
   obtain⟨a,ea⟩: ∃a,xs.getD i 0=a:=⟨_,rfl⟩;rw[ea] at hc hs hst;have hil:i<xs.length:=by omega
   have HST:Hid _:=hst;clear ea hst hx hcell hca HX
   go_wp2
   have hst:=HST.out;refine⟨⟨i,a+4294967296*x,by omega,rfl, ?_,hst.symm⟩, ?_⟩
   ·rw[TZ x a hxl hs]
   ·simp only[intOf]
    omega
  ·have hd: ¬((0:Int)≤(j:Int)-1):=by omega
   have HJ:Hid (j=0):=(by omega:j=0)
   go_wp2
   go_ret
   have h1:=HJ.out;subst h1;have:=HX.out;rw[List.drop_zero] at this;rw[←this];exact⟨rfl,rfl⟩
theorem aaI (v:Value)(n:Nat)(w:World)(h:Rd w .u32 v (Dg.dg 4294967296 n)):yC 52 #[v] w fun z w'=>z= .returned (.bool (decide (n % 2=1)))∧w'=w:=by
 have hh:=Sb 4294967296 n (by omega);have hnl:=Dg.dg_nil_iff 4294967296 n (by omega);obtain⟨ao,ca,rfl⟩:=h.shape;obtain⟨h1,h2,h3⟩:=iQ h;have hm2:n % 4294967296 % 2=n % 2:=by omega
 obtain⟨m,hm⟩: ∃m,n % 4294967296=m:=⟨_,rfl⟩;rw[hm] at hh hm2;have hml:m<4294967296:=by omega
 by_cases h0:n=0
 ·have hl:(Dg.dg 4294967296 n).length=0:=by rw[List.length_eq_zero_iff];exact hnl.2 h0
  rw[hl];have hd:decide (n % 2=1)=false:=by rw[h0];rfl
  rw[hd];clear h0 hh hm2 hm hml hnl h1 h2 h3 h hl hd
  go_enter func52,ntmps52
  go_wp2
  go_ret
  exact⟨rfl,rfl⟩
 ·have hl:0< (Dg.dg 4294967296 n).length:=by
   rcases Nat.eq_zero_or_pos (Dg.dg 4294967296 n).length with h4|h4
   ·exact absurd (hnl.1 (List.length_eq_zero_iff.1 h4)) h0
   ·exact h4
  obtain⟨b,off,rfl,hc⟩:=h3 hl;have c0:=hc 0 hl;rw[hh,Nat.add_zero] at c0;obtain⟨L,hL⟩: ∃L,(Dg.dg 4294967296 n).length=L:=⟨_,rfl⟩;rw[hL] at hl h1⊢;have hl0:(0:Int)< (L:Int):=by omega
  have ht:(m:Int).tmod 2=((m % 2:Nat):Int):=by
   rw[Int.tmod_eq_emod_of_nonneg (by omega)];omega
  have ht2:(m:Int) % 2=((m % 2:Nat):Int):=by omega
  clear hc h3 hL hh hm hnl h
  by_cases hodd:n % 2=1
  ·have e1:m % 2=1:=by omega
   rw[e1] at ht ht2
   go_enter func52,ntmps52
   go_wp2
   go_ret
   simp[hodd]
  ·have e1:m % 2=0:=by omega
   rw[e1] at ht ht2
   go_enter func52,ntmps52
   go_wp2
   go_ret
   simp[hodd]
theorem nt {n:Nat}{e:Int}(h:(Dg.dg 4294967296 n).length≤1200)(h1: -20000≤e)(h2:e≤20000):aS (Dg.dg 4294967296 n) e=0:=by
 unfold aS;rw[pJ (Dg.norm_dg _ _ (by omega)) h,if_pos rfl,if_neg (by omega)]
theorem ab9 {k:Nat}(hk:1≤k∧k≤8){e:Nat}(he:e<65536): -100000≤ii k e∧ii k e≤100000:=by
 have h: -20000≤lsI k∧lsI k≤0:=by rcases bO hk with rfl|rfl|rfl|rfl|rfl|rfl|rfl|rfl<;>decide
 unfold ii
 split
 ·omega
 ·split<;>omega
def gJ (n:Int)(s:ByteArray):Nat:=if dF n s=0 then ge n.toNat (aZ n.toNat s) (aR n.toNat s) (aU n.toNat s) else 0
def iF (n:Int)(s:ByteArray):Int:=if dF n s=0 then gw n.toNat (aZ n.toNat s) (aR n.toNat s) (aU n.toNat s) else 0
theorem t9 {w:World}{k:IntKind}{v:Value}{zs:List Nat}(h:Rd w k v zs){b:Nat}(hb:w.heap.size≤b):wF b v zs:=fun hp a n c hv=>by
 obtain⟨ao,cap,rfl,_,_,h3⟩:=h;obtain⟨g,off,rfl,hc⟩:=h3 hp
 cases hv
 have h0:=hc 0 hp
 show g≠b
 intro e;subst e;unfold World.cell? at h0;simp only at h0;rw[Array.getElem?_eq_none hb] at h0
 cases h0
theorem wK {t:ak}(h1:(Dg.dg 4294967296 (bare t).n).length≤1200)(h2: -20000≤(bare t).e)(h3:(bare t).e≤20000):bU t=(bare t,0):=by
 unfold bU;rw[if_neg (by omega),if_neg (by omega)]
theorem Va {k:Nat}(hk:1≤k∧k≤8){ng:Bool}{E F:Nat}(hE:E<2^exN k)(hF:F<2^frN k)(hF64:F<2^64)(hc:dh k ng E F=2)(hr:rdN k=2):
  ge k ng E F=(ji k ng E F).n∧gw k ng E F=(ji k ng E F).e:=by
 rw[iq hk hE hF hc];unfold ge gw;rw[if_pos hc,if_pos hc,hr];have h0:=jX hc;have hl:=vS hk E hF64;generalize iI k E F=D at*;generalize ii k E=P at*;obtain⟨m,hm⟩:=fO (n:=D) (by omega);have hd:=lI hm;have hs:=FZ 2 (by omega) (tz D) 64 (2*m+1) P (by omega) (by rw[←hm];exact hl);rw[←hm] at hs;rw[hs];unfold bare;rw[if_neg (by show¬D=0;omega)]
 refine⟨hd.symm, ?_⟩
 show P+(tz D:Int)=wdI ((2:Nat):Int)*P+(tz D:Int)
 rw[show wdI ((2:Nat):Int)=1 from by decide,Int.one_mul]
theorem mZ {k:Nat}(hk:1≤k∧k≤8){f:Nat}(h:f<2^frN k):f<2^64:=
 Nat.lt_of_lt_of_le h (Nat.pow_le_pow_right (by omega) (fZ hk).2.2.2.1)
theorem Cu (k:Nat)(s:ByteArray):aR k s<2^exN k∧aU k s<2^frN k:=⟨gh _ _ _,gh _ _ _⟩
theorem uR (s:Bool)(e:Int):bU ⟨s,0,e⟩=(⟨false,0,0⟩,0):=by
 have hb:bare ⟨s,0,e⟩=⟨false,0,0⟩:=by simp[bare]
 unfold bU;rw[hb];simp only;rw[show Dg.dg 4294967296 0=[] from(Dg.dg_nil_iff _ _ (by omega)).2 rfl]
 rfl
theorem TS {k:Nat}(hk:1≤k∧k≤8){E:Nat}(hE:E<2^exN k): -16445≤(ai (rdN k):Int)*ii k E∧(ai (rdN k):Int)*ii k E≤16400∧ -16445≤ii k E∧ii k E≤16400:=by
 have hf:(rdN k=16∧ai (rdN k)=4∧ -78≤lsI k∧lsI k≤0∧2^exN k=128)∨(rdN k≠16∧ai (rdN k)=1∧ -16445≤lsI k∧lsI k+((2^exN k:Nat):Int)≤16400):=by
  rcases bO hk with rfl|rfl|rfl|rfl|rfl|rfl|rfl|rfl<;>decide
 unfold ii
 rcases hf with⟨h1,h2,h3,h4,h5⟩| ⟨h1,h2,h3,h4⟩
 ·rw[if_pos h1,h2]
  omega
 ·rw[if_neg h1,h2]
  split<;>omega
theorem J8 {k:Nat}(hk:1≤k∧k≤8)(ng:Bool)(E:Nat){F:Nat}(hF:F<2^64):ge k ng E F<2^64:=by
 unfold ge
 split
 ·exact Nat.lt_of_le_of_lt (GI _ _ _ _) (vS hk E hF)
 ·decide
theorem sV.snoc {w:World}{n:Int}{g:Option Nat}{p:ByteArray}{v:Value}(hv:F7 w n g p v): ∀{ps:List ByteArray} {cs:List Value},sV w n g ps cs→sV w n g (ps++[p]) (cs++opC n p v)
 | [],cs,hc=>by
  have:cs=[]:=hc;subst this;exact⟨v,[],by simp,hv,rfl⟩
 |q::_,_,hc=>by
  obtain⟨u,rest,h1,h2,h3⟩:=hc;subst h1;exact⟨u,rest++opC n p v,by simp,h2,sV.snoc hv h3⟩
def QH (w:World)(n:Int)(ps:List ByteArray)(z:Ending)(w':World):Prop:=
 (fT n ps=0∧ ∃v cs,z= .returned (.tuple #[v,yi 0])∧w'.ownsRow w.heap.size 88 5 v ps.length cs∧sV w' n v.ownBlock ps cs∧yB w w')∨
 (fT n ps≠0∧z= .returned (.tuple #[yN,yi (fT n ps)])∧yB w w')
theorem Sh {w:World}{n:Int}{g:Option Nat}: ∀{ps:List ByteArray} {cs:List Value} {i:Nat} {p:ByteArray},sV w n g ps cs→ps[i]? =some p→ ∃v,F7 w n g p v∧ ∀j u,(opC n p v)[j]? =some u→cs[5*i+j]? =some u
 | [],_,_,_,_,hp=>by simp at hp
 |q::ps,cs,0,p,hc,hp=>by
  obtain⟨v,rest,h1,h2,h3⟩:=hc;have:q=p:=by simpa using hp
  subst this;refine⟨v,h2,fun j u hj=> ?_⟩
  subst h1;rw[List.getElem?_append_left]
  ·simpa using hj
  ·have:=(List.getElem?_eq_some_iff.1 hj).1
   omega
 |q::ps,cs,i+1,p,hc,hp=>by
  obtain⟨v,rest,h1,h2,h3⟩:=hc;obtain⟨u,h4,h5⟩:=Sh h3 (by simpa using hp);refine⟨u,h4,fun j x hj=> ?_⟩
  subst h1;rw[List.getElem?_append_right (by simp[opC];omega)];have:=h5 j x hj;rw[show 5*(i+1)+j-(opC n q v).length=5*i+j from by simp[opC];omega]
  exact this
theorem JF {w:World}{n:Int}{ps:List ByteArray}{base:Nat}{v:Value}{cs:List Value}(h0:ps≠[])(ho:w.ownsRow base 88 5 v ps.length cs)(hat:sV w n v.ownBlock ps cs):
  ∃g cap,v= .slice (some ⟨g,0,none⟩) ps.length cap∧sF w n ps g cap:=by
 rcases ho.2 with⟨-,h⟩| ⟨g,cap,cur,hv,-,-,h1,h2,-,-⟩
 ·exact absurd (List.eq_nil_of_length_eq_zero h) h0
 ·refine⟨g,cap,hv,h1,h2,fun i p hp=> ?_⟩
  obtain⟨u,⟨⟨so,sc,rfl⟩,k2,k3⟩,k4⟩:=Sh hat hp;refine⟨so,sc,fun j x hj=> ?_,k2⟩
  have:=ho.cells (g:=g) (by rw[hv];rfl) (5*i+j) x (k4 j x hj);rw[Addr.add_mid,Nat.zero_add] at this;rw[Nat.mul_comm i 5];exact this
def dO (n:Int)(p:ByteArray):Bool:=decide (bM n p=4∨bM n p=5)
theorem FC {n k:Nat}(h:n≠0):2^k∣n↔k≤tz n:=by
 obtain⟨m,hm⟩:=fO h
 constructor
 ·intro hd
  by_cases g:k≤tz n
  ·exact g
  exfalso
  obtain⟨c,hc⟩:=hd;have e:2^k=2^tz n*(2*2^ (k-tz n-1)):=by
   rw[←Nat.pow_succ',←Nat.pow_add]
   congr 1
   omega
  have h2:2^tz n*(2*m+1)=2^tz n*(2*(2^ (k-tz n-1)*c)):=by
   refine hm.symm.trans (hc.trans ?_);rw[e,Nat.mul_assoc,Nat.mul_assoc]
  have:=Nat.eq_of_mul_eq_mul_left (bG (tz n)) h2;omega
 ·intro g
  refine⟨2^ (tz n-k)*(2*m+1), ?_⟩;rw[←Nat.mul_assoc,←Nat.pow_add,show k+(tz n-k)=tz n from by omega]
  exact hm
theorem ab7 {t:ak}(h0:t.n≠0)(h:sH t):(Dg.dg 4294967296 (rtN t)).length≤1200∧(Dg.dg 4294967296 (rtM t)).length≤1200∧ -20000≤rtE t∧rtE t≤20000:=by
 obtain⟨h1,h2⟩:=h;obtain⟨k1,k2,k3,k4,k5⟩:=qY t h0;have hk:(eQ t).e≤50000:=by
  by_cases g:bitLen t.n≤128
  ·rw[show eQ t=t from if_pos g]
   omega
  ·omega
 have hE: -20000≤rtE t∧rtE t≤20000:=by unfold rtE;omega
 refine⟨?_, ?_,hE⟩
 ·have:rtN t<2^ (129+((eQ t).e-rtE t).toNat):=by
   unfold rtN;rw[Nat.pow_add];exact Nat.mul_lt_mul_of_pos_right k3 (bG _)
  exact jq this (by unfold rtE;omega)
 ·have:rtM t<2^ ((rtE t-(eQ t).e).toNat+1):=by
   unfold rtM;exact Nat.pow_lt_pow_right (by omega) (by omega)
  exact jq this (by unfold rtE;omega)
theorem Fm {k:Nat}(hk:1≤k∧k≤8){ng:Bool}{E F:Nat}(hc:dh k ng E F≠2):ji k ng E F=⟨false,0,0⟩:=by
 by_cases h1:dh k ng E F=1
 ·exact zd hk h1
 have h2:2^exN k=kp k+1:=by
  rcases bO hk with rfl|rfl|rfl|rfl|rfl|rfl|rfl|rfl<;>decide
 have h63:k=3→2^ (dgN k-1)=2^63:=fun h=>by subst h;rfl
 unfold dh at hc h1;unfold ji
 by_cases h3:k≤3
 ·rw[if_pos h3] at hc h1
  by_cases he:E=0
  ·rw[if_pos he] at hc h1
   by_cases hf:F=0
   ·rw[if_pos hf] at h1
    exact absurd rfl h1
   ·rw[if_neg hf] at hc
    exact absurd rfl hc
  ·rw[if_neg he] at hc
   by_cases ho:E=kp k
   ·by_cases h4:k=3
    ·rw[if_pos h4,if_pos (.inl (by omega))]
    ·rw[if_neg h4,if_pos (by omega),if_pos (by omega)]
   ·rw[if_neg ho] at hc
    by_cases h4:k=3∧F<2^63
    ·rw[if_pos h4.1,if_pos (.inr ⟨by omega,by rw[h63 h4.1];exact h4.2⟩)]
    ·rw[if_neg h4] at hc
     exact absurd rfl hc
 ·rw[if_neg h3] at hc h1
  rw[if_neg (show¬k=3 by omega),if_neg (show¬k≤2 by omega)]
  by_cases h5:k≤5
  ·rw[if_pos h5] at hc h1
   by_cases hf:F=0
   ·rw[if_pos hf] at h1
    exact absurd rfl h1
   ·rw[if_neg hf] at hc
    exact absurd rfl hc
  ·rw[if_neg h5] at hc⊢
   by_cases he:E=0
   ·rw[if_pos he]
   ·rw[if_neg he] at hc
    exact absurd rfl hc
def rfG (n:Int)(p:ByteArray):Bool:=zR n.toNat (aZ n.toNat p) (aR n.toNat p) (aU n.toNat p)
def rfC (n : Int) (p : ByteArray) (v : Value) : List Value := [.int .i64 ((bM n p : Nat) : Int), .bool (rfG n p), .bool (rfT n p).s, v, .int .i64 (rfT n p).e]
def tg (w:World)(n:Int)(g:Option Nat):List ByteArray→List Value→Prop
 | [],cs=>cs=[]
 |p::ps,cs=> ∃v rest,cs=rfC n p v++rest∧Gw w n g p v∧tg w n g ps rest
theorem tg.mono {w w':World}{n:Int}{g g':Option Nat}(h: ∀p v,Gw w n g p v→Gw w' n g' p v): ∀{ps:List ByteArray} {cs:List Value},tg w n g ps cs→tg w' n g' ps cs
 | [],_,hc=>hc
 |p::_,_,hc=>by
  obtain⟨v,rest,h1,h2,h3⟩:=hc;exact⟨v,rest,h1,h p v h2,tg.mono h h3⟩
structure ab5 (w:World) (n:Int) (ps:List ByteArray) (g cap:Nat):Prop where
 fit:ps.length≤cap
 most:cap≤maxLen
 each: ∀(i:Nat) p,ps[i]? =some p→ ∃so sc,w.rangeAt g (i*5) (rfC n p (.slice so (Dg.dg 65536 (rfT n p).n).length sc))∧Rd w .i64 (.slice so (Dg.dg 65536 (rfT n p).n).length sc) (Dg.dg 65536 (rfT n p).n)
theorem size_list (s:ByteArray):s.size=s.data.toList.length:=Array.length_toList.symm
theorem undash_size (a:ByteArray):(undash a).size≤a.size:=by
 unfold undash;rw[mk_size,size_list a];unfold Lib.trimPrefix
 split
 ·rw[List.length_drop]
  omega
 ·exact Nat.le_refl _
theorem cutS_size (c:UInt8)(s:ByteArray):(cutS c s).1.size+(cutS c s).2.1.size≤s.size:=by
 have e1:(cutS c s).1.size=(Lib.cut s.data.toList [c]).1.length:=mk_size _;have e2:(cutS c s).2.1.size=(Lib.cut s.data.toList [c]).2.1.length:=mk_size _;rw[e1,e2,size_list s];unfold Lib.cut
 split
 ·show(List.take _ _).length+(List.drop _ _).length≤_
  rw[List.length_take,List.length_drop]
  show _+(_-(_+1))≤_
  omega
 ·exact Nat.le_refl _
theorem dc_many {x:ak}(hx:x.n<2^64)(e1: -16500≤x.e)(e2:x.e≤16500)(h0:x.n≠0):10^60≤dcW x:=by
 have hb:=bF x.n 64 hx;have hb1:=Gq h0;have hxb:2^ (bitLen x.n-1)≤x.n:=(uB x.n h0).2.1;obtain⟨b,hbb⟩: ∃b,bitLen x.n-1=b:=⟨_,rfl⟩;rw[hbb] at hxb;have hnb:(bitLen x.n:Int)-1+x.e=(b:Int)+x.e:=by omega
 have key:=pb_key (n:=(b:Int)+x.e) (by omega) (by omega);have hG:dcG x=pbV ((b:Int)+x.e):=by unfold dcG;rw[hnb]
 unfold dcW;rw[hG];have hr:=pb_in (n:=(b:Int)+x.e) (by omega) (by omega);generalize pbV ((b:Int)+x.e)=g at key hr⊢;obtain⟨gp,h1⟩: ∃k,g.toNat=k:=⟨_,rfl⟩;obtain⟨gm,h2⟩: ∃k,(-g).toNat=k:=⟨_,rfl⟩;obtain⟨np,h3⟩: ∃k,((b:Int)+x.e).toNat=k:=⟨_,rfl⟩;obtain⟨nm,h4⟩: ∃k,(-((b:Int)+x.e)).toNat=k:=⟨_,rfl⟩;rw[h1,h2,h3,h4] at key;unfold scA scB;rw[Nat.le_div_iff_mul_le (Nat.mul_pos (Nat.pow_pos (by omega)) (Nat.pow_pos (by omega)))];obtain⟨up,h5⟩: ∃k,(60-g).toNat=k:=⟨_,rfl⟩;obtain⟨um,h6⟩: ∃k,(-(60-g)).toNat=k:=⟨_,rfl⟩;obtain⟨tp,h7⟩: ∃k,(x.e+(60-g)).toNat=k:=⟨_,rfl⟩;obtain⟨tm,h8⟩: ∃k,(-(x.e+(60-g))).toNat=k:=⟨_,rfl⟩;rw[h5,h6,h7,h8];refine Nat.le_trans ?_ (Nat.mul_le_mul_right _ (Nat.mul_le_mul_right _ hxb));have a1:60+um+gm=up+gp:=by omega
 have a2:60+tm+np+gm=b+tp+gp+nm:=by omega
 clear h1 h2 h3 h4 h5 h6 h7 h8 hr;refine Nat.le_of_mul_le_mul_right (c:=2^np*10^gm) (Nat.le_trans (Nat.le_of_eq ?_) (Nat.mul_le_mul_left _ key)) (Nat.mul_pos (Nat.pow_pos (by omega)) (Nat.pow_pos (by omega)));rw[ten_parts 60,ten_parts gm,ten_parts gp];have l:2^60*5^60*(5^um*2^tm)*(2^np*(2^gm*5^gm))=2^ (60+tm+np+gm)*5^ (60+um+gm):=by
  simp only[Nat.pow_add]
  ac_rfl
 have r:2^b*5^up*2^tp*(2^gp*5^gp*2^nm)=2^ (b+tp+gp+nm)*5^ (up+gp):=by
  simp only[Nat.pow_add]
  ac_rfl
 rw[l,r,a1,a2]
end Go.Proofs.YtdhpndnncmagiaaGreatDoor
