/-
  Texts laid together: Co7, Ce6, Gr5, Gm1, Dy5, Gr7, Tx3, Ce2, Ce5, As3, As6.
-/
import Derived.Test.YtdhpndnncmagiaaGreatDoorMa14
import Derived.Test.YtdhpndnncmagiaaGreatDoorMa18
import Derived.Test.YtdhpndnncmagiaaGreatDoorMa20
import Derived.Test.YtdhpndnncmagiaaGreatDoorMa23
set_option maxRecDepth 100000
set_option maxHeartbeats 12800000
namespace Go.Proofs.YtdhpndnncmagiaaGreatDoor
open _root_.Go.Proofs.Tryz
open Go.RowKit
theorem Ko (g cap:Nat)(zs:List Nat)(w:World)(ho:ik w g zs)(hl:zs.length≤1000000000):
  yC 81 #[.slice (some ⟨g,0,none⟩) zs.length cap] w fun e w'=>
   e= .returned (.tuple #[])∧ik w' g zs.reverse∧w.grownBy w' (some g):=by
 go_enter func81,ntmps81
 go_wp2
 go_loopw [2,3] (fun iv jv wr=> ∃(i:Nat) (cur:List Nat),iv=yi i∧jv=yi ((zs.length:Int)-1-i)∧ik wr g cur∧XT zs cur i∧w.grownBy wr (some g))
  (fun iv jv _=>(intOf jv+1-intOf iv).toNat)
 case atStart=>exact⟨0,zs,rfl,by go_num,ho,⟨rfl,by omega,fun k hk=>by rw[if_neg (by omega)]⟩,ib _ _⟩
 case round=>
  obtain⟨i,cur,rfl,rfl,own,hI,gr⟩:=hrel;have h1:=hI.1;have h2:=hI.2.1
  by_cases hij:i<zs.length-1-i
  ·obtain⟨j,hj⟩: ∃j,zs.length-1-i=j:=⟨_,rfl⟩
   have hjI:(zs.length:Int)-1-i=(j:Int):=by omega
   have ci:=own.c i (by omega);have cj:=own.c j (by omega);have fi:=own.f i (by omega);have fj:=own.f j (by omega);have hst:=IJ hI hij;rw[hj] at hst hij;rw[hjI];have hjl:j<zs.length:=by omega
   have Hj:Hid _:=hjI;obtain⟨x,ex⟩: ∃x,cur.getD i 0=x:=⟨_,rfl⟩;obtain⟨y,ey⟩: ∃y,cur.getD j 0=y:=⟨_,rfl⟩;rw[ex] at ci hst;rw[ey] at cj hst;clear hj hjI ex ey hI
   go_wp2
   go_region
   all_goals go_wp2
   all_goals go_roundw
   case rel=>exact⟨i+1,_,by go_num,by have:=Hj.out;go_num,((own.store i y).store j x).drew,hst,eF (eF gr (bI _ _ _ _)) ((eF (bI _ _ _ _) (vm _ _)))⟩
   case measure=>have:=Hj.out;simp[intOf];omega
  ·have hd: ¬((i:Int)< (zs.length:Int)-1-i):=by omega
   go_wp2
   go_end0
   rw[←MG hI hij];exact⟨rfl,own,gr⟩
theorem T8 (g cap m:Nat)(zs:List Nat)(w:World)(ho:ik w g zs)(hl:zs.length≤1000000000)(hm:zs.length=2*m):
  yC 141 #[.slice (some ⟨g,0,none⟩) zs.length cap] w fun e w'=>
   e= .returned (.tuple #[])∧ik w' g (Bg zs)∧w.grownBy w' (some g):=by
 go_enter func141,ntmps141
 go_wp2
 go_loopw [2] (fun iv wr=> ∃(i:Nat) (cur:List Nat),iv=yi ((2*i:Nat):Int)∧ik wr g cur∧WI zs cur i∧i≤m∧w.grownBy wr (some g))
  (fun iv _=>((zs.length:Int)-intOf iv).toNat)
 case atStart=>exact⟨0,zs,rfl,ho,⟨rfl,fun k hk=>by rw[if_neg (by omega)]⟩,by omega,ib _ _⟩
 case round=>
  obtain⟨i,cur,rfl,own,hI,him,gr⟩:=hrel;have h1:=hI.1
  by_cases hij:i<m
  ·obtain⟨a,ha⟩: ∃a,2*i=a:=⟨_,rfl⟩
   have ci:=own.c a (by omega);have cj:=own.c (a+1) (by omega);have fi:=own.f a (by omega);have fj:=own.f (a+1) (by omega);have hst:=aa3 hI (by omega);rw[ha] at hst⊢;have hal:a+1<zs.length:=by omega
   have Ha:Hid _:=ha;obtain⟨x,ex⟩: ∃x,cur.getD a 0=x:=⟨_,rfl⟩;obtain⟨y,ey⟩: ∃y,cur.getD (a+1) 0=y:=⟨_,rfl⟩;rw[ex] at ci hst;rw[ey] at cj hst;clear ha ex ey hI hm
   go_wp2
   go_region
   all_goals go_wp2
   all_goals go_roundw
   case rel=>exact⟨i+1,_,by have:=Ha.out;go_num,((own.store a y).store (a+1) x).drew,hst,by omega,eF (eF gr (bI _ _ _ _)) ((eF (bI _ _ _ _) (vm _ _)))⟩
   case measure=>simp[intOf];omega
  ·have hd: ¬(((2*i:Nat):Int)+1< (zs.length:Int)):=by omega
   go_wp2
   go_end0
   rw[←ac1 hI (by omega)];exact⟨rfl,own,gr⟩
abbrev KF:=fieldsOf_set_mg.1
abbrev KG:=fieldsOf_set_mg.2
theorem Qh (R D L G:Int)(gr qs:Bool)(ao:Option Addr)(ca:Nat)(bo:Option Addr)(cb:Nat)(N M:Nat)(E way:Int)(fn:FuncId)(w:World)(hg:bk R D L G=0)
  (ha:Rd w .u32 (.slice ao (Dg.dg 4294967296 N).length ca) (Dg.dg 4294967296 N)) (hb:Rd w .u32 (.slice bo (Dg.dg 4294967296 M).length cb) (Dg.dg 4294967296 M)) (hla:(Dg.dg 4294967296 N).length≤10000) (hlb:(Dg.dg 4294967296 M).length≤10000) (hM:0<M) (e1: -20000≤E) (e2:E≤20000)
  (HE: ∀args W,Sem.run Tryz.prog (callFunc fn args) W= .ok (.enter fn args) W)
  (HAW: ∀half odd neg w1,Calls Tryz.prog fn #[.agg #[.int .i64 half,.bool odd,.bool neg]] w1 fun z w'=>z= .returned (.bool (gY way half odd neg))∧Below w1.heap.size w1 w'):
  Calls Tryz.prog 130 #[.agg #[.int .i64 R,.int .i64 D,.int .i64 L,.int .i64 G,.bool gr],.agg #[.bool qs,.slice ao (Dg.dg 4294967296 N).length ca,.slice bo (Dg.dg 4294967296 M).length cb,.int .i64 E],.func (.func fn) #[] #[]] w (Fk w (cI R D L G gr qs N M E way)):=by
 obtain⟨hR,d1,d2,l1,l2,g1,g2,lg,l16⟩:=cB hg;obtain⟨t1,t2⟩:=FJ N M E hla hlb e1 e2;obtain⟨c1,c2,c3,c4⟩:=Qg (gr:=gr) hg hla hlb e1 e2;have hM0:0<dX M (shP R D L gr N M E):=by unfold dX;split<;>first|exact Nat.mul_pos hM (Nat.pow_pos (by omega))|exact hM
 have n1: -500000≤shP R D L gr N M E:=by unfold shP;omega
 have n2:shP R D L gr N M E≤500000:=by unfold shP;omega
 have hNl:(Dg.dg 4294967296 (eZ N (shP R D L gr N M E))).length≤25626:=by
  unfold eZ
  split
  ·omega
  ·exact Nat.le_trans (Eg N _ 10000 15626 hla (by omega)) (by omega)
 have hMl:(Dg.dg 4294967296 (dX M (shP R D L gr N M E))).length≤25626:=by
  unfold dX
  split
  ·exact Nat.le_trans (Eg M _ 10000 15626 hlb (by omega)) (by omega)
  ·omega
 have hq:(Dg.dg 4294967296 (cH R D L gr N M E)).length≤25626:=Nat.le_trans (aH _ _ _ (by omega) (Nat.div_le_self _ _)) hNl;have hr:(Dg.dg 4294967296 (gF R D L gr N M E)).length≤25626:=Nat.le_trans (aH _ _ _ (by omega) (Nat.le_of_lt (Nat.mod_lt _ hM0))) hMl;refine Mt R D L G gr qs ao _ ca bo _ cb E fn (dY N M E) (aT R D (dY N M E)) (dj R D L gr N M E) (ai R) (cH R D L gr N M E) (gF R D L gr N M E) (dX M (shP R D L gr N M E)) (dm ((gF R D L gr N M E*2:Nat):Int) ((dX M (shP R D L gr N M E):Nat):Int)) (decide (cH R D L gr N M E % 2=1)) (rf R D L gr qs N M E way) (decide (aT R D (dY N M E)<L)) (decide (gF R D L gr N M E=0)) (decide (aT R D (dY N M E)<L)&&gr) (fM R D L gr qs N M E way) (io R D (fM R D L gr qs N M E way)) (gD R D (fM R D L gr qs N M E way) (dj R D L gr N M E)) (cI R D L G gr qs N M E way) w rfl rfl rfl ?_ ?_ ?_ ?_ ?_ ?_ ?_ ?_ HE ?_ ?_ ?_ ?_ ?_ ?_ ?_ ?_ ?_ ?_
 ·intro h
  exact if_pos h
 ·intro h
  exact if_neg (by rw[h];decide)
 ·exact M4 _ (by omega) (by omega)
 ·exact M4 _ (by omega) (by omega)
 ·intro h1 h2
  exact if_pos ⟨h1,h2⟩
 ·intro h
  refine if_neg ?_;rintro⟨h1,h2⟩
  rcases h with h|h
  ·rw[h1] at h
   cases h
  ·rw[h2] at h
   cases h
 ·intro h
  exact if_pos h
 ·intro h
  exact if_neg h
 ·intro w1 b
  exact WO qs ao ca bo cb N M E w1 (ha.l b) (hb.l b) hla hlb hM (by omega) (by omega)
 ·intro w1
  exact FE R D L G gr _ w1 d1 d2 (by omega) (by omega)
 ·intro w1
  have:=tY R D L G gr w1
  rwa [jf] at this
 ·intro w1 b
  exact Eh qs ao ca bo cb N M E (shP R D L gr N M E) w1 (ha.l b) (hb.l b) (by omega) (by omega) hM n1 n2
 ·intro v w1 h
  have:=eO v _ 1 w1 h (Dg.small_dg _ _ (by omega)) (by omega) (by omega) (by omega);rw[Dg.vl_dg _ _ (by omega)] at this;exact this
 ·intro v u w1 h1 h2
  have:=jF v u _ _ w1 h1 h2 (Dg.small_dg _ _ (by omega)) (Dg.small_dg _ _ (by omega)) (Dg.norm_dg _ _ (by omega)) (Dg.norm_dg _ _ (by omega))
  rwa [Dg.vl_dg _ _ (by omega),Dg.vl_dg _ _ (by omega)] at this
 ·intro v w1 h
  exact aaI v _ w1 h
 ·intro w1
  exact HAW _ _ _ w1
 ·intro v u w1 h1 h2
  have:=rj v u _ _ w1 h1 h2 (Dg.small_dg _ _ (by omega)) (Dg.small_cons.2 ⟨by omega,Dg.small_nil _ (by omega)⟩) (by omega) (by simp)
  rwa [Dg.vl_dg _ _ (by omega),show Dg.vl 4294967296 [1]=1 from rfl] at this
 ·intro v base w1 ho hbs
  exact Br R D L G gr v _ _ base w1 ho hbs d1 d2 (by omega) (by omega)
theorem KL (R D L:Int)(gr qs:Bool)(N M:Nat)(E way:Int):cH R D L gr N M E≤fM R D L gr qs N M E way:=by
 unfold fM
 split<;>omega
theorem nS (s:Bool)(ao:Option Addr)(ca:Nat)(xs:List Nat)(e:Int)(w:World)(hr:Rd w .u32 (.slice ao xs.length ca) xs):
  yC 262 #[ydV s (.slice ao xs.length ca) e] w (yR w (yi (aS xs e))):=by
 have bA:=af w (.cells (ydA s (.slice ao xs.length ca) e) 59);have hk:=jC _ xs _ (hr.l bA);unfold aS;obtain⟨c,hc⟩: ∃c,chk xs=c:=⟨_,rfl⟩;rw[hc] at hk⊢;clear hc hr
 by_cases h:c=0
 ·subst h
  rw[if_pos rfl]
  by_cases h1:e< -20000
  ·rw[if_pos (Or.inl h1)]
   go_enter func262,ntmps262
   go_wp2_with fail
   refine hk.mono ?_;rintro z w' ⟨rfl,rfl⟩;clear hk
   go_wp2
   go_ret
   exact⟨rfl,bA⟩
  ·by_cases h2:20000<e
   ·rw[if_pos (Or.inr h2)]
    go_enter func262,ntmps262
    go_wp2_with fail
    refine hk.mono ?_;rintro z w' ⟨rfl,rfl⟩;clear hk
    go_wp2
    go_ret
    exact⟨rfl,bA⟩
   ·rw[if_neg (by omega)]
    go_enter func262,ntmps262
    go_wp2_with fail
    refine hk.mono ?_;rintro z w' ⟨rfl,rfl⟩;clear hk
    go_wp2
    go_ret
    exact⟨rfl,bA⟩
 ·rw[if_neg h]
  go_enter func262,ntmps262
  go_wp2_with fail
  refine hk.mono ?_;rintro z w' ⟨rfl,rfl⟩;clear hk
  go_wp2
  go_ret
  exact⟨rfl,bA⟩
def df (xs ys:List Nat)(E R D L G:Int)(gr qs:Bool)(way:Int):fz:=
 if eE xs ys E R D L G way=0 then(if xs.length=0 then⟨false,0,0,true,false,false⟩ else cI R D L G gr qs (Dg.vl 4294967296 xs) (Dg.vl 4294967296 ys) E way) else oI
theorem reduced_any (ao:Option Addr)(la ca m n:Nat)(w:World)(hr:Rd w .u32 (.slice ao la ca) (Dg.dg 4294967296 m))(hl:(Dg.dg 4294967296 m).length≤10000)(hn:n≤300000):
  yC 126 #[.slice ao la ca,yi n] w (TwR w (redF m n).1 (5^ (redF m n).2)):=by
 have HF:Hid (∀(k:Nat) w1,k≤300000→yC 77 #[yi k] w1 (NmR w1 (5^k))):=fun k w1 h=>fives_any k w1 h
 have HO:Hid (∀(v:Value) (m' q:Nat) w1,m'≤m→Rd w1 .u32 v (Dg.dg 4294967296 m')→au w1 q 116 [.int .u32 5]→yC 50 #[v,.slice (some ⟨q,0,none⟩) 1 1] w1 (Two w1 (m'/5) (m' % 5))):=fun v m' q w1 hm hv hq=>by
  have h5:Rd w1 .u32 (.slice (some ⟨q,0,none⟩) 1 1) [5]:=⟨_,_,rfl,by simp,by unfold maxLen;simp,fun _=>⟨_,0,rfl,fun i hi=>by
   obtain rfl:i=0:=by simpa using hi
   exact hq.c 0 rfl⟩⟩
  have hlen:(Dg.dg 4294967296 m').length≤900000:=Nat.le_trans (tD hm) (by omega);have:=A9 v _ (Dg.dg 4294967296 m') [5] w1 hv h5 (Dg.small_dg _ _ (by omega)) (Dg.small_cons.2 ⟨by omega,Dg.small_nil _ (by omega)⟩) (Dg.norm_dg _ _ (by omega)) (by have:=Dg.norm_dg 4294967296 5 (by omega);rwa [show Dg.dg 4294967296 5=[5] by decide] at this) (by simp) hlen
  rw[Dg.vl_dg _ _ (by omega)] at this;exact this
 obtain⟨R,hR⟩: ∃r,redF m n=r:=⟨_,rfl⟩;rw[hR];have b0:=Below.refl w.heap.size w;have hst:Hid (redF m n=R∧m≤m∧n≤300000):=⟨hR,Nat.le_refl _,hn⟩;clear hl hR
 go_enter func126,ntmps126
 go_wp2
 go_loopw [0,1] (fun nv kv wr=> ∃m' k:Nat,kv=yi k∧Rd wr .u32 nv (Dg.dg 4294967296 m')∧yB w wr∧Hid (redF m' k=R∧m'≤m∧k≤300000)) (fun _ kv _=>(intOf kv).toNat)
 case atStart=>exact⟨m,n,rfl,hr,b0,hst⟩
 case round=>
  clear hr b0 hst hn;obtain⟨m',k,rfl,hr,b0,hst⟩:=hrel;obtain⟨vo,vc,hv⟩:=hr.shape;subst hv
  cases k with
  |zero=>
   obtain⟨h1,-,-⟩:=hst.out;have HF0:Hid _:=HF.out 0 wr (by omega)
   go_wp2_with fail
   refine Calls.mono HF0.out ?_;rintro z w1 ⟨v,rfl,rv,b⟩;have r2:=hr.l b;have bb:=aa b0 b;clear hr b0 b HF0
   go_wp2
   go_ret2
   rw[←h1];exact⟨_,_,rfl,r2,rv,bb⟩
  |succ k=>
   have hk:Hid (k+1≤300000):=hst.out.2.2;have hk1:k≤300000:=by have:=hk.out;omega
   have al:=af wr (.cells #[.int .u32 5] 116);have q:=ah wr [.int .u32 5] 116;have HO1:Hid _:=HO.out _ m' _ _ hst.out.2.1 (hr.l al) q;have hkp:(0:Int)< ((k+1:Nat):Int):=by omega
   go_wp2_with fail
   refine Calls.mono HO1.out ?_;rintro z w1 ⟨v1,v2,rfl,o1,o2,b⟩;have b1:=aa al b;have r0:=hr.l b1;have r1:=o1.rd;have r2:=o2.rd;have bb:=aa b0 b1;obtain⟨po,pc,hv⟩:=r1.shape;subst hv;obtain⟨so,sc,hv⟩:=r2.shape;subst hv;clear al q HO1 b hr b0 o1 o2 b1 r2
   by_cases h5:m' % 5=0
   ·have hl0:(Dg.dg 4294967296 (m' % 5)).length=0:=by rw[h5];rfl
    clear r0
    go_wp2
    go_roundw
    case rel=>exact⟨m'/5,k,by go_num,r1,bb,by
     obtain⟨h1,h2,h3⟩:=hst.out;unfold redF at h1;rw[if_pos h5] at h1;exact⟨h1,Nat.le_trans (Nat.div_le_self _ _) h2,by omega⟩⟩
    case measure=>simp[intOf]
   ·have hl0:0< (Dg.dg 4294967296 (m' % 5)).length:=by
     rcases Nat.eq_zero_or_pos (Dg.dg 4294967296 (m' % 5)).length with c|c
     ·exact absurd ((Dg.dg_nil_iff 4294967296 _ (by omega)).1 (List.length_eq_zero_iff.1 c)) h5
     ·exact c
    have HF0:Hid _:=HF.out (k+1) w1 hk.out
    go_wp2_with fail
    refine Calls.mono HF0.out ?_;rintro z w2 ⟨v,rfl,rv,b⟩;have r3:=r0.l b;have b4:=aa bb b;clear r0 r1 bb b HF0
    go_wp2
    go_ret2
    have h1:=hst.out.1;unfold redF at h1;rw[if_neg h5] at h1;rw[←h1];exact⟨_,_,rfl,r3,rv,b4⟩
theorem jp.f {w:World}{base g n cap:Nat}{bs:List Bool}(h:jp w base (.slice (some ⟨g,0,none⟩) n cap) bs)(hn:n=bs.length)(j:Nat):w.frozen? ⟨g,j,none⟩=false:=by
 subst hn;exact World.ownsRow.frozenAt h j
theorem encNum_held_mg:
  (∀(R D L G fam:Int) (gr:Bool) (sz ex:Nat) (F:Nat) (c p:Int) (ng:Bool) (ao:Option Addr) (dn dc:Nat) (w:World)
  (r:ak) (er:Int) (_: ∀w1,yB w w1→yC 159 #[ylV R D L G gr sz ex fam F,yvV c ng (.slice ao dn dc) p] w1 (gR w1 (r,er)))
  (hq:Bool) (he2:Int) (_: ∀so sc w1,yB w w1→Rd w1 .u32 (yT so r.n sc) (Dg.dg 4294967296 r.n)→yC 160 #[yDV r so sc,ygV R D L G gr] w1 (yR w1 (.tuple #[.bool hq,yi he2])))
  (st:ByteArray) (es:Int) (_: ∀so sc w1,yB w w1→Rd w1 .u32 (yT so r.n sc) (Dg.dg 4294967296 r.n)→yC 161 #[ylV R D L G gr sz ex fam F,yDV r so sc] w1 (yR w1 (.tuple #[.string st,yi es]))) (_: -20000≤p) (_:p≤20000) (_:0<dn) (_:er=0) (_:he2=0) (_:hq=true),
  yC 91 #[ylV R D L G gr sz ex fam F,yvV c ng (.slice ao dn dc) p] w (yR w (.tuple #[.string st,yi es])))∧
  (∀(R D L G fam:Int) (gr:Bool) (sz ex:Nat) (F:Nat) (c p:Int) (ng:Bool) (ao:Option Addr) (dn dc:Nat) (w:World)
  (r:ak) (er:Int) (_: ∀w1,yB w w1→yC 159 #[ylV R D L G gr sz ex fam F,yvV c ng (.slice ao dn dc) p] w1 (gR w1 (r,er)))
  (hq:Bool) (he2:Int) (_: ∀so sc w1,yB w w1→Rd w1 .u32 (yT so r.n sc) (Dg.dg 4294967296 r.n)→yC 160 #[yDV r so sc,ygV R D L G gr] w1 (yR w1 (.tuple #[.bool hq,yi he2]))) (_: -20000≤p) (_:p≤20000) (_:0<dn) (_:er=0) (_:he2=0) (_:hq=false),
  yC 91 #[ylV R D L G gr sz ex fam F,yvV c ng (.slice ao dn dc) p] w (yR w (.tuple #[.string ⟨#[]⟩,yi 4]))):=by
 refine⟨?_, ?_⟩;have _z:Mgk 0:=mgkI 0
 all_goals
  first| (rename Mgk 0=>_z;intro R D L G fam gr sz ex F c p ng ao dn dc w r er HN hq he2 HH st es HE hpa hpb hd he h2 hqt)| (intro R D L G fam gr sz ex F c p ng ao dn dc w r er HN hq he2 HH hpa hpb hd he h2 hqf)
  first| (rename Mgk 0=>_z;subst he h2 hqt)| (subst he h2 hqf)
  have hp1: ¬p< -20000:=by omega
  have hp2: ¬20000<p:=by omega
  have HN':Hid _:=HN;have hdI:((dn:Int)==0)=false:=by simp;omega
  clear HN;have HH':Hid _:=HH;clear HH
  first| (rename Mgk 0=>_z;have HE':Hid _:=HE;clear HE)|skip
  have hsf:=cD;have bv:=af (w.alloc (.cells (ylA R D L G gr sz ex fam F) 94)) (.cells (yvA c ng (.slice ao dn dc) p) 57);have l0:=(ah w (ylL R D L G gr sz ex fam F) 94).l bv;have m0:=ah (w.alloc (.cells (ylA R D L G gr sz ex fam F) 94)) (yvL c ng (.slice ao dn dc) p) 57;have b0:=aa (af w (.cells (ylA R D L G gr sz ex fam F) 94)) bv;rw[World.size_alloc] at m0;clear bv;obtain⟨x0,x1,x2,x3,x4,x5,x6,x7,x8⟩:=l0.cs9;obtain⟨u0,u1,u2,u3⟩:=m0.cs4
  go_enter func91,ntmps91
  go_wp2_with fail
  refine(HN'.out _ b0).mono ?_;rintro z w1 ⟨s1,rfl,own1,b1⟩;obtain⟨so,sc,hs1⟩:=own1.rd.shape;subst hs1;simp only;have bq:=af w1 (.cells (yDA r so sc) 59);have l1:=(l0.l b1).l bq;have q1:=ah w1 (yDL r so sc) 59;have r1:=own1.rd.l bq;have b01:=aa (aa b0 b1) bq;clear own1 b1 bq l0 m0 x0 x1 x2 x3 x4 x5 x6 x7 x8 u0 u1 u2 u3;obtain⟨x0,x1,x2,x3,x4,x5,x6,x7,x8⟩:=l1.cs9;obtain⟨q0,qq1,q2⟩:=q1.cs3
  go_wp2_with fail
  refine(HH'.out _ _ _ b01 r1).mono ?_;rintro z w2 ⟨rfl,b2⟩;have l2:=l1.l b2;have q2:=q1.l b2;have r2:=r1.l b2;have b02:=aa b01 b2;clear l1 q1 r1 b01 b2 x0 x1 x2 x3 x4 x5 x6 x7 x8 q0 qq1;obtain⟨x0,x1,x2,x3,x4,x5,x6,x7,x8⟩:=l2.cs9;obtain⟨qq0,qq1,qq2⟩:=q2.cs3
  first| (rename Mgk 0=>_z;go_wp2_with fail;refine(HE'.out _ _ _ b02 r2).mono ?_;rintro z w3 ⟨rfl,b3⟩)|skip
  go_wp2
  go_ret2
  first| (rename Mgk 0=>_z;exact⟨rfl,aa b02 b3⟩)| (exact⟨rfl,b02⟩)
theorem QM (n wy fam R D L G:Int)(gr ng:Bool)(r pw:Nat)(w:World)(hR:IntKind.u32.wrap R=(r:Int))
  (HP: ∀q w1,yB w w1→w1.cell? ⟨q,0,none⟩=some (.int .u32 r)→yC 49 #[.slice (some ⟨q,0,none⟩) 1 1,yi D] w1 (Num w1 pw))
  (HM: ∀vo vc q w1,Rd w1 .u32 (yT vo pw vc) (Dg.dg 4294967296 pw)→w1.cell? ⟨q,0,none⟩=some (.int .u32 1)→yC 138 #[yT vo pw vc,.slice (some ⟨q,0,none⟩) 1 1] w1 (Num w1 (pw-1))):
  yC 196 #[ykV n wy fam R D L G gr,.bool ng] w (iT w 2 ng (pw-1) G):=by
 replace HP:Hid _:=HP;replace HM:Hid _:=HM;have ad:=af w (.cells (ykA n wy fam R D L G gr) 83);have av:=af (w.alloc (.cells (ykA n wy fam R D L G gr) 83)) (.cells (yvA 0 false yN 0) 57);have d0:=(ah w (ykL n wy fam R D L G gr) 83).l av;have v0:=ah (w.alloc (.cells (ykA n wy fam R D L G gr) 83)) (yvL 0 false yN 0) 57;rw[World.size_alloc] at v0;have b0:=aa ad av;clear ad av
 go_enter func196,ntmps196
 go_upto_region 1 with fail
 generalize(w.alloc (.cells (ykA n wy fam R D L G gr) 83)).alloc (.cells (yvA 0 false yN 0) 57)=W0 at d0 v0 b0⊢;have y3:=d0.c 3 rfl;have y4:=d0.c 4 rfl;have al:=af W0 (.cells #[.int .u32 r] 116);have hc:=(ah W0 [.int .u32 r] 116).c 0 rfl;have d1:=d0.l al;have v1:=v0.l al;have b01:=aa b0 al;have z3:=d1.c 3 rfl;have z4:=d1.c 4 rfl;clear al
 go_wp2_with fail
 refine(HP.out _ _ b01 hc).mono ?_;rintro z w2 ⟨u,rfl,o2,b2⟩;obtain⟨vo,vc,hu⟩:=o2.rd.shape;subst hu;have r2:=o2.rd;have d2:=d1.l b2;have v2:=v1.l b2;have b02:=aa b01 b2;clear y3 y4 z3 z4 hc d0 v0 b0 d1 v1 b01 b2 o2 HP hR
 go_upto_region 2 with fail
 have bW:yB w2 w2.drew:=(Below.refl _ _).drew;have d3:=d2.l bW;have v3:=v2.l bW;have r3:=r2.l bW;have b03:=aa b02 bW;clear bW d2 v2 r2 b02;refine wp_region_held_drew (S:=fun wq=>wq.cell? ⟨w.heap.size,6,none⟩=some (yi G)) (by kernel_rfl) (d3.c 6 rfl) (fun hS0=> ?_)
 refine tq 0 (.bool ng) rfl (fun w0 _=>by kernel_rfl) hS0 ?_
 refine tq 1 (yT vo pw vc) rfl (fun w0 _=>by kernel_rfl) hS0 ?_
 refine tq 4 (.pointer (some ⟨w.heap.size,3,none⟩)) rfl (fun w0 _=>by kernel_rfl) hS0 ?_
 refine tq 5 (.pointer (some ⟨w.heap.size,6,none⟩)) rfl (fun w0 _=>by kernel_rfl) hS0 ?_
 refine tq 6 (yi G) rfl (fun w0 hw0=>gU 3 (.tmp 20) rfl w.heap.size 6 (by kernel_rfl) _ _ underlying3 rfl hw0) hS0 ?_
 refine wpAnyH_ready (rs:=[2]) (by kernel_rfl) (by simp) ?_;refine AllReadyH.cons rfl (fun K hK=> ?_) AllReadyH.nil
 go_simp
 have al:=af w2.drew (.cells #[.int .u32 1] 116);have hc:=(ah w2.drew [.int .u32 1] 116).c 0 rfl;have d4:=d3.l al;have v4:=v3.l al;have r4:=r3.l al;have b04:=aa b03 al;refine hK.out _ _ (d4.c 6 rfl) (fun hS2=> ?_)
 clear hK K al d3 v3 r3 b03;refine wpAnyH_ready (rs:=[3]) (by kernel_rfl) (by simp) ?_;refine AllReadyH.cons rfl (fun K hK=> ?_) AllReadyH.nil
 go_simp
 refine(HM.out _ _ _ _ r4 hc).mono ?_;rintro z w5 ⟨u,rfl,o5,b5⟩;obtain⟨mo,mc,hu⟩:=o5.rd.shape;subst hu;have r5:=o5.rd;have d5:=d4.l b5;have v5:=v4.l b5;have b05:=aa b04 b5;refine hK.out _ _ (d5.c 6 rfl) (fun hS3=> ?_)
 clear hK K d4 v4 r4 b04 b5 o5 hc;have bu:=(((ag w5 (w.heap.size+1) 0 (yi 2)).trans (ag _ (w.heap.size+1) 1 (.bool ng))).trans (ag _ (w.heap.size+1) 2 (.slice mo (Dg.dg 4294967296 (pw-1)).length mc))).trans (ag _ (w.heap.size+1) 3 (yi G));have bR:yB w (w5.setCells (w.heap.size+1) 0 (yvL 2 ng (.slice mo (Dg.dg 4294967296 (pw-1)).length mc) G)):=bu.below b05 (by omega);have rR:Rd (w5.setCells (w.heap.size+1) 0 (yvL 2 ng (.slice mo (Dg.dg 4294967296 (pw-1)).length mc) G)) .u32 (.slice mo (Dg.dg 4294967296 (pw-1)).length mc) (Dg.dg 4294967296 (pw-1)):=bu.rd r5 (aX r5 v5 (by simp));have hth:w5.there (w.heap.size+1) 0 4:=dD v5;have hl:=run_loadVar_mid (P:=Tryz.prog) _ (w.heap.size+1) 0 57 (yvL 2 ng (.slice mo (Dg.dg 4294967296 (pw-1)).length mc) G) _ (World.rangeAt_setCells_same w5 (w.heap.size+1) 0 (yvL 2 ng (.slice mo (Dg.dg 4294967296 (pw-1)).length mc) G) hth) underlying57 rfl (by kernel_rfl);have HH:Hid (_∧_∧_):=⟨hl,rR,bR⟩;clear hl rR bR bu;refine tq 7 ((yvV 2 ng (.slice mo (Dg.dg 4294967296 (pw-1)).length mc) G)) rfl (fun w0 _=>by kernel_rfl) hS3 ?_
 refine wpAnyH_ready (rs:=[8]) (by kernel_rfl) (by simp) ?_;refine AllReadyH.cons rfl (fun K hK=> ?_) AllReadyH.nil
 rw[if_pos (by kernel_rfl)];refine wp_store_mid 57 (.tmp 4) (.tmp 22) rfl (w.heap.size+1) 0 (yvA 2 ng (.slice mo (Dg.dg 4294967296 (pw-1)).length mc) G) (by kernel_rfl) (by kernel_rfl) hth (by kernel_rfl) (by simp[Value.oneCell']) ?_;refine hK.out _ _ ?_ (fun hS8=> ?_)
 ·have hbu:But (w.heap.size+1) w5 (w5.setCells (w.heap.size+1) 0 (yvL 2 ng (.slice mo (Dg.dg 4294967296 (pw-1)).length mc) G)):=de _ _ _ _
  exact(hbu.loc d5 (by omega)).c 6 rfl
 clear hK K;refine wpAnyH_done (by kernel_rfl) ?_ _;obtain⟨hl,rR,bR⟩:=HH.out;clear HH hS0 hS2 hS3 hS8 d5 v5 r5 b05 hth HM;change Exit.then _ _ _ _ (World.setCells w5 (w.heap.size+1) 0 (yvL 2 ng (.slice mo (Dg.dg 4294967296 (pw-1)).length mc) G));generalize World.setCells w5 (w.heap.size+1) 0 (yvL 2 ng (.slice mo (Dg.dg 4294967296 (pw-1)).length mc) G)=WE at hl rR bR⊢
 go_wp2
 exact bodyPost_ret (br results196 rfl hl) rfl ⟨_,rfl,rR,bR⟩
theorem Ct (t k:ak)(to0:Option Addr)(tc:Nat)(e2 dn:Int)(N M:Nat)(w:World)(hmx:min (max k.e (-20000)) 20000=e2)
  (HK: ∀w1,Below w.heap.size w w1→Calls Tryz.prog 197 #[.agg #[.bool t.s,.slice to0 (Dg.dg 4294967296 t.n).length tc,.int .i64 t.e],.int .i64 128] w1 fun z w'=> ∃v,z= .returned (.agg #[.bool k.s,v,.int .i64 k.e])∧Rd w' .u32 v (Dg.dg 4294967296 k.n)∧Below w1.heap.size w1 w')
  (HU:e2<k.e→IntKind.i64.wrap (k.e-e2)=dn∧M=1∧ ∀ko kc w1,Rd w1 .u32 (.slice ko (Dg.dg 4294967296 k.n).length kc) (Dg.dg 4294967296 k.n)→Calls Tryz.prog 47 #[.slice ko (Dg.dg 4294967296 k.n).length kc,.int .i64 dn] w1 (Num w1 N))
  (HV:k.e≤e2→IntKind.i64.wrap (e2-k.e)=dn∧N=k.n∧ ∀q w1,w1.cell? ⟨q,0,none⟩=some (.int .u32 1)→Calls Tryz.prog 47 #[.slice (some ⟨q,0,none⟩) 1 1,.int .i64 dn] w1 (Num w1 M)):
  Calls Tryz.prog 133 #[.agg #[.bool t.s,.slice to0 (Dg.dg 4294967296 t.n).length tc,.int .i64 t.e]] w (Kx w k.s N M e2):=by
 replace HK:Hid _:=HK;replace HU:Hid _:=HU;replace HV:Hid _:=HV;have ax:=af w (.cells #[.bool t.s,.slice to0 (Dg.dg 4294967296 t.n).length tc,.int .i64 t.e] 86);have ar:=af (w.alloc (.cells #[.bool t.s,.slice to0 (Dg.dg 4294967296 t.n).length tc,.int .i64 t.e] 86)) (.cells #[.bool false,.slice none 0 0,.slice none 0 0,.int .i64 0] 77);have x0:=(ah w [.bool t.s,.slice to0 (Dg.dg 4294967296 t.n).length tc,.int .i64 t.e] 86).l ar;have r0:=ah (w.alloc (.cells #[.bool t.s,.slice to0 (Dg.dg 4294967296 t.n).length tc,.int .i64 t.e] 86)) [.bool false,.slice none 0 0,.slice none 0 0,.int .i64 0] 77;rw[World.size_alloc] at r0;have b0:=aa ax ar;clear ax ar
 go_enter func133,ntmps133
 go_upto_region 1 with fail
 generalize(w.alloc (.cells #[.bool t.s,.slice to0 (Dg.dg 4294967296 t.n).length tc,.int .i64 t.e] 86)).alloc (.cells #[.bool false,.slice none 0 0,.slice none 0 0,.int .i64 0] 77)=W0 at x0 r0 b0⊢;obtain⟨y0,y1,y2⟩:=x0.cs3
 go_wp2_with fail
 refine(HK.out _ b0).mono ?_;rintro z w1 ⟨v,rfl,q1,b1⟩;obtain⟨ko,kc,hv⟩:=q1.shape;subst hv;have x1:=x0.l b1;have r1:=r0.l b1;have b01:=aa b0 b1;clear y0 y1 y2 x0 r0 b0 b1 HK;obtain⟨z0,z1,z2⟩:=x1.cs3;have f0:=x1.f 0;have f1:=x1.f 1;have f2:=x1.f 2;have x2:au (((w1.setCell ⟨w.heap.size,0,none⟩ (.bool k.s)).setCell ⟨w.heap.size,1,none⟩ (.slice ko (Dg.dg 4294967296 k.n).length kc)).setCell ⟨w.heap.size,2,none⟩ (.int .i64 k.e)) w.heap.size 86 [.bool k.s,.slice ko (Dg.dg 4294967296 k.n).length kc,.int .i64 k.e]:=(((x1.set 0 (.bool k.s)).set 1 (.slice ko (Dg.dg 4294967296 k.n).length kc)).set 2 (.int .i64 k.e));have bu:=((ag w1 w.heap.size 0 (.bool k.s)).trans (ag _ w.heap.size 1 (.slice ko (Dg.dg 4294967296 k.n).length kc))).trans (ag _ w.heap.size 2 (.int .i64 k.e));have r2:=bu.loc r1 (by omega);have q2:=bu.rd q1 (aX q1 x1 (by simp));have b2:=bu.below b01 (Nat.le_refl _)
 go_upto_region 2 with fail
 generalize(((w1.setCell ⟨w.heap.size,0,none⟩ (.bool k.s)).setCell ⟨w.heap.size,1,none⟩ (.slice ko (Dg.dg 4294967296 k.n).length kc)).setCell ⟨w.heap.size,2,none⟩ (.int .i64 k.e))=W2 at x2 r2 q2 b2⊢;clear z0 z1 z2 f0 f1 f2 bu x1 r1 b01 q1;obtain⟨y0,y1,y2⟩:=x2.cs3;have HD:Hid (∀w1,Calls Tryz.prog 198 #[.agg #[.bool k.s,.slice ko (Dg.dg 4294967296 k.n).length kc,.int .i64 k.e]] w1 fun x w'=>x= .returned (.slice ko (Dg.dg 4294967296 k.n).length kc)∧Below w1.heap.size w1 w'):=fun w1=>cN _ _ _ _ _ w1
 go_wp2_with fail
 refine(HD.out _).mono ?_;rintro z w3 ⟨rfl,b3⟩;have al:=af w3 (.cells #[.int .u32 1] 116);have ln:=ah w3 [.int .u32 1] 116;have x4:=(x2.l b3).l al;have r4:=(r2.l b3).l al;have q4:=(q2.l b3).l al;have b4:=aa (aa b2 b3) al;clear y0 y1 y2 x2 r2 q2 b2 b3 al HD
 go_upto_region 3 with fail
 generalize w3.alloc (.cells #[.int .u32 1] 116)=W4 at ln x4 r4 q4 b4⊢;generalize w3.heap.size=Q at ln⊢;obtain⟨y0,y1,y2⟩:=x4.cs3;have hone:=ln.c 0 rfl
 by_cases hc:e2<k.e
 ·obtain⟨h1,h2,h3⟩:=HU.out hc
  have H3:Hid _:=h3;subst h2;clear HU HV h3
  go_wp2_with fail
  refine(H3.out _ _ _ q4).mono ?_;rintro z w5 ⟨u,rfl,o5,b5⟩;obtain⟨no,nc,hu⟩:=o5.rd.shape;subst hu;have r5:=r4.l b5;have x5:=x4.l b5;have n5:=o5.rd;have hone5:=(ln.l b5).c 0 rfl;have m5:Rd w5 .u32 (.slice (some ⟨Q,0,none⟩) 1 1) (Dg.dg 4294967296 1):=by rw[MU];exact xD hone5
  have b05:=aa b4 b5;clear y0 y1 y2 hone hone5 x4 r4 q4 b4 b5 o5 ln H3;obtain⟨y0,y1,y2⟩:=x5.cs3;have h1l:(Dg.dg 4294967296 1).length=1:=by rw[MU];rfl
  have cR:au ((((w5.setCell ⟨w.heap.size+1,0,none⟩ (.bool k.s)).setCell ⟨w.heap.size+1,1,none⟩ (.slice no (Dg.dg 4294967296 N).length nc)).setCell ⟨w.heap.size+1,2,none⟩ (.slice (some ⟨Q,0,none⟩) 1 1)).setCell ⟨w.heap.size+1,3,none⟩ (.int .i64 e2)) (w.heap.size+1) 77 [.bool k.s,.slice no (Dg.dg 4294967296 N).length nc,.slice (some ⟨Q,0,none⟩) 1 1,.int .i64 e2]:=((((r5.set 0 (.bool k.s)).set 1 (.slice no (Dg.dg 4294967296 N).length nc)).set 2 (.slice (some ⟨Q,0,none⟩) 1 1)).set 3 (.int .i64 e2));have bu:=(((ag w5 (w.heap.size+1) 0 (.bool k.s)).trans (ag _ (w.heap.size+1) 1 (.slice no (Dg.dg 4294967296 N).length nc))).trans (ag _ (w.heap.size+1) 2 (.slice (some ⟨Q,0,none⟩) 1 1))).trans (ag _ (w.heap.size+1) 3 (.int .i64 e2));have bR:=bu.below b05 (by omega);have rN:=bu.rd n5 (aX n5 r5 (by simp));have rM:=bu.rd m5 (aX m5 r5 (by simp));have hl:=run_loadVar_mid (P:=Tryz.prog) _ (w.heap.size+1) 0 77 [.bool k.s,.slice no (Dg.dg 4294967296 N).length nc,.slice (some ⟨Q,0,none⟩) 1 1,.int .i64 e2] _ cR.range underlying77 rfl (by kernel_rfl);have HH:Hid (_∧_∧_∧_):=⟨hl,rN,rM,bR⟩;obtain⟨z0,z1,z2,z3⟩:=r5.cs4;have fz0:=r5.f 0;have fz1:=r5.f 1;have fz2:=r5.f 2;have fz3:=r5.f 3;clear hl bR bu cR rN rM;clear r5 b05 n5 m5 x5
  go_wp2
  obtain⟨hl,rN,rM,bR⟩:=HH.out;refine bodyPost_ret (br results133 rfl hl) rfl ⟨no,nc,some ⟨Q,0,none⟩,1, ?_,rN, ?_,bR⟩
  ·rw[h1l]
  ·rw[h1l]
   exact rM
 ·obtain⟨h1,h2,h3⟩:=HV.out (by omega)
  have H3:Hid _:=h3;subst h2;clear HU HV h3
  go_wp2_with fail
  refine(H3.out _ _ hone).mono ?_;rintro z w5 ⟨u,rfl,o5,b5⟩;obtain⟨mo,mc,hu⟩:=o5.rd.shape;subst hu;have r5:=r4.l b5;have x5:=x4.l b5;have n5:=q4.l b5;have m5:=o5.rd;have b05:=aa b4 b5;clear y0 y1 y2 hone x4 r4 q4 b4 b5 o5 ln H3;obtain⟨y0,y1,y2⟩:=x5.cs3;have cR:au ((((w5.setCell ⟨w.heap.size+1,0,none⟩ (.bool k.s)).setCell ⟨w.heap.size+1,1,none⟩ (.slice ko (Dg.dg 4294967296 k.n).length kc)).setCell ⟨w.heap.size+1,2,none⟩ (.slice mo (Dg.dg 4294967296 M).length mc)).setCell ⟨w.heap.size+1,3,none⟩ (.int .i64 e2)) (w.heap.size+1) 77 [.bool k.s,.slice ko (Dg.dg 4294967296 k.n).length kc,.slice mo (Dg.dg 4294967296 M).length mc,.int .i64 e2]:=((((r5.set 0 (.bool k.s)).set 1 (.slice ko (Dg.dg 4294967296 k.n).length kc)).set 2 (.slice mo (Dg.dg 4294967296 M).length mc)).set 3 (.int .i64 e2));have bu:=(((ag w5 (w.heap.size+1) 0 (.bool k.s)).trans (ag _ (w.heap.size+1) 1 (.slice ko (Dg.dg 4294967296 k.n).length kc))).trans (ag _ (w.heap.size+1) 2 (.slice mo (Dg.dg 4294967296 M).length mc))).trans (ag _ (w.heap.size+1) 3 (.int .i64 e2));have bR:=bu.below b05 (by omega);have rN:=bu.rd n5 (aX n5 r5 (by simp));have rM:=bu.rd m5 (aX m5 r5 (by simp));have hl:=run_loadVar_mid (P:=Tryz.prog) _ (w.heap.size+1) 0 77 [.bool k.s,.slice ko (Dg.dg 4294967296 k.n).length kc,.slice mo (Dg.dg 4294967296 M).length mc,.int .i64 e2] _ cR.range underlying77 rfl (by kernel_rfl);have HH:Hid (_∧_∧_∧_):=⟨hl,rN,rM,bR⟩;obtain⟨z0,z1,z2,z3⟩:=r5.cs4;have fz0:=r5.f 0;have fz1:=r5.f 1;have fz2:=r5.f 2;have fz3:=r5.f 3;clear hl bR bu cR rN rM;clear r5 b05 n5 m5 x5
  go_wp2
  obtain⟨hl,rN,rM,bR⟩:=HH.out;exact bodyPost_ret (br results133 rfl hl) rfl ⟨_,_,_,_,rfl,rN,rM,bR⟩
end Go.Proofs.YtdhpndnncmagiaaGreatDoor
