/- Texts laid together. -/
import Derived.Test.YtlhkndcmbpcpgaaGreatDoorXs22
import Derived.Test.YtlhkndcmbpcpgaaGreatDoorXs23
import Derived.Test.YtlhkndcmbpcpgaaGreatDoorXs24
import Derived.Test.YtlhkndcmbpcpgaaGreatDoorXs25
set_option maxRecDepth 100000
set_option maxHeartbeats 9600000
namespace Go.Proofs.YtlhkndcmbpcpgaaGreatDoor
open _root_.Go.Proofs.Tryz
open Go.RowKit
theorem iH (a:ak):bare (bare a)=bare a:=by
 have b: -((a.e.natAbs:Nat):Int)≤a.e:=by omega
 exact fH (eL b) b (dw b)
theorem MP (k c:Nat)(e:1≤k∧k≤8)(j:c=1∨c=3∨c=4∨c=5)(w:World):
  yC 74 #[.agg (tS k).toArray,yi c] w (yR w (.tuple #[yfV (pI k c) ((pg k c:Nat):Int) ((lS k c:Nat):Int),.bool (iR k c)])):=by
 have f:=fun b=>jy k e b
 have g:=fun b=>gj k e b
 have i:=fun b=>xX k e b
 rcases j with rfl|rfl|rfl|rfl
 ·rw[show pI k 1=false from rfl,show pg k 1=0 from if_neg (fun h=>by omega),show lS k 1=0 from by unfold lS;simp,show iR k 1=true from rfl]
  rcases bO e with rfl|rfl|rfl|rfl|rfl|rfl|rfl|rfl
  all_goals exact Ku _ _ _ _ _ _ _ _ _ w
 ·rw[show pI k 3=false from rfl]
  by_cases a:k≤3
  ·rw[show pg k 3=kp k from if_pos ⟨.inl rfl,a⟩,show lS k 3=wrN k from by unfold lS;rw[if_pos a,if_pos rfl],show iR k 3=true from by simp[iR,a]]
   generalize kp k=on at*;generalize wrN k=wr at*
   rcases(by omega:k=1∨k=2∨k=3) with rfl|rfl|rfl
   all_goals exact MN _ _ _ _ _ _ _ _ w _ _ f g
  ·rw[show pg k 3=0 from if_neg (fun h=>a h.2),show lS k 3=0 from if_neg a,show iR k 3=false from by simp[iR,a]]
   rcases(by omega:k=4∨k=5∨k=6∨k=7∨k=8) with rfl|rfl|rfl|rfl|rfl
   all_goals exact MJ _ _ _ _ _ _ _ _ _ w rfl
 ·rw[show pI k 4=false from rfl]
  by_cases a:k≤3
  ·rw[show pg k 4=kp k from if_pos ⟨.inr rfl,a⟩,show lS k 4=wrN k|||gW k/2 from by unfold lS;rw[if_pos a,if_neg (by omega),if_pos rfl],show iR k 4=true from by simp[iR,a]]
   have m:wrN k<18446744073709551616:=by rcases(by omega:k=1∨k=2∨k=3) with rfl|rfl|rfl<;>decide
   have l:gW k<18446744073709551616:=by rcases(by omega:k=1∨k=2∨k=3) with rfl|rfl|rfl<;>decide
   generalize kp k=on at*;generalize wrN k=wr at*;generalize gW k=n at*
   rcases(by omega:k=1∨k=2∨k=3) with rfl|rfl|rfl
   all_goals exact MO _ _ _ _ _ _ _ _ w _ _ _ m l f g i
  ·rw[show pg k 4=0 from if_neg (fun h=>a h.2),show lS k 4=0 from if_neg a,show iR k 4=false from by simp[iR,a]]
   rcases(by omega:k=4∨k=5∨k=6∨k=7∨k=8) with rfl|rfl|rfl|rfl|rfl
   all_goals exact MK _ _ _ _ _ _ _ _ _ w rfl
 ·rw[show pg k 5=0 from if_neg (fun h=>by omega),show lS k 5=0 from by unfold lS;simp]
  by_cases d:6≤k
  ·rw[show pI k 5=true from by simp[pI,d],show iR k 5=true from by simp[iR,d]]
   rcases(by omega:k=6∨k=7∨k=8) with rfl|rfl|rfl
   all_goals exact MM _ _ _ _ _ _ _ _ _ w rfl
  ·rw[show pI k 5=false from by simp[pI,d],show iR k 5=false from by simp[iR,d]]
   rcases(by omega:k=1∨k=2∨k=3∨k=4∨k=5) with rfl|rfl|rfl|rfl|rfl
   all_goals exact ML _ _ _ _ _ _ _ _ _ w rfl
theorem wrd1_mg:
  (∀(n a:Int) (_:a≠0) (s:ByteArray) (w:World)
  (_:yJ 31 #[yi n] (.tuple #[ygV 0 0 0 0 false,yi a])),
  yC 9 #[yi n,.string s] w (Ys w 0 false 0 0 ⟨false,0,0⟩ a))∧
  (∀(n a:Int) (_:a≠0) (R D L G c p:Int) (gr ng:Bool) (m:Nat) (s:ByteArray) (w:World)
  (_:yJ 31 #[yi n] (.tuple #[ygV R D L G gr,yi 0]))
  (_: ∀i,yC 32 #[yi n,.string s] i (eP i c ng m p a)),
  yC 9 #[yi n,.string s] w (Ys w 0 false 0 0 ⟨false,0,0⟩ a)):=by
 refine⟨?_, ?_⟩;have _z:Mgk 0:=mgkI 0
 all_goals
  first| (rename Mgk 0=>_z;intro n a F s w j)| (intro n a F R D L G c p gr ng m s w j r)
  replace j:Hid _:=j
  first| (rename Mgk 0=>_z)| (replace r:Hid _:=r)
  have he:(a==0)=false:=by simpa using F
  clear F;have M:=af w (.cells (yvA 0 false yN 0) 39);have C:=af (w.alloc (.cells (yvA 0 false yN 0) 39)) (.cells (ydA false yN 0) 41);have B:=(ah w (yvL 0 false yN 0) 39).l C;have q:=ah (w.alloc (.cells (yvA 0 false yN 0) 39)) (ydL false yN 0) 41;have t:=aa M C;rw[World.size_alloc] at q;clear M C
  go_enter func9,ntmps9
  go_upto_region 1 with fail
  generalize(w.alloc (.cells (yvA 0 false yN 0) 39)).alloc (.cells (ydA false yN 0) 41)=W0 at B q t⊢
  go_wp2_with fail
  refine(j.out _).mono ?_;rintro z i ⟨rfl,g⟩
  first| (rename Mgk 0=>_z;have e:=af i (.cells (ygA 0 0 0 0 false) 54))| (have e:=af i (.cells (ygA R D L G gr) 54))
  first| (rename Mgk 0=>_z;have b:=(B.l g).l e)| (have H:=(B.l g).l e)
  first| (rename Mgk 0=>_z;have d:=(q.l g).l e)| (have I:=(q.l g).l e)
  first| (rename Mgk 0=>_z;have o:=aa (aa t g) e)| (have E:=aa (aa t g) e)
  first| (rename Mgk 0=>_z;go_upto_region 3 with fail)| (go_upto_region 4 with fail)
  first| (rename Mgk 0=>_z;generalize i.alloc (.cells (ygA 0 0 0 0 false) 54)=k at b d o⊢)| (generalize i.alloc (.cells (ygA R D L G gr) 54)=Z at H I E⊢)
  clear B q t g e j
  first| (rename Mgk 0=>_z)| (go_wp2_with fail;refine(r.out _).mono ?_;rintro z U ⟨vv,rfl,Q,u⟩;obtain⟨T,S,Y⟩:=Q.shape;subst Y;have x:=af U (.cells (yvA c ng (yT T m S) p) 39);have b:=(H.l u).l x;have d:=(I.l u).l x;have o:=aa (aa E u) x;go_upto_region 6 with fail;generalize U.alloc (.cells (yvA c ng (yT T m S) p) 39)=k at b d o⊢;clear H I E x u Q r)
  have N:au (((((((k.setCell ⟨w.heap.size,0,none⟩ (yi 0)).setCell ⟨w.heap.size,1,none⟩ (.bool false)).setCell ⟨w.heap.size,2,none⟩ yN).setCell ⟨w.heap.size,3,none⟩ (yi 0)).setCell ⟨w.heap.size+1,0,none⟩ (.bool false)).setCell ⟨w.heap.size+1,1,none⟩ yN).setCell ⟨w.heap.size+1,2,none⟩ (yi 0)) w.heap.size 39 (yvL 0 false yN 0):=(((((((b.set 0 (yi 0)).set 1 (.bool false)).set 2 yN).set 3 (yi 0)).off (show w.heap.size+1≠w.heap.size by omega) 0 (.bool false)).off (show w.heap.size+1≠w.heap.size by omega) 1 yN).off (show w.heap.size+1≠w.heap.size by omega) 2 (yi 0))
  have O:au (((((((k.setCell ⟨w.heap.size,0,none⟩ (yi 0)).setCell ⟨w.heap.size,1,none⟩ (.bool false)).setCell ⟨w.heap.size,2,none⟩ yN).setCell ⟨w.heap.size,3,none⟩ (yi 0)).setCell ⟨w.heap.size+1,0,none⟩ (.bool false)).setCell ⟨w.heap.size+1,1,none⟩ yN).setCell ⟨w.heap.size+1,2,none⟩ (yi 0)) (w.heap.size+1) 41 (ydL false yN 0):=(((((((d.off (show w.heap.size≠w.heap.size+1 by omega) 0 (yi 0)).off (show w.heap.size≠w.heap.size+1 by omega) 1 (.bool false)).off (show w.heap.size≠w.heap.size+1 by omega) 2 yN).off (show w.heap.size≠w.heap.size+1 by omega) 3 (yi 0)).set 0 (.bool false)).set 1 yN).set 2 (yi 0))
  have X:=((((d.off (show w.heap.size≠w.heap.size+1 by omega) 0 (yi 0)).off (show w.heap.size≠w.heap.size+1 by omega) 1 (.bool false)).off (show w.heap.size≠w.heap.size+1 by omega) 2 yN).off (show w.heap.size≠w.heap.size+1 by omega) 3 (yi 0))
  have J:=(((ag k w.heap.size 0 (yi 0)).trans (ag _ w.heap.size 1 (.bool false))).trans (ag _ w.heap.size 2 yN)).trans (ag _ w.heap.size 3 (yi 0));have K:=((ag ((((k.setCell ⟨w.heap.size,0,none⟩ (yi 0)).setCell ⟨w.heap.size,1,none⟩ (.bool false)).setCell ⟨w.heap.size,2,none⟩ yN).setCell ⟨w.heap.size,3,none⟩ (yi 0)) (w.heap.size+1) 0 (.bool false)).trans (ag _ (w.heap.size+1) 1 yN)).trans (ag _ (w.heap.size+1) 2 (yi 0));have v:=K.below (J.below o (Nat.le_refl _)) (by omega);have y:=run_loadVar_mid (P:=Tryz.prog) _ w.heap.size 0 39 (yvL 0 false yN 0) _ N.range underlying39 rfl (by kernel_rfl);have A:=run_loadVar_mid (P:=Tryz.prog) _ (w.heap.size+1) 0 41 (ydL false yN 0) _ O.range underlying41 rfl (by kernel_rfl);have W:Hid (_∧_∧_):=⟨y,A,v⟩;clear y A v J K N O X;obtain⟨a0,a1,a2,a3⟩:=b.cs4;obtain⟨y0,y1,y2⟩:=d.cs3;have f0:=b.f 0;have f1:=b.f 1;have f2:=b.f 2;have f3:=b.f 3;have g0:=d.f 0;have g1:=d.f 1;have g2:=d.f 2;clear b d o
  go_wp2
  obtain⟨y,A,v⟩:=W.out;exact bodyPost_ret (kg results9 rfl rfl rfl y A) rfl ⟨_,_,rfl,aN _ _,aN _ _,(fun _ _ _ h=>by cases h),v⟩
abbrev tread_okt_e:=tread_okt_e_mg.1
abbrev tread_okf_e:=tread_okt_e_mg.2.1
abbrev tread_hit_e:=tread_okt_e_mg.2.2.1
abbrev tread_hif_e:=tread_okt_e_mg.2.2.2.1
abbrev tread_lot_e:=tread_okt_e_mg.2.2.2.2.1
abbrev tread_lof_e:=tread_okt_e_mg.2.2.2.2.2
abbrev tread_okt_n:=tread_okt_n_mg.1
abbrev tread_okf_n:=tread_okt_n_mg.2.1
abbrev tread_dig_n:=tread_okt_n_mg.2.2.1
abbrev tread_pt_n:=tread_okt_n_mg.2.2.2
theorem DF (s:ByteArray)(w:World)(N:s.size≤12000)(z: ∀i,i<s.size→48≤byt s i∧byt s i≤57):
  yC 143 #[.string s] w (Num w (pv s s.size)):=by
 have q:Hid _:=z;clear z
 go_enter func143,ntmps143
 go_wp2
 go_loopg [0,3] s.size (fun r S E wr=>ae3 w s r S E wr)
 case atStart=>exact⟨0,s,rfl,⟨by omega,fun i _=>by rw[Nat.zero_add]⟩,rfl,aQ _ _ _ _,Below.refl _ _⟩
 case round=>
  obtain⟨p,T,rfl,h,j,own,u⟩:=hrel;have f:=h.1;rw[j] at f
  by_cases Q:gk=0
  ·have l:p=s.size:=by omega
   subst Q l;clear f;have X: ¬((0:Int)< (T.size:Int)):=by omega
   go_wp2
   go_ret
   exact⟨_,rfl,own,u⟩
  ·have l:p≤s.size:=by omega
   have a4:=Wb s q.out N p l;obtain⟨n,K⟩: ∃n,(gk-1) % 9+1=n:=⟨_,rfl⟩;have a3:((T.size:Int)-1) % 9+1=(n:Int):=by omega
   have a2:n≤9:=by omega
   have L:n≤T.size:=by omega
   have t:Hid (T.size=gk):=j;have U:T.size≤12000:=by omega
   have W:0<T.size:=by omega
   have C:Hid (p+gk=s.size):=f;clear K j f
   go_wp2
   go_loop [5,6,17] (fun H G o=> ∃i g a:Nat,i≤n∧o=yi i∧H= .int .u32 g∧G= .int .u32 a∧g<1000000000∧a≤1000000000∧Hid (ack s p i g a)) (fun _ _ o=>n-(intOf o).toNat)
   case atStart=>exact⟨0,0,1,Nat.zero_le _,rfl,rfl,rfl,by omega,by omega,⟨by simp,by simp,by simp⟩⟩
   case round=>
    obtain⟨i,g,a,a0,rfl,rfl,rfl,Z,a6,b⟩:=hrel
    by_cases a1:i<n
    ·have A:=li T i (by omega)
     have y:=h.2 i (by omega);have c:=q.out (p+i) (by have:=C.out;have:=t.out;omega);have M:10^i≤10^8:=Nat.pow_le_pow_right (by omega) (by omega);have I:=b.2.1;have d:=b.2.2;have m:=Z5 b rfl c.1 c.2;rw[y] at A;obtain⟨x,v⟩: ∃x,byt s (p+i)=x:=⟨_,rfl⟩;rw[v] at A c m;have Y:g<100000000:=by omega
     have a5:a≤100000000:=by omega
     have a7:=c.1;have a8:=c.2;have D:Hid (ack s p (i+1) (g*10+(x-48)) (a*10)):=m;clear y v M I d m c
     go_wp2
     go_round
     case rel=>exact⟨i+1,g*10+(x-48),a*10,by omega,by go_num,by go_num,by go_num,by omega,by omega,D⟩
     case measure=>simp[intOf];omega
    ·have J:i=n:=by omega
     subst J;have d:=b.2.2;have O:1≤a:=by rw[d];exact Nat.pow_pos (by omega)
     have B:=b.1;have k:=Xf _ (pv s p) a g w wr own u O (by omega) (by omega) (by omega);rw[show pv s p*a+g=pv s (p+i) from by rw[B,d]] at k
     have P:=Wa h L;clear d B b
     go_wp2_with fail
     refine k.mono ?_;rintro e w2 ⟨v',rfl,R,F⟩;clear k
     go_wp2
     go_roundg (gk-i)
     case measure=>omega
     case rel=>exact⟨p+i,_,rfl,P,by have:=t.out;simp;omega,R,F⟩
theorem refNothing_1_mg:
  (∀(n a b d R D L G:Int) (gr o:Bool) (w:World) (_:yJ 15 #[yi n] (.tuple #[yhV a b d R D L G gr 1,.bool o])),
  yC 102 #[yi n] w (yR w (yoV 4 false false yN 0)))∧
  (∀(n a b d R D L G:Int) (gr o:Bool) (w:World) (_:yJ 15 #[yi n] (.tuple #[yhV a b d R D L G gr 2,.bool o])),
  yC 102 #[yi n] w (yR w (yoV 1 false false yN 0)))∧
  (∀(n a b d R D L G:Int) (gr o:Bool) (w:World) (_:yJ 15 #[yi n] (.tuple #[yhV a b d R D L G gr 3,.bool o])),
  yC 102 #[yi n] w (yR w (yoV 5 false false yN 0))):=by
 refine⟨?_, ?_, ?_⟩;have _z:Mgk 0:=mgkI 0
 rotate_left
 have _z:Mgk 1:=mgkI 1
 rotate_left
 rotate_left
 all_goals
  intro n a b d R D L G gr o w r;replace r:Hid _:=r;have x:=af w (.cells (yoA 0 false false yN 0) 30);have v:=ah w (yoL 0 false false yN 0) 30
  go_enter func102,ntmps102
  go_wp2_with fail
  refine(r.out _).mono ?_;rintro z e ⟨rfl,s⟩
  first| (rename Mgk 0=>_z;have h:=af e (.cells (yhA a b d R D L G gr 1) 56))| (rename Mgk 1=>_z;have h:=af e (.cells (yhA a b d R D L G gr 2) 56))| (have h:=af e (.cells (yhA a b d R D L G gr 3) 56))
  first| (rename Mgk 0=>_z;have j:=ah e (yhL a b d R D L G gr 1) 56)| (rename Mgk 1=>_z;have j:=ah e (yhL a b d R D L G gr 2) 56)| (have j:=ah e (yhL a b d R D L G gr 3) 56)
  have q:=(v.l s).l h;have p:=aa (aa x s) h;have E:w.heap.size≠e.heap.size:=Nat.ne_of_lt (v.l s).lt;clear x v s h r
  go_upto_region 2 with fail
  first| (rename Mgk 0=>_z;generalize e.alloc (.cells (yhA a b d R D L G gr 1) 56)=g at j q p⊢)| (rename Mgk 1=>_z;generalize e.alloc (.cells (yhA a b d R D L G gr 2) 56)=g at j q p⊢)| (generalize e.alloc (.cells (yhA a b d R D L G gr 3) 56)=g at j q p⊢)
  generalize e.heap.size=F at j E⊢;have T:=j.c 8 rfl;have h:=af g (.cells #[yi 0,yi 4,yi 1,yi 5] 3);have A:=ah g [yi 0,yi 4,yi 1,yi 5] 3;have i:=q.l h;have C:=j.l h;have y:=aa p h;have U:=C.c 8 rfl;obtain⟨N,O,Q,S⟩:=A.cs4
  first| (rename Mgk 0=>_z;have k:au ((((((g.alloc (.cells #[yi 0,yi 4,yi 1,yi 5] 3)).setCell ⟨w.heap.size,0,none⟩ (yi 4)).setCell ⟨w.heap.size,1,none⟩ (.bool false)).setCell ⟨w.heap.size,2,none⟩ (.bool false)).setCell ⟨w.heap.size,3,none⟩ yN).setCell ⟨w.heap.size,4,none⟩ (yi 0)) (w.heap.size) 30 (yoL 4 false false yN 0):=(((((i.set 0 (yi 4)).set 1 (.bool false)).set 2 (.bool false)).set 3 yN).set 4 (yi 0)))| (rename Mgk 1=>_z;have k:au ((((((g.alloc (.cells #[yi 0,yi 4,yi 1,yi 5] 3)).setCell ⟨w.heap.size,0,none⟩ (yi 1)).setCell ⟨w.heap.size,1,none⟩ (.bool false)).setCell ⟨w.heap.size,2,none⟩ (.bool false)).setCell ⟨w.heap.size,3,none⟩ yN).setCell ⟨w.heap.size,4,none⟩ (yi 0)) (w.heap.size) 30 (yoL 1 false false yN 0):=(((((i.set 0 (yi 1)).set 1 (.bool false)).set 2 (.bool false)).set 3 yN).set 4 (yi 0)))| (have k:au ((((((g.alloc (.cells #[yi 0,yi 4,yi 1,yi 5] 3)).setCell ⟨w.heap.size,0,none⟩ (yi 5)).setCell ⟨w.heap.size,1,none⟩ (.bool false)).setCell ⟨w.heap.size,2,none⟩ (.bool false)).setCell ⟨w.heap.size,3,none⟩ yN).setCell ⟨w.heap.size,4,none⟩ (yi 0)) (w.heap.size) 30 (yoL 5 false false yN 0):=(((((i.set 0 (yi 5)).set 1 (.bool false)).set 2 (.bool false)).set 3 yN).set 4 (yi 0)))
  first| (rename Mgk 0=>_z;have u:=((((ag (g.alloc (.cells #[yi 0,yi 4,yi 1,yi 5] 3)) (w.heap.size) 0 (yi 4)).trans (ag _ (w.heap.size) 1 (.bool false))).trans (ag _ (w.heap.size) 2 (.bool false))).trans (ag _ (w.heap.size) 3 yN)).trans (ag _ (w.heap.size) 4 (yi 0)))| (rename Mgk 1=>_z;have u:=((((ag (g.alloc (.cells #[yi 0,yi 4,yi 1,yi 5] 3)) (w.heap.size) 0 (yi 1)).trans (ag _ (w.heap.size) 1 (.bool false))).trans (ag _ (w.heap.size) 2 (.bool false))).trans (ag _ (w.heap.size) 3 yN)).trans (ag _ (w.heap.size) 4 (yi 0)))| (have u:=((((ag (g.alloc (.cells #[yi 0,yi 4,yi 1,yi 5] 3)) (w.heap.size) 0 (yi 5)).trans (ag _ (w.heap.size) 1 (.bool false))).trans (ag _ (w.heap.size) 2 (.bool false))).trans (ag _ (w.heap.size) 3 yN)).trans (ag _ (w.heap.size) 4 (yi 0)))
  have t:=u.below y (by omega)
  first| (rename Mgk 0=>_z;have m:=run_loadVar_mid (P:=Tryz.prog) _ (w.heap.size) 0 30 (yoL 4 false false yN 0) _ k.range underlying30 rfl (by kernel_rfl))| (rename Mgk 1=>_z;have m:=run_loadVar_mid (P:=Tryz.prog) _ (w.heap.size) 0 30 (yoL 1 false false yN 0) _ k.range underlying30 rfl (by kernel_rfl))| (have m:=run_loadVar_mid (P:=Tryz.prog) _ (w.heap.size) 0 30 (yoL 5 false false yN 0) _ k.range underlying30 rfl (by kernel_rfl))
  have B:Hid (_∧_):=⟨m,t⟩;obtain⟨W,X,Y,Z,z4⟩:=i.cs5;have H:=i.f 0;have I:=i.f 1;have J:=i.f 2;have K:=i.f 3;have M:=i.f 4;clear m t u k;clear q p i y h A
  go_wp2
  obtain⟨m,t⟩:=B.out;exact bodyPost_ret (br results102 rfl m) rfl ⟨rfl,t⟩
theorem nN {R D L G:Int}(gr:Bool)(t:ak)(a:L≤G):dA R D L G gr (bare t).n (bare t).e=dA R D L G gr t.n t.e:=by
 rw[←jK gr t a,←jK gr (bare t) a,iH]
theorem xP {k:Nat}(l:1≤k∧k≤8)(ng:Bool)(e f:Nat):kU k ng e f=jT k (byL (Eb (exN k) (frN k) ng e f) (szN k)):=by
 obtain⟨q,r,s,t,-,u⟩:=fZ l;unfold kU
 congr 1
 have g:Dg.Small 256 (List.replicate (szN k) 0):=by
  intro i
  by_cases b:i<szN k
  ·simp[List.getD_eq_getElem?_getD,b]
  ·simp[List.getD_eq_getElem?_getD,b]
 have d: ∀zs:List Nat,zs.length=szN k→Dg.Small 256 zs→(∀i,fU zs i=if i=0∧ng=true then 1 else 0)→iS (1+exN k) (frN k) f (iS 1 (exN k) e zs)=byL (Eb (exN k) (frN k) ng e f) (szN k):=fun zs m o j=>by
  have n:(iS (1+exN k) (frN k) f (iS 1 (exN k) e zs)).length=szN k:=by rw[il,il,m]
  rw[OT _ (mj _ _ _ _ (mj _ _ _ _ o)),n];refine Ic _ (fun i b=> ?_)
  rw[xO _ _ _ _ _ (by rw[il];omega),xO _ _ _ _ _ (by omega),j i];unfold Eb
  by_cases a:i=0
  ·subst a
   rw[if_neg (by omega),if_neg (by omega),if_pos rfl]
   cases ng<;>rfl
  ·rw[if_neg a]
   have p:(if i=0∧ng=true then 1 else 0)=0:=if_neg (fun h=>a h.1)
   rw[p]
   by_cases c:i≤exN k
   ·rw[if_pos c,if_neg (by omega),if_pos (show 1≤i∧i<1+exN k by omega),show 1+exN k-1-i=exN k-i from by omega]
    split
    ·rename_i h;rw[h]
    ·rename_i h;rw[decide_eq_false h];rfl
   ·rw[if_neg c,if_pos (show 1+exN k≤i∧i<1+exN k+frN k by omega),if_neg (show¬(1≤i∧i<1+exN k) by omega),show 1+exN k+frN k-1-i=exN k+frN k-i from by omega]
    split
    ·rename_i h;rw[h]
    ·rename_i h;rw[decide_eq_false h];rfl
 cases ng
 ·rw[if_neg (by simp)]
  exact d _ List.length_replicate g (fun i=>by rw[Ea];simp)
 ·rw[if_pos rfl]
  refine d _ (by rw[il];exact List.length_replicate) (mj _ _ _ _ g) (fun i=> ?_)
  rw[xO _ _ _ _ _ (by rw[List.length_replicate];omega),Ea]
  by_cases a:i=0
  ·subst a
   rfl
  ·rw[if_neg (by omega),if_neg (fun h=>a h.1)]
theorem Xj (n:Int)(R D L G h:Int)(gr:Bool)(sz g:Nat)(F:Nat)(c p:Int)(ng:Bool)(a:Option Addr)(f e:Nat)(w:World)
  (i:yJ 35 #[yi n] (.tuple #[ylV R D L G gr sz g h F,yi 0])) (t:5<c):
  yC 11 #[yi n,yvV c ng (.slice a f e) p] w (yR w (.tuple #[.string ⟨#[]⟩,yi 6])):=by
 have u: ¬c<1:=by omega
 have v:=cD;have x:=gn;have m:=ah w (yvL c ng (.slice a f e) p) 39;have k:=af w (.cells (yvA c ng (.slice a f e) p) 39);have j:Hid _:=i;clear i
 go_enter func11,ntmps11
 go_wp2_with fail
 refine(j.out _).mono ?_;rintro z o ⟨rfl,b⟩;have d:=af o (.cells (ylA R D L G gr sz g h F) 93);have r:=(m.l b).l d;have s:=ah o (ylL R D L G gr sz g h F) 93;have q:=aa (aa k b) d;obtain⟨M,N,O,P⟩:=r.cs4;obtain⟨y,A,B,C,E,H,I,J,K⟩:=s.cs9;clear m k b d j
 go_wp2
 go_ret2
 exact⟨rfl,q⟩
theorem EF (n:Int)(R D L G j:Int)(gr:Bool)(sz i:Nat)(F:Nat)(c p:Int)(ng:Bool)(a:Option Addr)(d b:Nat)(w:World)
  (k:yJ 35 #[yi n] (.tuple #[ylV R D L G gr sz i j F,yi 0]))
  (e:Int) (o:yH w 36 #[.slice a d b] (yi e)) (E:1≤c) (H:c≤5) (s:e≠0):
  yC 11 #[yi n,yvV c ng (.slice a d b) p] w (yR w (.tuple #[.string ⟨#[]⟩,yi e])):=by
 have y:Hid _:=o;clear o;have I: ¬c<1:=by omega
 have J: ¬5<c:=by omega
 have K:(e==0)=false:=by simpa using s
 clear s;have M:=cD;have N:=gn;have t:=ah w (yvL c ng (.slice a d b) p) 39;have q:=af w (.cells (yvA c ng (.slice a d b) p) 39);have m:Hid _:=k;clear k
 go_enter func11,ntmps11
 go_wp2_with fail
 refine(m.out _).mono ?_;rintro z x ⟨rfl,f⟩;have h:=af x (.cells (ylA R D L G gr sz i j F) 93);have u:=(t.l f).l h;have v:=ah x (ylL R D L G gr sz i j F) 93;have r:=aa (aa q f) h;obtain⟨u0,u1,u2,u3⟩:=u.cs4;obtain⟨O,P,Q,S,T,U,W,X,Y⟩:=v.cs9;clear t q f h m
 go_wp2_with fail
 refine(y.out _ r).mono ?_;rintro z w2 ⟨rfl,g⟩;have B:=u.l g;have C:=v.l g;have A:=aa r g;obtain⟨v0,v1,v2,v3⟩:=B.cs4;obtain⟨Z,t1,t2,t3,t4,t5,t6,t7,t8⟩:=C.cs9
 go_wp2
 go_ret2
 exact⟨rfl,A⟩
theorem QD (n:Int)(R D L G e:Int)(gr:Bool)(sz d:Nat)(F:Nat)(p:Int)(ng:Bool)(a:Option Addr)(c b:Nat)(w:World)
  (i:yJ 35 #[yi n] (.tuple #[ylV R D L G gr sz d e F,yi 0]))
  (v:Int) (k:yH w 36 #[.slice a c b] (yi v))
  (y:ByteArray) (s:Int) (m:yH w 37 #[ylV R D L G gr sz d e F,yvV 2 ng (.slice a c b) p] (.tuple #[.string y,yi s])) (H:v=0):
  yC 11 #[yi n,yvV 2 ng (.slice a c b) p] w (yR w (.tuple #[.string y,yi s])):=by
 subst H;have B:Hid _:=k;clear k;have C:Hid _:=m;clear m;have K:=cD;have M:=gn;have t:=ah w (yvL 2 ng (.slice a c b) p) 39;have o:=af w (.cells (yvA 2 ng (.slice a c b) p) 39);have j:Hid _:=i;clear i
 go_enter func11,ntmps11
 go_wp2_with fail
 refine(j.out _).mono ?_;rintro z A ⟨rfl,f⟩;have h:=af A (.cells (ylA R D L G gr sz d e F) 93);have u:=(t.l f).l h;have x:=ah A (ylL R D L G gr sz d e F) 93;have q:=aa (aa o f) h;obtain⟨u0,u1,u2,u3⟩:=u.cs4;obtain⟨N,O,P,Q,S,T,U,W,X⟩:=x.cs9;clear t o f h j
 go_wp2_with fail
 refine(B.out _ q).mono ?_;rintro z w2 ⟨rfl,g⟩;have I:=u.l g;have J:=x.l g;have r:=aa q g;obtain⟨v0,v1,v2,v3⟩:=I.cs4;obtain⟨Y,Z,t2,t3,t4,t5,t6,t7,t8⟩:=J.cs9
 go_wp2_with fail
 refine(C.out _ r).mono ?_;rintro z w3 ⟨rfl,E⟩
 go_wp2
 go_ret2
 exact⟨rfl,aa r E⟩
theorem Kr {k:Nat}(a:1≤k∧k≤8)(ng:Bool)(e f:Nat):wG k (cF (kU k ng e f))=byL (Eb (exN k) (frN k) ng e f) (szN k):=by
 unfold wG;rw[xP a,Hm _ (xi k _ (Uh _ _)),ME a _ (xT _ _)]
theorem ratio_any (ng:Bool)(d:ByteArray)(p:Int)(w:World)(hs:d.size≤400)(F: ∀i,i<d.size→48≤byt d i∧byt d i≤57)(p1: -6000≤p)(T:p≤6000)(R:Tab w):
  yC 107 #[.agg #[.bool ng,.string d,yi p]] w (RtR w (nrV (ng,d,p)).1 (nrV (ng,d,p)).2.1 (nrV (ng,d,p)).2.2.1 (nrV (ng,d,p)).2.2.2):=by
 have A:=fun f=>DF d f (by omega) F
 obtain⟨a,X⟩: ∃a,a=1600:=⟨_,rfl⟩;have E:pv d d.size<2^a:=Nat.lt_of_lt_of_le (Tb d F _ (Nat.le_refl _)) (Nat.le_trans (pow10_two _) (Nat.pow_le_pow_right (by omega) (by omega)));unfold nrV
 by_cases n:pv d d.size=0
 ·rw[if_pos n]
  refine(tratio_0 ng d p w fun f=>(A f).mono fun z w' h=> ?_).mono fun z w' h=> ?_
  ·obtain⟨v,e,o,b⟩:=h
   rw[n] at o;obtain⟨P,O,S⟩:=o.rd.shape;exact⟨P,O,by rw[e,S];rfl,b⟩
  ·obtain⟨q,e,l,b⟩:=h
   exact⟨_,_,e,by rw[show Dg.dg 4294967296 0=[] from rfl];exact aN _ _,rd_one1 (l.c 0 rfl),b⟩
 rw[if_neg n];obtain⟨J,K⟩:=nrM_in (p:=p) n E T;have a0:=tz_bits J K;have Z:(Dg.dg 4294967296 (nrM (pv d d.size) p).1).length≤613:=jq K (by omega);have W:(Dg.dg 4294967296 (pv d d.size)).length≤50:=jq E (by omega);have H:0< (Dg.dg 4294967296 (pv d d.size)).length:=by
  rcases Nat.eq_zero_or_pos (Dg.dg 4294967296 (pv d d.size)).length with c|c
  ·exact absurd ((Dg.dg_nil_iff 4294967296 _ (by omega)).1 (List.length_eq_zero_iff.1 c)) n
  ·exact c
 have D: ∀m k f,yB w f→Rd f .u32 (.slice m (Dg.dg 4294967296 (nrM (pv d d.size) p).1).length k) (Dg.dg 4294967296 (nrM (pv d d.size) p).1)→yC 145 #[.slice m (Dg.dg 4294967296 (nrM (pv d d.size) p).1).length k] f (yR f (yi ((tz (nrM (pv d d.size) p).1:Nat):Int))):=fun m k f b y=>by
  refine(Gl _ _ f y (by omega) (R.l b)).mono fun z w' h=> ?_
  obtain⟨r,x⟩:=h;rw[if_neg J] at r;subst x;exact⟨r,Below.refl _ _⟩
 have C: ∀m k f,Rd f .u32 (.slice m (Dg.dg 4294967296 (nrM (pv d d.size) p).1).length k) (Dg.dg 4294967296 (nrM (pv d d.size) p).1)→yC 43 #[.slice m (Dg.dg 4294967296 (nrM (pv d d.size) p).1).length k,yi (-((tz (nrM (pv d d.size) p).1:Nat):Int))] f (NmR f ((nrM (pv d d.size) p).1/2^tz (nrM (pv d d.size) p).1)):=fun m k f y=>by
  have:=eO _ _ (-((tz (nrM (pv d d.size) p).1:Nat):Int)) f y (Dg.small_dg _ _ (by omega)) (by omega) (by omega) (by omega);rw[Dg.vl_dg _ _ (by omega),shN_down] at this;exact this.mono fun _ _ h=>num_nmR h
 have I:IntKind.i64.wrap (-((tz (nrM (pv d d.size) p).1:Nat):Int))= -((tz (nrM (pv d d.size) p).1:Nat):Int):=IntWalk.i64_in _ ⟨by omega,by omega⟩;have G:IntKind.i64.wrap (p+((tz (nrM (pv d d.size) p).1:Nat):Int))=p+((tz (nrM (pv d d.size) p).1:Nat):Int):=IntWalk.i64_in _ ⟨by omega,by omega⟩;have B:=fun f=>(A f).mono fun _ _ h=>num_nmR h
 by_cases s:0<p
 ·have eM:nrM (pv d d.size) p=(pv d d.size*5^p.toNat,1):=if_pos s
  have L: ∀f,yC 79 #[yi p] f (NmR f (5^p.toNat)):=fun f=>by
   have:=fives_any p.toNat f (by omega);rw[show((p.toNat:Nat):Int)=p by omega] at this
   exact this
  obtain⟨c,Y⟩: ∃c,c=18001:=⟨_,rfl⟩;have Q:5^p.toNat<2^c:=Nat.lt_of_le_of_lt (pow5_two _) (Nat.pow_lt_pow_right (by omega) (by omega));have U:(Dg.dg 4294967296 (5^p.toNat)).length≤563:=jq Q (by omega);have N: ∀j g u t f,Rd f .u32 (.slice j (Dg.dg 4294967296 (pv d d.size)).length g) (Dg.dg 4294967296 (pv d d.size))→Rd f .u32 (.slice u (Dg.dg 4294967296 (5^p.toNat)).length t) (Dg.dg 4294967296 (5^p.toNat))→yC 78 #[.slice j (Dg.dg 4294967296 (pv d d.size)).length g,.slice u (Dg.dg 4294967296 (5^p.toNat)).length t] f (NmR f (nrM (pv d d.size) p).1):=fun j g u t f r x=>by
   have:=qC _ _ _ _ f r x (Dg.small_dg _ _ (by omega)) (Dg.small_dg _ _ (by omega)) (by omega) (by omega);rw[Dg.vl_dg _ _ (by omega),Dg.vl_dg _ _ (by omega)] at this;rw[eM];exact this.mono fun _ _ h=>num_nmR h
  have:=tratio_up ng d p _ _ _ _ _ _ _ w H I G s B L N D C;rw[show(nrM (pv d d.size) p).2=1 by rw[eM]]
  exact this
 ·have eM:nrM (pv d d.size) p=((redF (pv d d.size) (-p).toNat).1,5^ (redF (pv d d.size) (-p).toNat).2):=if_neg s
  have M: ∀j g f,Rd f .u32 (.slice j (Dg.dg 4294967296 (pv d d.size)).length g) (Dg.dg 4294967296 (pv d d.size))→yC 144 #[.slice j (Dg.dg 4294967296 (pv d d.size)).length g,yi (-p)] f (TwR f (nrM (pv d d.size) p).1 (nrM (pv d d.size) p).2):=fun j g f h=>by
   have:=reduced_any j _ g _ (-p).toNat f h (by omega) (by omega);rw[show(((-p).toNat:Nat):Int)= -p by omega] at this
   rw[eM];exact this
  exact tratio_down ng d p _ _ _ _ _ _ _ _ w H I G s (IntWalk.i64_in _ ⟨by omega,by omega⟩) B M D C
theorem decimalOf_any (x:ak)(d:Option Addr)(b:Nat)(w:World)(A:Rd w .u32 (yT d x.n b) (Dg.dg 4294967296 x.n))(j:x.n<2^64)(t: -16500≤x.e)(u:x.e≤16500)(v:x.n≠0):
  yC 12 #[yDV x d b] w (DcR w x.s (dcH x) (dcC x:Int) (dcP x)):=by
 obtain⟨⟨N,O⟩,⟨c,I,y⟩,P⟩:=dc_in j t u v;have R:=bF x.n 64 j;have S:=Gq v;have W:(Dg.dg 4294967296 x.n).length≤2:=jq j (by omega);have Q:(Dg.dg 4294967296 (dcW x)).length≤1156:=jq y (by omega);have m: ∀d b a,Rd a .u32 (yT d x.n b) (Dg.dg 4294967296 x.n)→yC 40 #[yT d x.n b] a (yR a (yi (bitLen x.n:Nat))):=fun d b a h=>by
  refine(kE _ _ a h (Dg.small_dg _ _ (by omega)) (Dg.norm_dg _ _ (by omega)) (by omega)).mono fun z w' L=> ?_
  obtain⟨H,M⟩:=L;subst M;rw[Dg.vl_dg _ _ (by omega)] at H;exact⟨H,Below.refl _ _⟩
 have p:=fun a=>pbelow_any ((bitLen x.n:Int)-1+x.e) a (by omega) (by omega)
 have i: ∀d b a,yB w a→Rd a .u32 (yT d x.n b) (Dg.dg 4294967296 x.n)→yC 41 #[yDV x d b,yi (60-dcG x)] a (NbR a (dcW x) (dcL x)):=fun d b a _ h=>scaled_any x.s x.n d b x.e (60-dcG x) a h j t u (by omega) (by omega)
 have o: ∀g f a,Rd a .u32 (.slice g (Dg.dg 4294967296 (dcW x)).length f) (Dg.dg 4294967296 (dcW x))→yC 42 #[.slice g (Dg.dg 4294967296 (dcW x)).length f] a (yR a (.string (oW (dcW x)))):=fun g f a h=>by
  have:=MR _ _ a h (Dg.small_dg _ _ (by omega)) (Dg.norm_dg _ _ (by omega)) (by omega);rw[Dg.vl_dg _ _ (by omega)] at this;exact this
 have r: ∀g f a,Rd a .u32 (.slice g (Dg.dg 4294967296 (dcW x)).length f) (Dg.dg 4294967296 (dcW x))→yC 43 #[.slice g (Dg.dg 4294967296 (dcW x)).length f,yi 1] a (NmR a (dcW x*2)):=fun g f a h=>by
  have:=eO _ _ 1 a h (Dg.small_dg _ _ (by omega)) (by omega) (by omega) (by omega);rw[Dg.vl_dg _ _ (by omega),CE _ 1 (by omega)] at this;exact this.mono fun _ _ h=>num_nmR h
 have B:IntKind.i64.wrap ((bitLen x.n:Int)-1)=(bitLen x.n:Int)-1:=IntWalk.i64_in _ ⟨by omega,by omega⟩;have C:IntKind.i64.wrap ((bitLen x.n:Int)-1+x.e)=(bitLen x.n:Int)-1+x.e:=IntWalk.i64_in _ ⟨by omega,by omega⟩;have D:IntKind.i64.wrap (60-dcG x)=60-dcG x:=IntWalk.i64_in _ ⟨by omega,by omega⟩;have E:IntKind.i64.wrap (dcG x+((oW (dcW x)).size:Int))=dcG x+(dcC x:Int):=IntWalk.i64_in _ ⟨by show _≤dcG x+(dcC x:Int);omega,by show dcG x+(dcC x:Int)≤_;omega⟩
 have F:IntKind.i64.wrap (dcG x+(dcC x:Int)-1)=dcG x+(dcC x:Int)-1:=IntWalk.i64_in _ ⟨by omega,by omega⟩;have G:IntKind.i64.wrap (dcG x+(dcC x:Int)-1-60)=dcP x:=IntWalk.i64_in _ ⟨by omega,by omega⟩;unfold dcH
 cases hL:dcL x
 ·rw[if_neg (by decide)]
  rw[hL] at i;exact tdecOf_f x.s x.n (dcW x) _ d b x.e _ _ _ _ _ _ _ _ (oW (dcW x)) w A B C D E F G m p i o r
 ·rw[if_pos rfl]
  rw[hL] at i;have T:(Dg.dg 4294967296 (dcW x*2)).length≤1156+1:=by
   obtain⟨l,J⟩: ∃l,l=c+1:=⟨_,rfl⟩;refine jq (k:=l) ?_ (by omega);rw[J,Nat.pow_succ];exact Nat.mul_lt_mul_of_pos_right y (by omega)
  refine tdecOf_t x.s x.n (dcW x) _ (dcW x*2+1) d b x.e _ _ _ _ _ _ _ _ (oW (dcW x)) w A B C D E F G m p i o r (fun U I q a h K=> ?_)
  have:=rj _ _ (Dg.dg 4294967296 (dcW x*2)) [1] a h (xD (K.c 0 rfl)) (Dg.small_dg _ _ (by omega)) (Dg.small_cons.2 ⟨by omega,Dg.small_nil _ (by omega)⟩) (by omega) (by simp);rw[Dg.vl_dg _ _ (by omega),show Dg.vl 4294967296 [1]=1 from rfl] at this
  exact this.mono fun _ _ h=>num_nmR h
theorem tprint_any (g:Bool)(H C k:Nat)(P:Int)(f:Option Addr)(o:Nat)(w:World)(rh:Rd w .u32 (yT f H o) (Dg.dg 4294967296 H))(T:TxW w)(E:H<2*10^C)(hC:C≤37000)(a0:1≤k)(a1:k≤60)(a2:k≤C)(p1: -100000≤P)(p2:P≤100000):
  yC 14 #[.agg #[.bool g,yT f H o,yi C,yi P],yi k] w (yR w (.string (prR g H C P k))):=by
 obtain⟨a,ha⟩: ∃a,a=148002:=⟨_,rfl⟩;have F:H<2^a:=by
  refine Nat.lt_of_lt_of_le E (Nat.le_trans (Nat.mul_le_mul_left 2 (pow10_two C)) ?_);rw[←Nat.pow_succ'];exact Nat.pow_le_pow_right (by omega) (by omega)
 have R:10^ (C-k)<2^a:=Nat.lt_of_le_of_lt (pow10_two _) (Nat.pow_lt_pow_right (by omega) (by omega));have W:prU C k<2^a:=by
  unfold prU;refine Nat.lt_of_le_of_lt (Nat.mul_le_mul_right 2 (pow10_two _)) ?_;rw[←Nat.pow_succ];exact Nat.pow_lt_pow_right (by omega) (by omega)
 have I:prU C k≠0:=Nat.ne_of_gt (Nat.mul_pos (Nat.pow_pos (by omega)) (by omega));have t: ∀m,m<2^a→(Dg.dg 4294967296 m).length≤900000:=fun m h=>Nat.le_trans (jq (L:=4626) h (by omega)) (by omega)
 have a5:H % prU C k<2^a:=Nat.lt_trans (Nat.mod_lt _ (Nat.pos_of_ne_zero I)) W;have Y:H/prU C k<2^a:=Nat.lt_of_le_of_lt (Nat.div_le_self _ _) F;have S:=prQ_le E a2;have G:prQ H C k<10^ (k+1):=Nat.lt_of_le_of_lt S (Nat.pow_lt_pow_right (by omega) (by omega));have a7:=decS_le G (by omega);have U:=decS_one (prQ H C k);have a6:(Dg.dg 4294967296 (prQ H C k)).length≤100:=by
  obtain⟨b,hb⟩: ∃b,b=244:=⟨_,rfl⟩;exact jq (k:=b+1) (Nat.lt_of_lt_of_le G (Nat.le_trans (pow10_two _) (Nat.pow_le_pow_right (by omega) (by omega)))) (by omega)
 have O: ∀q d,au d q 105 [.int .u32 10]→yC 45 #[.slice (some ⟨q,0,none⟩) 1 1,yi ((C-k:Nat):Int)] d (NmR d (10^ (C-k))):=fun q d y=>by
  have hr:Rd d .u32 (.slice (some ⟨q,0,none⟩) 1 1) (Dg.dg 4294967296 10):=by
   rw[show Dg.dg 4294967296 10=[10] by decide]
   exact⟨_,_,rfl,by simp,by unfold maxLen;simp,fun _=>⟨_,0,rfl,fun i Z=>by
    obtain rfl:i=0:=by simpa using Z
    exact y.c 0 rfl⟩⟩
  exact(Iq _ 10 (C-k) 1 d hr (by decide) (by omega) (by omega) (by omega)).mono fun _ _ h=>num_nmR h
 have M: ∀B A s r d,Rd d .u32 (.slice B (Dg.dg 4294967296 (H % prU C k*2)).length A) (Dg.dg 4294967296 (H % prU C k*2))→Rd d .u32 (.slice s (Dg.dg 4294967296 (prU C k)).length r) (Dg.dg 4294967296 (prU C k))→yC 47 #[.slice B (Dg.dg 4294967296 (H % prU C k*2)).length A,.slice s (Dg.dg 4294967296 (prU C k)).length r] d (yR d (yi (dm (H % prU C k*2:Nat) (prU C k:Nat)))):=fun B A s r d v x=>by
  have:=jF _ _ _ _ d v x (Dg.small_dg _ _ (by omega)) (Dg.small_dg _ _ (by omega)) (Dg.norm_dg _ _ (by omega)) (Dg.norm_dg _ _ (by omega));rw[Dg.vl_dg _ _ (by omega),Dg.vl_dg _ _ (by omega)] at this;exact this
 have Q: ∀n j d,Rd d .u32 (.slice n (Dg.dg 4294967296 (H/prU C k)).length j) (Dg.dg 4294967296 (H/prU C k))→yC 48 #[.slice n (Dg.dg 4294967296 (H/prU C k)).length j] d (yR d (.bool (decide (H/prU C k % 2=1)))):=fun n j d h=>by
  refine(aaI _ _ d h).mono fun z w' hz=> ?_
  obtain⟨z1,z2⟩:=hz;subst z2;exact⟨z1,Below.refl _ _⟩
 have K: ∀n j q d,Rd d .u32 (.slice n (Dg.dg 4294967296 (H/prU C k)).length j) (Dg.dg 4294967296 (H/prU C k))→au d q 105 [.int .u32 1]→yC 44 #[.slice n (Dg.dg 4294967296 (H/prU C k)).length j,.slice (some ⟨q,0,none⟩) 1 1] d (NmR d (H/prU C k+1)):=fun n j q d h y=>by
  have:=rj _ _ (Dg.dg 4294967296 (H/prU C k)) [1] d h (xD (y.c 0 rfl)) (Dg.small_dg _ _ (by omega)) (Dg.small_cons.2 ⟨by omega,Dg.small_nil _ (by omega)⟩) (by have:=t _ Y;omega) (by simp);rw[Dg.vl_dg _ _ (by omega),show Dg.vl 4294967296 [1]=1 from rfl] at this
  exact this.mono fun _ _ h=>num_nmR h
 have N: ∀go u d,Rd d .u32 (.slice go (Dg.dg 4294967296 (prQ H C k)).length u) (Dg.dg 4294967296 (prQ H C k))→yC 42 #[.slice go (Dg.dg 4294967296 (prQ H C k)).length u] d (yR d (.string (oW (prQ H C k)))):=fun go u d h=>by
  have:=MR _ _ d h (Dg.small_dg _ _ (by omega)) (Dg.norm_dg _ _ (by omega)) (by omega);rw[Dg.vl_dg _ _ (by omega)] at this;exact this
 have X:(0<dm (H % prU C k*2:Nat) (prU C k:Nat)∧H/prU C k+1=prQ H C k)∨(dm (H % prU C k*2:Nat) (prU C k:Nat)=0∧decide (H/prU C k % 2=1)=true∧H/prU C k+1=prQ H C k)∨(dm (H % prU C k*2:Nat) (prU C k:Nat)=0∧decide (H/prU C k % 2=1)=false∧H/prU C k=prQ H C k)∨(dm (H % prU C k*2:Nat) (prU C k:Nat)<0∧H/prU C k=prQ H C k):=by
  unfold dm prQ
  rcases Nat.lt_trichotomy (H % prU C k*2) (prU C k) with h|h|h
  ·refine .inr (.inr (.inr ⟨by rw[if_pos (by omega)];decide,by rw[if_neg (by omega)]⟩))
  ·have e:(if((H % prU C k*2:Nat):Int)< ((prU C k:Nat):Int) then(-1:Int) else if((prU C k:Nat):Int)< ((H % prU C k*2:Nat):Int) then 1 else 0)=0:=by rw[if_neg (by omega),if_neg (by omega)]
   by_cases f:H/prU C k % 2=1
   ·exact .inr (.inl ⟨e,decide_eq_true f,by rw[if_pos (.inr ⟨h,f⟩)]⟩)
   ·exact .inr (.inr (.inl ⟨e,decide_eq_false f,by rw[if_neg (by omega)]⟩))
  ·exact .inl ⟨by rw[if_neg (by omega),if_pos (by omega)];decide,by rw[if_pos (.inl h)]⟩
 have D:=fun(p:Int) (q1: -200000≤p) (q2:p≤200000) d (b:yB w d)=>itoa_any p d (by omega) (by omega) (T.l b)
 have J:=fun(p:Int) (q1: -200000≤p) (q2:p≤200000)=>Lib.itoa_length_le p (by omega) (by omega)
 have a4:IntKind.i64.wrap (P+1)=P+1:=IntWalk.i64_in _ ⟨by omega,by omega⟩;have a3:IntKind.i64.wrap ((C:Int)-(k:Int))=((C-k:Nat):Int):=by rw[IntWalk.i64_in _ ⟨by omega,by omega⟩];omega
 exact tprint_W g _ H (10^ (C-k)) (prU C k) (H/prU C k) (H % prU C k) (H % prU C k*2) (H/prU C k+1) (prQ H C k) k f o C P _ _ (P+1) (oW (prQ H C k)) (fun p=>⟨(Lib.itoa p).toArray⟩) w rh a3 a4 ⟨a0,a1⟩ ⟨U,by omega⟩ ⟨by show(ByteArray.mk _).size≤_;rw[mk_size];have:=J P (by omega) (by omega);omega,by show(ByteArray.mk _).size≤_;rw[mk_size];have:=J (P+1) (by omega) (by omega);omega⟩ X O (fun po pc d h=>shift1_any _ po pc d (t _ R) h) (fun f o s r d v x=>ov_any _ _ f o s r d (t _ F) I v x) (fun ro rc d h=>shift1_any _ ro rc d (t _ a5) h) M Q K N ⟨D P (by omega) (by omega),D (P+1) (by omega) (by omega)⟩
theorem digB_list (x:List UInt8):digB ⟨x.toArray⟩=true↔x≠[]∧ ∀b∈x,isDg b=true:=by
 rw[digB_iff,mk_size]
 constructor
 ·rintro⟨c,d⟩
  refine⟨fun e=>c (by rw[e];rfl),fun b f=> ?_⟩
  obtain⟨i,a,rfl⟩:=List.getElem_of_mem f;have:=d i a;rw[byt_list x i a] at this;exact decide_eq_true this
 ·rintro⟨c,d⟩
  refine⟨fun e=>c (List.length_eq_zero_iff.1 e),fun i a=> ?_⟩
  rw[byt_list x i a];exact of_decide_eq_true (d _ (List.getElem_mem a))
theorem pv_all (x:List UInt8):pv ⟨x.toArray⟩ x.length=lvD x:=by
 rw[pv_list x _ (Nat.le_refl _),List.take_length]
theorem rp_list (y:List UInt8):rpV ⟨y.toArray⟩=match rpL y with|some p=>(p,true)|none=>(0,false):=by
 obtain⟨d,a⟩:=dash_list y;obtain⟨m,e⟩: ∃m,decide (y.head? =some 45)=m:=⟨_,rfl⟩;rw[e] at d a;obtain⟨x,f⟩: ∃x,(if m=true then y.tail else y)=x:=⟨_,rfl⟩
 rw[f] at a;have g:undash ⟨y.toArray⟩=⟨x.toArray⟩:=by rw[←a,mk_list]
 unfold rpV rpL;simp only;rw[e,f,g,d,mk_size,pv_all]
 by_cases h:x.length≤5∧x≠[]∧(∀b∈x,isDg b=true)
 ·rw[if_pos h,if_pos ⟨h.1,(digB_list x).2 h.2⟩]
 ·rw[if_neg h,if_neg (fun c=>h ⟨c.1,(digB_list x).1 c.2⟩)]
theorem dgS_val {x:ak}{k:Nat}(l:x.n<2^64)(f: -16500≤x.e)(g:x.e≤16500)(h:x.n≠0)(q:1≤k)(F:k≤60):
  (∀b∈(dgS x k).data.toList,isDg b=true)∧ ∃d:Nat,d≤1∧prN (dcH x) (dcC x) (dcP x) k=dcP x+(d:Int)∧lvD (dgS x k).data.toList*10^d=prQ (dcH x) (dcC x) k∧lvD (dgS x k).data.toList≠0:=by
 obtain⟨m,y,z,A,B⟩:=dc_all l f g h;have p:=prQ_ge (k:=k) (dcH_low l f g h) q (by omega);have j:prQ (dcH x) (dcC x) k≤10^k:=prQ_le m (by omega);unfold dgS prN;obtain⟨Q,o⟩: ∃Q,prQ (dcH x) (dcC x) k=Q:=⟨_,rfl⟩;rw[o] at p j⊢;obtain⟨t,u,I⟩:=decDig_all Q;have a:(oW Q).data.toList=Lib.decDigits Q:=by rw[decS_list]
 have G:0<10^ (k-1):=Nat.pow_pos (by omega)
 by_cases c:k< (oW Q).size
 ·rw[if_pos c,if_pos c]
  have s:(oW Q).size=(Lib.decDigits Q).length:=by rw[size_list,a]
  have H:(oW Q).size≤k+1:=decS_le (Nat.lt_of_le_of_lt j (Nat.pow_lt_pow_right (by omega) (by omega))) (by omega);have D:10^k≤Q:=by
   have:=decS_low (W:=Q) (by omega)
   rwa [show(oW Q).size-1=k by omega] at this
  have C:Q=10^k:=by omega
  have E:10^k=10^ (k-1)*10:=by rw[←Nat.pow_succ];congr 1;omega
  have i: ¬Q<10:=by omega
  have r:((oW Q).extract 0 k).data.toList=Lib.decDigits (Q/10):=by
   rw[ByteArray.data_extract,Array.toList_extract,List.extract,List.drop_zero,Nat.sub_zero,a,Lib.decDigits,dif_neg i];have:(Lib.decDigits (Q/10)).length=k:=by
    rw[Lib.decDigits,dif_neg i,List.length_append,List.length_singleton] at s;omega
   rw[←this,List.take_left'];rfl
  obtain⟨v,w,J⟩:=decDig_all (Q/10);rw[r,w];exact⟨v,1,by omega,rfl,by omega,by omega⟩
 ·rw[if_neg c,if_neg c,a,u]
  exact⟨t,0,by omega,by omega,by omega,by omega⟩
def ShV (w:World)(a:Nat)(cs:List Value)(v:Value)(m:Nat)(wr:World):Prop:=yB w wr∧au wr a 30 cs∧Rd wr .i64 v (Dg.dg 65536 m)
def ShStep (n:Int)(cx:Int)(gx:Bool)(x:ak)(k K:Nat)(RR:ByteArray)(w:World):Prop:=
 ∃(pk:ByteArray) (g0 g:Bool) (N M:Nat) (E c fl d:Int) (t:ak),
  (∀xo xc w1,yB w w1→Rd w1 .i64 (yS xo x.n xc) (Dg.dg 65536 x.n)→yC 26 #[yoV cx gx x.s (yS xo x.n xc) x.e,yi k] w1 (yR w1 (.string pk)))∧(∀w1,yB w w1→yC 27 #[.string pk] w1 (RqE w1 g0 N M E 0))∧(∀yo yc zo zc w1,Rd w1 .i64 (yS yo N yc) (Dg.dg 65536 N)→Rd w1 .i64 (yS zo M zc) (Dg.dg 65536 M)→yC 28 #[yi n,yrV g0 (yS yo N yc) (yS zo M zc) E,yi 1] w1 (RVG w1 c g t fl))∧(c=2→ ∀so sc xo xc w1,Rd w1 .i64 (yS so t.n sc) (Dg.dg 65536 t.n)→Rd w1 .i64 (yS xo x.n xc) (Dg.dg 65536 x.n)→yC 29 #[ydV t.s (yS so t.n sc) t.e,ydV x.s (yS xo x.n xc) x.e] w1 (yR w1 (yi d)))∧((k<K∧((c==2)=false∨(c=2∧(d==0)=false)))∨(k=K∧c=2∧d=0∧pk=RR))
theorem shortestOf_num (K:Nat)(RR:ByteArray)(n f0 f1 f2 R D L G c5 A:Int)(gr B:Bool)(x:ak)(o:Option Addr)(m:Nat)(w:World)(j:Rd w .i64 (yS o x.n m) (Dg.dg 65536 x.n))(hK:1≤K∧K≤60)
  (HW: ∀o m u,yC 24 #[yoV A B x.s (yS o x.n m) x.e] u (yR u (.string ⟨#[]⟩)))
  (Z:yJ 15 #[yi n] (.tuple #[yhV f0 f1 f2 R D L G gr c5,.bool true]))
  (HG: ∀o m u,yB w u→Rd u .i64 (yS o x.n m) (Dg.dg 65536 x.n)→yC 25 #[ydV x.s (yS o x.n m) x.e,ygV R D L G gr] u (yR u (.bool true)))
  (HH: ∀k:Nat,1≤k→k≤K→ShStep n A B x k K RR w):
  yC 7 #[yi n,yoV A B x.s (yS o x.n m) x.e] w (yR w (.tuple #[.string RR,yi 0])):=by
 replace HW:Hid _:=HW;replace Z:Hid _:=Z;replace HG:Hid _:=HG;replace HH:Hid _:=HH;obtain⟨W3,ay,q1,b2⟩:=cA w (yoL A B x.s (yS o x.n m) x.e) 30;replace ay:Hid _:=ay;have r5:=j.l b2;clear j
 go_enter func7,ntmps7
 go_upto_region 1 with fail
 rw[ay.out];clear ay;obtain⟨c6,c7,c8,c9,e4⟩:=q1.cs5
 go_wp2_with fail
 refine(HW.out _ _ _).mono ?_;rintro b hg ⟨rfl,a4⟩;have cd:=q1.l a4;have cs:=r5.l a4;have bw:=aa b2 a4;clear q1 r5 b2 a4 HW c6 c7 c8 c9 e4
 go_wp2_with fail
 refine(Z.out _).mono ?_;rintro b dq ⟨rfl,a6⟩;have be:=cd.l a6;have cv:=cs.l a6;have b4:=aa bw a6;clear cd cs bw a6 Z;obtain⟨g7,aq,F,a1⟩:=cA dq (yhL f0 f1 f2 R D L G gr c5) 56;replace aq:Hid _:=aq;have gv:w.heap.size≤dq.heap.size:=b4.size;have gy:=be.lt;have P:=be.l a1;have bq:=cv.l a1;have b8:=aa b4 a1;clear be cv b4 a1
 go_upto_region 3 with fail
 rw[aq.out];clear aq;have ev:=P.c 2 rfl;have f5:=P.c 3 rfl;have f6:=P.c 4 rfl;have f7:=F.c 3 rfl;have fc:=F.c 4 rfl;have fd:=F.c 5 rfl;have fo:=F.c 6 rfl;have fp:=F.c 7 rfl
 go_wp2_with fail
 refine(HG.out _ _ _ b8 bq).mono ?_;rintro b e0 ⟨rfl,an⟩;have cl:=P.l an;have dl:=bq.l an;have c3:=aa b8 an;clear P F bq b8 an HG ev f5 f6 f7 fc fd fo fp;have C:ShV w (w.heap.size) (yoL A B x.s (yS o x.n m) x.e) (yS o x.n m) x.n e0:=⟨c3,cl,dl⟩;clear cl dl c3;generalize w.heap.size=ad at C⊢;generalize e0=ws at C⊢
 go_wp2
 go_loopw [9] (fun kv wr=> ∃k:Nat,1≤k∧k≤K∧kv=yi (k:Int)∧ShV w ad (yoL A B x.s (yS o x.n m) x.e) (yS o x.n m) x.n wr) (fun kv _=>K-(intOf kv).toNat)
 case atStart=>exact⟨1,by omega,by omega,rfl,C⟩
 case round=>
  clear C;obtain⟨k,fs,ft,rfl,C⟩:=hrel;obtain⟨q,r,j⟩:=C;have gc:IntKind.i64.wrap ((k:Int)+1)=(k:Int)+1:=IntWalk.i64_in _ ⟨by omega,by omega⟩;obtain⟨pk,g0,g,N,M,E,c,fl,d,t,f,h,i,p,fr⟩:=HH.out k fs ft
  rcases fr with⟨h3,hc| ⟨rfl,hd⟩⟩| ⟨rfl,rfl,rfl,rfl⟩
  ·clear p
   replace f:Hid _:=f;replace h:Hid _:=h;replace i:Hid _:=i;obtain⟨e5,e6,e7,e8,e9⟩:=r.cs5
   go_wp2_with fail
   refine(f.out _ _ _ q j).mono ?_;rintro b hf ⟨rfl,a2⟩;have ca:=r.l a2;have cm:=j.l a2;have b0:=aa q a2;clear r j q a2 f e5 e6 e7 e8 e9
   go_wp2_with fail
   refine(h.out _ b0).mono ?_;rintro b dn ⟨h4,ha,rfl,bj,bs,a3⟩;have bc:=ca.l a3;have cn:=cm.l a3;have b1:=aa b0 a3;obtain⟨W,U,a⟩:=bj.shape;subst a;obtain⟨Y,X,a⟩:=bs.shape;subst a;clear ca cm b0 a3 h;obtain⟨g4,ao,cb,v⟩:=cA dn (yrL g0 (yS W N U) (yS Y M X) E) 72;replace ao:Hid _:=ao;have gd:w.heap.size≤dn.heap.size:=b1.size;have gg:=bc.lt;have cc:=bc.l v;have co:=cn.l v;have cp:=bj.l v;have cr:=bs.l v;have bv:=aa b1 v;clear bc cn bj bs b1 v
   go_upto_region 11 with fail
   rw[ao.out];clear ao;obtain⟨ea,eb,ec,ed⟩:=cb.cs4
   go_wp2_with fail
   refine(i.out _ _ _ _ _ cp cr).mono ?_;rintro b dp ⟨h5,rfl,cw,-,a5⟩;have bd:=cc.l a5;have ct:=co.l a5;have b3:=aa bv a5;obtain⟨T,S,a⟩:=cw.shape;subst a;clear cc cb co cp cr bv a5 i ea eb ec ed;obtain⟨g5,ap,fv,a0⟩:=cA dp (yoL c g t.s (yS T t.n S) t.e) 30;replace ap:Hid _:=ap;have gi:w.heap.size≤dp.heap.size:=b3.size;have gl:=bd.lt;have fx:=bd.l a0;have g2:=ct.l a0;have e1:=aa b3 a0;clear bd ct cw b3 a0
   go_upto_region 12 with fail
   rw[ap.out];clear ap;have gb:=fv.c 0 rfl
   go_wp2
   go_roundw
   case rel=>exact⟨k+1,by omega,by omega,by go_num,⟨e1,fx,g2⟩⟩
   case measure=>simp[intOf];omega
  ·replace p:Hid _:=p rfl
   replace f:Hid _:=f;replace h:Hid _:=h;replace i:Hid _:=i;obtain⟨ee,ef,eg,eh,ei⟩:=r.cs5
   go_wp2_with fail
   refine(f.out _ _ _ q j).mono ?_;rintro b hh ⟨rfl,a7⟩;have ce:=r.l a7;have cy:=j.l a7;have b5:=aa q a7;clear r j q a7 f ee ef eg eh ei
   go_wp2_with fail
   refine(h.out _ b5).mono ?_;rintro b ds ⟨h6,hb,rfl,bl,bt,a8⟩;have bf:=ce.l a8;have cz:=cy.l a8;have b6:=aa b5 a8;obtain⟨W,U,a⟩:=bl.shape;subst a;obtain⟨Y,X,a⟩:=bt.shape;subst a;clear ce cy b5 a8 h;obtain⟨g6,ar,cg,y⟩:=cA ds (yrL g0 (yS W N U) (yS Y M X) E) 72;replace ar:Hid _:=ar;have gm:w.heap.size≤ds.heap.size:=b6.size;have gp:=bf.lt;have ch:=bf.l y;have d0:=cz.l y;have d1:=bl.l y;have d2:=bt.l y;have bx:=aa b6 y;clear bf cz bl bt b6 y
   go_upto_region 11 with fail
   rw[ar.out];clear ar;obtain⟨ej,ek,el,em⟩:=cg.cs4
   go_wp2_with fail
   refine(i.out _ _ _ _ _ d1 d2).mono ?_;rintro b dt ⟨h7,rfl,bm,-,a9⟩;have bg:=ch.l a9;have d3:=d0.l a9;have b7:=aa bx a9;obtain⟨T,S,a⟩:=bm.shape;subst a;clear ch cg d0 d1 d2 bx a9 i ej ek el em;obtain⟨g8,av,J,H⟩:=cA dt (yoL 2 g t.s (yS T t.n S) t.e) 30;replace av:Hid _:=av;have gq:w.heap.size≤dt.heap.size:=b7.size;have gs:=bg.lt;have O:=bg.l H;have bp:=d3.l H;have d4:=bm.l H;have c0:=aa b7 H;clear bg d3 bm b7 H
   go_upto_region 12 with fail
   rw[av.out];clear av;have en:=O.c 2 rfl;have eo:=O.c 3 rfl;have ep:=O.c 4 rfl;have er:=J.c 0 rfl;have es:=J.c 2 rfl;have et:=J.c 3 rfl;have eu:=J.c 4 rfl
   go_wp2_with fail
   refine(p.out _ _ _ _ _ d4 bp).mono ?_;rintro b hi ⟨rfl,ab⟩;have g1:=O.l ab;have g3:=bp.l ab;have e2:=aa c0 ab;clear O J bp d4 c0 ab p en eo ep er es et eu
   go_wp2
   go_roundw
   case rel=>exact⟨k+1,by omega,by omega,by go_num,⟨e2,g1,g3⟩⟩
   case measure=>simp[intOf];omega
  ·replace p:Hid _:=p rfl
   replace f:Hid _:=f;replace h:Hid _:=h;replace i:Hid _:=i;obtain⟨ex,ey,ez,f3,f4⟩:=r.cs5
   go_wp2_with fail
   refine(f.out _ _ _ q j).mono ?_;rintro b hj ⟨rfl,ac⟩;have ci:=r.l ac;have d5:=j.l ac;have b9:=aa q ac;clear r j q ac f ex ey ez f3 f4
   go_wp2_with fail
   refine(h.out _ b9).mono ?_;rintro b dv ⟨h8,he,rfl,bn,bu,ae⟩;have bh:=ci.l ae;have d6:=d5.l ae;have ba:=aa b9 ae;obtain⟨W,U,a⟩:=bn.shape;subst a;obtain⟨Y,X,a⟩:=bu.shape;subst a;clear ci d5 b9 ae h;obtain⟨g9,aw,cj,z⟩:=cA dv (yrL g0 (yS W N U) (yS Y M X) E) 72;replace aw:Hid _:=aw;have gz:w.heap.size≤dv.heap.size:=ba.size;have h0:=bh.lt;have ck:=bh.l z;have d7:=d6.l z;have d9:=bn.l z;have da:=bu.l z;have c1:=aa ba z;clear bh d6 bn bu ba z
   go_upto_region 11 with fail
   rw[aw.out];clear aw;obtain⟨f8,f9,fa,fb⟩:=cj.cs4
   go_wp2_with fail
   refine(i.out _ _ _ _ _ d9 da).mono ?_;rintro b dy ⟨h9,rfl,bo,-,al⟩;have bi:=ck.l al;have db:=d7.l al;have bb:=aa c1 al;obtain⟨T,S,a⟩:=bo.shape;subst a;clear ck cj d7 d9 da c1 al i f8 f9 fa fb;obtain⟨ga,ax,Q,I⟩:=cA dy (yoL 2 g t.s (yS T t.n S) t.e) 30;replace ax:Hid _:=ax;have h1:w.heap.size≤dy.heap.size:=bb.size;have h2:=bi.lt;have az:=bi.l I;have dc:=db.l I;have dd:=bo.l I;have c2:=aa bb I;clear bi db bo bb I
   go_upto_region 12 with fail
   rw[ax.out];clear ax;have fe:=az.c 2 rfl;have ff:=az.c 3 rfl;have fg:=az.c 4 rfl;have fi:=Q.c 0 rfl;have fj:=Q.c 2 rfl;have fk:=Q.c 3 rfl;have fn:=Q.c 4 rfl
   go_wp2_with fail
   refine(p.out _ _ _ _ _ dd dc).mono ?_;rintro b hk ⟨rfl,c4⟩;have e3:=aa c2 c4;clear az Q dc dd c2 c4 p fe ff fg fi fj fk fn
   go_wp2
   go_ret2
   exact⟨rfl,e3⟩
end Go.Proofs.YtlhkndcmbpcpgaaGreatDoor
