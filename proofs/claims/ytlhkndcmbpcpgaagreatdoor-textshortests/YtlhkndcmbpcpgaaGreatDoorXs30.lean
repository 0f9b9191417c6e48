/- Texts laid together. -/
import Derived.Test.YtlhkndcmbpcpgaaGreatDoorXs22
import Derived.Test.YtlhkndcmbpcpgaaGreatDoorXs24
import Derived.Test.YtlhkndcmbpcpgaaGreatDoorXs25
import Derived.Test.YtlhkndcmbpcpgaaGreatDoorXs26
set_option maxRecDepth 100000
set_option maxHeartbeats 6400000
namespace Go.Proofs.YtlhkndcmbpcpgaaGreatDoor
open _root_.Go.Proofs.Tryz
open Go.RowKit
theorem lR (n:Int)(w:World)(h:dK n=0):yC 35 #[yi n] w (tC w 0 6):=by
 have b:=jk n;rw[h] at b;have e:Hid _:=b;clear b h;have d:=ah w (yzL 0 0 0 0 false 0 0 0) 93;have i:=gn;have c:=af w (.cells (yzA 0 0 0 0 false 0 0 0) 93);have a:=run_loadVar_mid (P:=Tryz.prog) _ w.heap.size 0 93 (tS 0) _ d.range underlying93 rfl (by kernel_rfl);have f:Hid (_∧_):=⟨a,c⟩;clear a c d
 go_enter func35,ntmps35
 go_wp2_with fail
 refine(e.out _).mono ?_;rintro z w' ⟨rfl,rfl⟩
 go_wp2
 obtain⟨a,g⟩:=f.out;exact bodyPost_ret (aj results35 rfl rfl a) rfl ⟨rfl,g⟩
theorem afs (ng:Bool)(e f:Nat)(w:World)(h:f<18446744073709551616):yC 151 #[.agg #[yi 2,yi 24,yi (-149),yi 104,.bool true,yi 4,yi 8,yi 1,.func (.func 120) #[] #[]],yfV ng e f] w (yR w (yi ((dh 1 ng e f:Nat):Int))):=by
 unfold dh;rw[if_pos (by decide),show kp 1=255 from rfl]
 by_cases b:e=0
 ·subst b
  rw[if_pos rfl]
  by_cases g:f=0
  ·subst g
   exact zD _ _ _ _ _ _ _ _ ng _ 0 0 w _ rfl rfl
  ·rw[if_neg g]
   exact zD _ _ _ _ _ _ _ _ ng _ 0 f w _ rfl (if_neg (by omega))
 ·rw[if_neg b]
  by_cases d:e=255
  ·subst d
   rw[if_pos rfl]
   by_cases a:f=(if 1=3 then 2^63 else 0)
   ·rw[if_pos a]
    exact Ra _ _ _ _ _ _ _ 255 0 _ ng _ _ f w (jy 1 (by decide)) (gj 1 (by decide)) rfl (by rw[a];rfl) (by decide)
   ·rw[if_neg a]
    exact KP _ _ _ _ _ _ _ 255 0 _ ng _ _ f w (jy 1 (by decide)) (gj 1 (by decide)) rfl (fun c=>a (by rw[show(if 1=3 then 2^63 else 0)=0 from rfl];omega)) (by decide)
  ·rw[if_neg d]
   rw[if_neg (fun c=>by omega)]
   exact Rb _ _ _ _ _ _ _ 255 0 _ ng _ _ f w (jy 1 (by decide)) (gj 1 (by decide)) (by omega) (by omega) (NR f h)
theorem aft (ng:Bool)(e f:Nat)(w:World)(h:f<18446744073709551616):yC 151 #[.agg #[yi 2,yi 53,yi (-1074),yi 971,.bool true,yi 8,yi 11,yi 1,.func (.func 120) #[] #[]],yfV ng e f] w (yR w (yi ((dh 2 ng e f:Nat):Int))):=by
 unfold dh;rw[if_pos (by decide),show kp 2=2047 from rfl]
 by_cases b:e=0
 ·subst b
  rw[if_pos rfl]
  by_cases g:f=0
  ·subst g
   exact zD _ _ _ _ _ _ _ _ ng _ 0 0 w _ rfl rfl
  ·rw[if_neg g]
   exact zD _ _ _ _ _ _ _ _ ng _ 0 f w _ rfl (if_neg (by omega))
 ·rw[if_neg b]
  by_cases d:e=2047
  ·subst d
   rw[if_pos rfl]
   by_cases a:f=(if 2=3 then 2^63 else 0)
   ·rw[if_pos a]
    exact Ra _ _ _ _ _ _ _ 2047 0 _ ng _ _ f w (jy 2 (by decide)) (gj 2 (by decide)) rfl (by rw[a];rfl) (by decide)
   ·rw[if_neg a]
    exact KP _ _ _ _ _ _ _ 2047 0 _ ng _ _ f w (jy 2 (by decide)) (gj 2 (by decide)) rfl (fun c=>a (by rw[show(if 2=3 then 2^63 else 0)=0 from rfl];omega)) (by decide)
  ·rw[if_neg d]
   rw[if_neg (fun c=>by omega)]
   exact Rb _ _ _ _ _ _ _ 2047 0 _ ng _ _ f w (jy 2 (by decide)) (gj 2 (by decide)) (by omega) (by omega) (NR f h)
theorem afu (ng:Bool)(e f:Nat)(w:World)(j:f<18446744073709551616):yC 151 #[.agg #[yi 2,yi 64,yi (-16445),yi 16320,.bool true,yi 10,yi 15,yi 1,.func (.func 121) #[] #[]],yfV ng e f] w (yR w (yi ((dh 3 ng e f:Nat):Int))):=by
 unfold dh;rw[if_pos (by decide),show kp 3=32767 from rfl]
 by_cases g:e=0
 ·subst g
  rw[if_pos rfl]
  by_cases i:f=0
  ·subst i
   exact zD _ _ _ _ _ _ _ _ ng _ 0 0 w _ rfl rfl
  ·rw[if_neg i]
   exact zD _ _ _ _ _ _ _ _ ng _ 0 f w _ rfl (if_neg (by omega))
 ·rw[if_neg g]
  by_cases h:e=32767
  ·subst h
   rw[if_pos rfl]
   by_cases a:f=(if 3=3 then 2^63 else 0)
   ·rw[if_pos a]
    exact Ra _ _ _ _ _ _ _ 32767 9223372036854775808 _ ng _ _ f w (jy 3 (by decide)) (gj 3 (by decide)) rfl (by rw[a];rfl) (by decide)
   ·rw[if_neg a]
    exact KP _ _ _ _ _ _ _ 32767 9223372036854775808 _ ng _ _ f w (jy 3 (by decide)) (gj 3 (by decide)) rfl (fun c=>a (by rw[show(if 3=3 then 2^63 else 0)=9223372036854775808 from rfl];omega)) (by decide)
  ·rw[if_neg h]
   have d:=ab0 f j
   by_cases b:f<9223372036854775808
   ·rw[if_pos ⟨rfl,b⟩]
    rw[if_pos b] at d;exact adw _ _ _ _ _ _ _ 32767 9223372036854775808 _ ng _ _ f w (jy 3 (by decide)) (gj 3 (by decide)) (by omega) (by omega) d (by decide)
   ·rw[if_neg (fun c=>b c.2)]
    rw[if_neg b] at d;exact Rb _ _ _ _ _ _ _ 32767 9223372036854775808 _ ng _ _ f w (jy 3 (by decide)) (gj 3 (by decide)) (by omega) (by omega) d
theorem QL (k:Nat)(b:1≤k∧k≤8)(ng:Bool)(e f:Nat)(w:World)(i:f<18446744073709551616)(n:e<65536):yC 114 #[.agg (tS k).toArray,yfV ng e f] w (yR w (.tuple #[.int .u64 ((iI k e f:Nat):Int),yi (ii k e)])):=by
 have o: -100000≤lsI k∧lsI k≤100000:=by rcases bO b with rfl|rfl|rfl|rfl|rfl|rfl|rfl|rfl<;>decide
 have c:IntKind.i64.wrap (lsI k+(e:Int))=lsI k+(e:Int):=IntWalk.i64_in _ ⟨by omega,by omega⟩;have l:IntKind.i64.wrap (lsI k+(e:Int)-1)=lsI k+(e:Int)-1:=IntWalk.i64_in _ ⟨by omega,by omega⟩;have j:bits .or .u64 f (gW k:Int)=((f|||gW k:Nat):Int):=u64_or_nat f (gW k) i (by rcases bO b with rfl|rfl|rfl|rfl|rfl|rfl|rfl|rfl<;>decide)
 have d:=fun m=>xX k b m
 unfold iI ii
 by_cases a:rdN k=16
 ·rw[if_pos a,if_pos a]
  rcases bO b with rfl|rfl|rfl|rfl|rfl|rfl|rfl|rfl
  all_goals first|exact absurd a (by decide)|exact Vi _ _ _ _ _ _ _ ng _ e f w c
 ·rw[if_neg a,if_neg a]
  by_cases h:e=0
  ·subst h
   rw[if_pos rfl,if_pos rfl]
   rcases bO b with rfl|rfl|rfl|rfl|rfl|rfl|rfl|rfl
   all_goals first|exact absurd rfl a|exact Zc _ _ _ _ _ _ _ ng _ f w
  ·rw[if_neg h,if_neg h]
   have g:((e:Int)==0)=false:=by simp;omega
   rcases bO b with rfl|rfl|rfl|rfl|rfl|rfl|rfl|rfl
   all_goals first|exact absurd rfl a|exact Zd _ _ _ _ _ _ _ _ _ ng _ e f w g j c l d
theorem Qa (k c:Nat)(b:1≤k∧k≤8)(a:c=1∨c=3∨c=4∨c=5)(w:World):
  yC 75 #[.agg (tS k).toArray,yi c] w (yR w (.bool (Bk k c))):=by
 rcases bO b with rfl|rfl|rfl|rfl|rfl|rfl|rfl|rfl
 all_goals rcases a with rfl|rfl|rfl|rfl
 all_goals first
  |exact MQ _ _ _ _ _ _ _ _ _ _ _ _ true w rfl rfl rfl
  |exact MQ _ _ _ _ _ _ _ _ _ _ _ _ false w rfl rfl rfl
abbrev P9:=other_sign_mg.1
abbrev Uj:=other_sign_mg.2
abbrev aab:=value_c1_mg.1
abbrev aac:=value_c1_mg.2.1
abbrev aad:=value_c1_mg.2.2.1
abbrev aae:=value_c1_mg.2.2.2
theorem pU (k:Nat)(a:1≤k∧k≤8)(w:World):yC 35 #[yi k] w (tC w k 0):=by
 rcases bO a with rfl|rfl|rfl|rfl|rfl|rfl|rfl|rfl
 ·exact uU w
 ·exact uV w
 ·exact uW w
 ·exact uX w
 ·exact uY w
 ·exact uZ w
 ·exact vf w
 ·exact vh w
theorem codecRead_len_mg:
  (∀(n:Int) (R sz d:Nat) (D L G e:Int) (gr:Bool) (F:Nat) (s:ByteArray) (w:World) (_:s.size≠sz)
  (_:yJ 35 #[yi n] (.tuple #[ylV R D L G gr sz d e F,yi 0])),
  yC 67 #[yi n,.string s] w (yR w (.tuple #[yzV 0 0 0 0 false 0 0 0,yfV false 0 0,yi 1])))∧
  (∀(n:Int) (s:ByteArray) (w:World)
  (_:yJ 35 #[yi n] (.tuple #[yzV 0 0 0 0 false 0 0 0,yi 6])),
  yC 67 #[yi n,.string s] w (yR w (.tuple #[yzV 0 0 0 0 false 0 0 0,yfV false 0 0,yi 6]))):=by
 refine⟨?_, ?_⟩;have _z:Mgk 0:=mgkI 0
 all_goals
  first| (rename Mgk 0=>_z;intro n R sz d D L G e gr F s w E p)| (intro n s w p)
  have J:=cD;have K:=gn;have A:=af w (.cells (yzA 0 0 0 0 false 0 0 0) 93);have r:=af (w.alloc (.cells (yzA 0 0 0 0 false 0 0 0) 93)) (.cells (yfA false 0 0) 134);have v:=(ah w (yzL 0 0 0 0 false 0 0 0) 93).l r;have o:=ah (w.alloc (.cells (yzA 0 0 0 0 false 0 0 0) 93)) (yfL false 0 0) 134;have y:=aa A r;rw[World.size_alloc] at o;clear A r;have C:Hid _:=p;clear p
  go_enter func67,ntmps67
  go_wp2_with fail
  refine(C.out _).mono ?_;rintro z c ⟨rfl,h⟩
  first| (rename Mgk 0=>_z;have j:=af c (.cells (ylA R D L G gr sz d e F) 93))| (have j:=af c (.cells (yzA 0 0 0 0 false 0 0 0) 93))
  have b:=(v.l h).l j;have g:=(o.l h).l j
  first| (rename Mgk 0=>_z;have x:=ah c (ylL R D L G gr sz d e F) 93)| (have x:=ah c (yzL 0 0 0 0 false 0 0 0) 93)
  have q:=aa (aa y h) j;have H:w.heap.size≠c.heap.size:=Nat.ne_of_lt (v.l h).lt;have I:w.heap.size+1≠c.heap.size:=Nat.ne_of_lt (o.l h).lt;obtain⟨p0,p1,p2,p3,p4,p5,p6,p7,p8⟩:=x.cs9;obtain⟨x0,x1,x2,x3,x4,x5,x6,x7,x8⟩:=b.cs9;have N:=b.f 0;have O:=b.f 1;have Q:=b.f 2;have S:=b.f 3;have T:=b.f 4;have U:=b.f 5;have W:=b.f 6;have X:=b.f 7;have Y:=b.f 8;obtain⟨y0,y1,y2⟩:=g.cs3;have Z:=g.f 0;have a0:=g.f 1;have a1:=g.f 2
  first| (rename Mgk 0=>_z;(have M:((s.size:Int)==(sz:Int))=false:=by simp;omega);clear E)|skip
  have a:w.heap.size+1≠w.heap.size:=Nat.succ_ne_self _
  first| (rename Mgk 0=>_z;have t:au (((((((((((((c.alloc (.cells (ylA R D L G gr sz d e F) 93)).setCell ⟨w.heap.size,0,none⟩ (yi 0)).setCell ⟨w.heap.size,1,none⟩ (yi 0)).setCell ⟨w.heap.size,2,none⟩ (yi 0)).setCell ⟨w.heap.size,3,none⟩ (yi 0)).setCell ⟨w.heap.size,4,none⟩ (.bool false)).setCell ⟨w.heap.size,5,none⟩ (yi 0)).setCell ⟨w.heap.size,6,none⟩ (yi 0)).setCell ⟨w.heap.size,7,none⟩ (yi 0)).setCell ⟨w.heap.size,8,none⟩ (.nilFunc)).setCell ⟨w.heap.size+1,0,none⟩ (.bool false)).setCell ⟨w.heap.size+1,1,none⟩ (yi 0)).setCell ⟨w.heap.size+1,2,none⟩ (.int .u64 0)) w.heap.size 93 (yzL 0 0 0 0 false 0 0 0):=((((((((((((b.set 0 (yi 0)).set 1 (yi 0)).set 2 (yi 0)).set 3 (yi 0)).set 4 (.bool false)).set 5 (yi 0)).set 6 (yi 0)).set 7 (yi 0)).set 8 (.nilFunc)).off a 0 (.bool false)).off a 1 (yi 0)).off a 2 (.int .u64 0)))| (have t:au (((((((((((((c.alloc (.cells (yzA 0 0 0 0 false 0 0 0) 93)).setCell ⟨w.heap.size,0,none⟩ (yi 0)).setCell ⟨w.heap.size,1,none⟩ (yi 0)).setCell ⟨w.heap.size,2,none⟩ (yi 0)).setCell ⟨w.heap.size,3,none⟩ (yi 0)).setCell ⟨w.heap.size,4,none⟩ (.bool false)).setCell ⟨w.heap.size,5,none⟩ (yi 0)).setCell ⟨w.heap.size,6,none⟩ (yi 0)).setCell ⟨w.heap.size,7,none⟩ (yi 0)).setCell ⟨w.heap.size,8,none⟩ (.nilFunc)).setCell ⟨w.heap.size+1,0,none⟩ (.bool false)).setCell ⟨w.heap.size+1,1,none⟩ (yi 0)).setCell ⟨w.heap.size+1,2,none⟩ (.int .u64 0)) w.heap.size 93 (yzL 0 0 0 0 false 0 0 0):=((((((((((((b.set 0 (yi 0)).set 1 (yi 0)).set 2 (yi 0)).set 3 (yi 0)).set 4 (.bool false)).set 5 (yi 0)).set 6 (yi 0)).set 7 (yi 0)).set 8 (.nilFunc)).off a 0 (.bool false)).off a 1 (yi 0)).off a 2 (.int .u64 0)))
  first| (rename Mgk 0=>_z;have u:au (((((((((((((c.alloc (.cells (ylA R D L G gr sz d e F) 93)).setCell ⟨w.heap.size,0,none⟩ (yi 0)).setCell ⟨w.heap.size,1,none⟩ (yi 0)).setCell ⟨w.heap.size,2,none⟩ (yi 0)).setCell ⟨w.heap.size,3,none⟩ (yi 0)).setCell ⟨w.heap.size,4,none⟩ (.bool false)).setCell ⟨w.heap.size,5,none⟩ (yi 0)).setCell ⟨w.heap.size,6,none⟩ (yi 0)).setCell ⟨w.heap.size,7,none⟩ (yi 0)).setCell ⟨w.heap.size,8,none⟩ (.nilFunc)).setCell ⟨w.heap.size+1,0,none⟩ (.bool false)).setCell ⟨w.heap.size+1,1,none⟩ (yi 0)).setCell ⟨w.heap.size+1,2,none⟩ (.int .u64 0)) (w.heap.size+1) 134 (yfL false 0 0):=((((((((((((g.off (Ne.symm a) 0 (yi 0)).off (Ne.symm a) 1 (yi 0)).off (Ne.symm a) 2 (yi 0)).off (Ne.symm a) 3 (yi 0)).off (Ne.symm a) 4 (.bool false)).off (Ne.symm a) 5 (yi 0)).off (Ne.symm a) 6 (yi 0)).off (Ne.symm a) 7 (yi 0)).off (Ne.symm a) 8 (.nilFunc)).set 0 (.bool false)).set 1 (yi 0)).set 2 (.int .u64 0)))| (have u:au (((((((((((((c.alloc (.cells (yzA 0 0 0 0 false 0 0 0) 93)).setCell ⟨w.heap.size,0,none⟩ (yi 0)).setCell ⟨w.heap.size,1,none⟩ (yi 0)).setCell ⟨w.heap.size,2,none⟩ (yi 0)).setCell ⟨w.heap.size,3,none⟩ (yi 0)).setCell ⟨w.heap.size,4,none⟩ (.bool false)).setCell ⟨w.heap.size,5,none⟩ (yi 0)).setCell ⟨w.heap.size,6,none⟩ (yi 0)).setCell ⟨w.heap.size,7,none⟩ (yi 0)).setCell ⟨w.heap.size,8,none⟩ (.nilFunc)).setCell ⟨w.heap.size+1,0,none⟩ (.bool false)).setCell ⟨w.heap.size+1,1,none⟩ (yi 0)).setCell ⟨w.heap.size+1,2,none⟩ (.int .u64 0)) (w.heap.size+1) 134 (yfL false 0 0):=((((((((((((g.off (Ne.symm a) 0 (yi 0)).off (Ne.symm a) 1 (yi 0)).off (Ne.symm a) 2 (yi 0)).off (Ne.symm a) 3 (yi 0)).off (Ne.symm a) 4 (.bool false)).off (Ne.symm a) 5 (yi 0)).off (Ne.symm a) 6 (yi 0)).off (Ne.symm a) 7 (yi 0)).off (Ne.symm a) 8 (.nilFunc)).set 0 (.bool false)).set 1 (yi 0)).set 2 (.int .u64 0)))
  first| (rename Mgk 0=>_z;have i:=(((ag _ (w.heap.size+1) 0 (.bool false)).trans (ag _ (w.heap.size+1) 1 (yi 0))).trans (ag _ (w.heap.size+1) 2 (.int .u64 0))).below ((((((((((ag (c.alloc (.cells (ylA R D L G gr sz d e F) 93)) w.heap.size 0 (yi 0)).trans (ag _ w.heap.size 1 (yi 0))).trans (ag _ w.heap.size 2 (yi 0))).trans (ag _ w.heap.size 3 (yi 0))).trans (ag _ w.heap.size 4 (.bool false))).trans (ag _ w.heap.size 5 (yi 0))).trans (ag _ w.heap.size 6 (yi 0))).trans (ag _ w.heap.size 7 (yi 0))).trans (ag _ w.heap.size 8 (.nilFunc))).below q (Nat.le_refl _)) (Nat.le_succ _))| (have i:=(((ag _ (w.heap.size+1) 0 (.bool false)).trans (ag _ (w.heap.size+1) 1 (yi 0))).trans (ag _ (w.heap.size+1) 2 (.int .u64 0))).below ((((((((((ag (c.alloc (.cells (yzA 0 0 0 0 false 0 0 0) 93)) w.heap.size 0 (yi 0)).trans (ag _ w.heap.size 1 (yi 0))).trans (ag _ w.heap.size 2 (yi 0))).trans (ag _ w.heap.size 3 (yi 0))).trans (ag _ w.heap.size 4 (.bool false))).trans (ag _ w.heap.size 5 (yi 0))).trans (ag _ w.heap.size 6 (yi 0))).trans (ag _ w.heap.size 7 (yi 0))).trans (ag _ w.heap.size 8 (.nilFunc))).below q (Nat.le_refl _)) (Nat.le_succ _))
  have k:=run_loadVar_mid (P:=Tryz.prog) _ w.heap.size 0 93 (yzL 0 0 0 0 false 0 0 0) _ t.range underlying93 rfl (by kernel_rfl);have m:=run_loadVar_mid (P:=Tryz.prog) _ (w.heap.size+1) 0 134 (yfL false 0 0) _ u.range underlying134 rfl (by kernel_rfl);have B:Hid (_∧_∧_):=⟨k,m,i⟩;clear k m i t u b g x q v o y j h
  go_wp2
  obtain⟨k,m,i⟩:=B.out;exact bodyPost_ret (kg results67 rfl rfl rfl k m) rfl ⟨rfl,i⟩
def gJ (n:Int)(s:ByteArray):Nat:=if dF n s=0 then ge n.toNat (aZ n.toNat s) (aR n.toNat s) (aU n.toNat s) else 0
def iF (n:Int)(s:ByteArray):Int:=if dF n s=0 then gw n.toNat (aZ n.toNat s) (aR n.toNat s) (aU n.toNat s) else 0
theorem tShort_num (wd md:ByteArray)(dg:Bool)(b:Nat)(D F:Int)(PR:Nat→ByteArray)(h:Nat→Bool)(n c p:Int)(g:Bool)(M:Nat)(x:ak)(s:ByteArray)(w:World)
  (J: ∀a,yB w a→yC 9 #[yi n,.string s] a (Ys a c g M p x 0))
  (K: ∀C B a,yC 10 #[yvV c g (yT C M B) p] a (yR a (.tuple #[.string wd,.bool false])))
  (H: ∀C B a,yB w a→Rd a .u32 (yT C M B) (Dg.dg 4294967296 M)→yC 11 #[yi n,yvV c g (yT C M B) p] a (yR a (.tuple #[.string md,yi 0])))
  (G: ∀X W a,yB w a→Rd a .u32 (yT X x.n W) (Dg.dg 4294967296 x.n)→yC 12 #[yDV x X W] a (DcR a dg b D F))
  (I: ∀k:Nat,1≤k→k≤60→ ∀u t a,yB w a→Rd a .u32 (yT u b t) (Dg.dg 4294967296 b)→yC 14 #[.agg #[.bool dg,yT u b t,yi D,yi F],yi (k:Int)] a (yR a (.string (PR k))))
  (Y: ∀k:Nat,yH w 13 #[.string (PR k),yi n,.string md] (.bool (h k))):
  yC 4 #[yi n,.string s] w (yR w (.tuple #[.string (PR (shF h 59 1)),yi 0])):=by
 replace J:Hid _:=J;replace K:Hid _:=K;replace H:Hid _:=H;replace G:Hid _:=G;replace I:Hid _:=I;replace Y:Hid _:=Y;obtain⟨rr,E⟩: ∃r,PR (shF h 59 1)=r:=⟨_,rfl⟩;rw[E];replace E:Hid _:=E
 go_enter func4,ntmps4
 have b0:=Below.refl w.heap.size w
 go_wp2_with fail
 refine(J.out _ b0).mono ?_;rintro m a ⟨cj,cl,rfl,a8,a9,-,al⟩;have b7:=aa b0 al;obtain⟨C,B,b⟩:=a8.shape;subst b;obtain⟨X,W,b⟩:=a9.shape;subst b;clear b0 al J;obtain⟨ce,T,a6,aw,L⟩:=iG a (yvL c g (yT C M B) p) 39 (yDL x X W) 41;replace T:Hid _:=T;have cg:w.heap.size≤a.heap.size:=b7.size;have b5:=a8.l L;have b6:=a9.l L;have ac:=aa b7 L;clear a8 a9 b7 L
 go_upto_region 2 with fail
 rw[T.out];clear T;obtain⟨bm,bn,bo,bp⟩:=a6.cs4
 go_wp2_with fail
 refine(K.out _ _ _).mono ?_;rintro m cr ⟨rfl,z⟩;have az:=a6.l z;have b1:=aw.l z;have ba:=b5.l z;have bb:=b6.l z;have a3:=aa ac z;clear a6 aw b5 b6 ac z K bm bn bo bp;obtain⟨c1,c2,c3,c8⟩:=az.cs4
 go_wp2_with fail
 refine(H.out _ _ _ a3 ba).mono ?_;rintro m cw ⟨rfl,R⟩;have b2:=b1.l R;have bc:=bb.l R;have a4:=aa a3 R;clear az b1 ba bb a3 R H c1 c2 c3 c8;obtain⟨c9,ca,cb⟩:=b2.cs3
 go_wp2_with fail
 refine(G.out _ _ _ a4 bc).mono ?_;rintro m U ⟨ck,rfl,a7,ap⟩;have a5:=aa a4 ap;obtain⟨u,t,b⟩:=a7.shape;subst b;clear b2 bc a4 ap G c9 ca cb;obtain⟨ab,S,b3,Z⟩:=cA U [.bool dg,yT u b t,yi D,yi F] 49;replace S:Hid _:=S;have ch:w.heap.size≤U.heap.size:=a5.size;have bd:=a7.l Z;have ae:=aa a5 Z;clear a7 a5 Z
 go_wp2_with fail
 rw[S.out];clear S;have A:ShW w (U.heap.size) [.bool dg,yT u b t,yi D,yi F] (yT u b t) b ab:=⟨ae,b3,bd⟩;clear b3 bd ae;generalize U.heap.size=ad at A⊢;generalize ab=ws at A⊢
 go_loopw [13] (fun kv wr=> ∃k:Nat,1≤k∧k≤60∧kv=yi (k:Int)∧ShW w ad [.bool dg,yT u b t,yi D,yi F] (yT u b t) b wr∧Hid (shF h (60-k) k=shF h 59 1)) (fun kv _=>60-(intOf kv).toNat)
 case atStart=>exact⟨1,by omega,by omega,rfl,A,rfl⟩
 case round=>
  clear A;obtain⟨k,aq,ar,rfl,A,hF⟩:=hrel;obtain⟨i,v,y⟩:=A
  by_cases ci:k<60
  ·have o:=I.out k aq ar
   have d:=Y.out k;obtain⟨pk,j⟩: ∃q,PR k=q:=⟨_,rfl⟩;rw[j] at o d;have f:=o;replace j:Hid _:=j;replace o:Hid _:=o;replace f:Hid _:=f
   cases hm:h k
   case false=>
    rw[hm] at d;replace hm:Hid _:=hm;replace d:Hid _:=d;obtain⟨bh,bi,bj,bl⟩:=v.cs4
    go_wp2_with fail
    refine(o.out _ _ _ i y).mono ?_;rintro m cm ⟨rfl,N⟩;have av:=v.l N;have b4:=y.l N;have a0:=aa i N;clear v y i N o bh bi bj bl
    go_wp2_with fail
    refine(d.out _ a0).mono ?_;rintro m co ⟨rfl,O⟩;have cc:=av.l O;have cd:=b4.l O;have be:=aa a0 O;clear av b4 a0 O d
    go_wp2
    go_roundw
    case rel=>exact⟨k+1,by omega,by omega,by go_num,⟨be,cc,cd⟩,by have e:shF h ((60-(k+1))+1) k=shF h (60-(k+1)) (k+1):=if_neg (by rw[hm.out];decide);rw[show(60-(k+1))+1=60-k by omega,hF.out] at e;exact e.symm⟩
    case measure=>simp[intOf];omega
   case true=>
    rw[hm] at d;replace hm:Hid _:=hm;replace d:Hid _:=d;obtain⟨bq,bs,bt,bu⟩:=v.cs4
    go_wp2_with fail
    refine(o.out _ _ _ i y).mono ?_;rintro m cp ⟨rfl,P⟩;have ax:=v.l P;have b8:=y.l P;have a1:=aa i P;clear v y i P o bq bs bt bu
    go_wp2_with fail
    refine(d.out _ a1).mono ?_;rintro m cs ⟨rfl,Q⟩;have ay:=ax.l Q;have b9:=b8.l Q;have a2:=aa a1 Q;clear ax b8 a1 Q d;obtain⟨bv,bw,bx,c0⟩:=ay.cs4
    go_wp2_with fail
    refine(f.out _ _ _ a2 b9).mono ?_;rintro m ct ⟨rfl,an⟩;have bf:=aa a2 an;clear ay b9 a2 an f bv bw bx c0
    go_wp2
    go_ret2
    have e:shF h (60-k) k=k:=by rw[show 60-k=(60-(k+1))+1 by omega];unfold shF;rw[if_pos hm.out]
    rw[←E.out,←hF.out,e,j.out];exact⟨rfl,bf⟩
  ·obtain rfl:k=60:=by omega
   have f:=I.out 60 aq ar;obtain⟨pk,j⟩: ∃q,PR 60=q:=⟨_,rfl⟩;rw[j] at f;replace j:Hid _:=j;replace f:Hid _:=f;obtain⟨c4,c5,c6,c7⟩:=v.cs4
   go_wp2_with fail
   refine(f.out _ _ _ i y).mono ?_;rintro m cv ⟨rfl,ao⟩;have bg:=aa i ao;clear v y i ao f c4 c5 c6 c7
   go_wp2
   go_ret2
   rw[←E.out,←hF.out,show shF h (60-60) 60=60 from rfl,j.out]
   exact⟨rfl,bg⟩
abbrev tread_dig_e:=tread_dig_e_mg.1
abbrev tread_pt_e:=tread_dig_e_mg.2
theorem aej (n o p q R D L G e:Int)(gr M ng:Bool)(w:World)(s:yJ 15 #[yi n] (.tuple #[yhV o p q R D L G gr e,.bool M])):
  yC 103 #[yi n,.bool ng] w (yR w (yoV 1 (ng&&decide (e=1)) false yN 0)):=by
 replace s:Hid _:=s
 cases ng
 ·rw[Bool.false_and]
  have u:=af w (.cells (yoA 0 false false yN 0) 30);have r:=ah w (yoL 0 false false yN 0) 30
  go_enter func103,ntmps103
  go_wp2_with fail
  refine(s.out _).mono ?_;rintro z d ⟨rfl,g⟩;have j:=af d (.cells (yhA o p q R D L G gr e) 56);have m:=ah d (yhL o p q R D L G gr e) 56;have a:=(r.l g).l j;have k:=aa (aa u g) j;have A:w.heap.size≠d.heap.size:=Nat.ne_of_lt (r.l g).lt;clear u r g j s
  go_upto_region 2 with fail
  generalize d.alloc (.cells (yhA o p q R D L G gr e) 56)=t at m a k⊢;generalize d.heap.size=C at m A⊢;have N:=m.c 8 rfl;have x:au (((((t.setCell ⟨w.heap.size,0,none⟩ (yi 1)).setCell ⟨w.heap.size,1,none⟩ (.bool false)).setCell ⟨w.heap.size,2,none⟩ (.bool false)).setCell ⟨w.heap.size,3,none⟩ yN).setCell ⟨w.heap.size,4,none⟩ (yi 0)) (w.heap.size) 30 (yoL 1 false false yN 0):=(((((a.set 0 (yi 1)).set 1 (.bool false)).set 2 (.bool false)).set 3 yN).set 4 (yi 0));have v:=((((ag t (w.heap.size) 0 (yi 1)).trans (ag _ (w.heap.size) 1 (.bool false))).trans (ag _ (w.heap.size) 2 (.bool false))).trans (ag _ (w.heap.size) 3 yN)).trans (ag _ (w.heap.size) 4 (yi 0));have h:=v.below k (by omega);have i:=run_loadVar_mid (P:=Tryz.prog) _ (w.heap.size) 0 30 (yoL 1 false false yN 0) _ x.range underlying30 rfl (by kernel_rfl);have y:Hid (_∧_):=⟨i,h⟩;obtain⟨O,Q,S,T,U⟩:=a.cs5;have E:=a.f 0;have F:=a.f 1;have H:=a.f 2;have I:=a.f 3;have J:=a.f 4;clear i h v x;clear a k
  go_wp2
  obtain⟨i,h⟩:=y.out;exact bodyPost_ret (br results103 rfl i) rfl ⟨rfl,h⟩
 ·rw[Bool.true_and]
  obtain⟨b,K⟩: ∃b,(e==1)=b:=⟨_,rfl⟩;have B:decide (e=1)=b:=by rw[←K];rfl
  rw[B];clear B;have u:=af w (.cells (yoA 0 false false yN 0) 30);have r:=ah w (yoL 0 false false yN 0) 30
  go_enter func103,ntmps103
  go_wp2_with fail
  refine(s.out _).mono ?_;rintro z d ⟨rfl,g⟩;have j:=af d (.cells (yhA o p q R D L G gr e) 56);have m:=ah d (yhL o p q R D L G gr e) 56;have a:=(r.l g).l j;have k:=aa (aa u g) j;have A:w.heap.size≠d.heap.size:=Nat.ne_of_lt (r.l g).lt;clear u r g j s
  go_upto_region 2 with fail
  generalize d.alloc (.cells (yhA o p q R D L G gr e) 56)=t at m a k⊢;generalize d.heap.size=C at m A⊢;have N:=m.c 8 rfl;have x:au (((((t.setCell ⟨w.heap.size,0,none⟩ (yi 1)).setCell ⟨w.heap.size,1,none⟩ (.bool b)).setCell ⟨w.heap.size,2,none⟩ (.bool false)).setCell ⟨w.heap.size,3,none⟩ yN).setCell ⟨w.heap.size,4,none⟩ (yi 0)) (w.heap.size) 30 (yoL 1 b false yN 0):=(((((a.set 0 (yi 1)).set 1 (.bool b)).set 2 (.bool false)).set 3 yN).set 4 (yi 0));have v:=((((ag t (w.heap.size) 0 (yi 1)).trans (ag _ (w.heap.size) 1 (.bool b))).trans (ag _ (w.heap.size) 2 (.bool false))).trans (ag _ (w.heap.size) 3 yN)).trans (ag _ (w.heap.size) 4 (yi 0));have h:=v.below k (by omega);have i:=run_loadVar_mid (P:=Tryz.prog) _ (w.heap.size) 0 30 (yoL 1 b false yN 0) _ x.range underlying30 rfl (by kernel_rfl);have y:Hid (_∧_):=⟨i,h⟩;obtain⟨O,Q,S,T,U⟩:=a.cs5;have E:=a.f 0;have F:=a.f 1;have H:=a.f 2;have I:=a.f 3;have J:=a.f 4;clear i h v x;clear a k
  go_wp2
  obtain⟨i,h⟩:=y.out;exact bodyPost_ret (br results103 rfl i) rfl ⟨rfl,h⟩
theorem refPl_zf_mg:
  (∀(b:Bool) (n h i j R D L G k f u:Int) (gr t a:Bool) (e:Option Addr) (d:Nat) (w:World) (_:yJ 15 #[yi n] (.tuple #[yhV h i j R D L G gr k,.bool t]))
  (_:yJ 103 #[yi n,.bool a] (yoV 1 b false yN 0)),
  yC 60 #[yi n,ypV a (.slice e 0 d) f false false false,yi u] w (RVG w 1 b ⟨false,0,0⟩ 1))∧
  (∀(b:Bool) (n h i j R D L G k f u:Int) (gr t a:Bool) (e:Option Addr) (d:Nat) (w:World) (_:yJ 15 #[yi n] (.tuple #[yhV h i j R D L G gr k,.bool t]))
  (_:yJ 103 #[yi n,.bool a] (yoV 1 b false yN 0)),
  yC 60 #[yi n,ypV a (.slice e 0 d) f true false false,yi u] w (RVG w 1 b ⟨false,0,0⟩ 0)):=by
 refine⟨?_, ?_⟩;have _z:Mgk 0:=mgkI 0
 all_goals
  intro b n h i j R D L G k f u gr t a e d w o p;replace o:Hid _:=o;replace p:Hid _:=p
  first| (rename Mgk 0=>_z;obtain⟨N,m,A,B,x⟩:=iG w (ypL a (.slice e 0 d) f false false false) 123 (yoL 0 false false yN 0) 30)| (obtain⟨N,m,A,B,x⟩:=iG w (ypL a (.slice e 0 d) f true false false) 123 (yoL 0 false false yN 0) 30)
  replace m:Hid _:=m
  go_enter func60,ntmps60
  go_upto_region 1 with fail
  rw[m.out];clear m
  go_wp2_with fail
  refine(o.out _).mono ?_;rintro Z K ⟨rfl,r⟩;have J:=A.l r;have E:=B.l r;have v:=aa x r;clear A B x r o;obtain⟨a0,s,Y,q⟩:=cA K (yhL h i j R D L G gr k) 56;replace s:Hid _:=s;have a1:w.heap.size≤K.heap.size:=v.size;have a2:=E.lt;have g:=J.l q;have I:=E.l q;have F:=aa v q;clear J E v q Y
  go_upto_region 2 with fail
  rw[s.out];clear s;have Q:=g.c 0 rfl;have S:=g.c 1 rfl;have T:=g.c 3 rfl;have U:=g.c 4 rfl;have W:=g.c 5 rfl
  go_wp2_with fail
  refine(p.out _).mono ?_;rintro Z a3 ⟨rfl,y⟩;have C:=I.l y;have H:=aa F y;clear g I F y p Q S T U W;have z:=dL (P:=Tryz.prog) C H (by omega) underlying30 rfl (by kernel_rfl) (yi 1) (.bool b) (.bool false) yN (yi 0);have M:Hid (_∧_):=⟨z.1,z.2.1⟩;obtain⟨⟨z0,z1,z2,z3,z4⟩,y0,y1,y2,y3,y4⟩:=dN C;clear z C H
  go_wp2
  obtain⟨X,O⟩:=M.out;exact bodyPost_ret (aj results60 rfl rfl X) rfl ⟨_,rfl,aN _ _,jt _ _ _,O⟩
theorem refPl_zuf_mg:
  (∀(b:Bool) (n h i j R D L G f t:Int) (gr s a:Bool) (e:Option Addr) (d:Nat) (w:World) (_:yJ 15 #[yi n] (.tuple #[yhV h i j R D L G gr 1,.bool s]))
  (_:yJ 103 #[yi n,.bool a] (yoV 1 b false yN 0)),
  yC 60 #[yi n,ypV a (.slice e 0 d) f false false true,yi t] w (RVG w 1 b ⟨false,0,0⟩ 3))∧
  (∀(b:Bool) (n h i j R D L G f t:Int) (gr s a:Bool) (e:Option Addr) (d:Nat) (w:World) (_:yJ 15 #[yi n] (.tuple #[yhV h i j R D L G gr 1,.bool s]))
  (_:yJ 103 #[yi n,.bool a] (yoV 1 b false yN 0)),
  yC 60 #[yi n,ypV a (.slice e 0 d) f true false true,yi t] w (RVG w 1 b ⟨false,0,0⟩ 0)):=by
 refine⟨?_, ?_⟩;have _z:Mgk 0:=mgkI 0
 all_goals
  intro b n h i j R D L G f t gr s a e d w m o;replace m:Hid _:=m;replace o:Hid _:=o
  first| (rename Mgk 0=>_z;obtain⟨N,k,z,A,v⟩:=iG w (ypL a (.slice e 0 d) f false false true) 123 (yoL 0 false false yN 0) 30)| (obtain⟨N,k,z,A,v⟩:=iG w (ypL a (.slice e 0 d) f true false true) 123 (yoL 0 false false yN 0) 30)
  replace k:Hid _:=k
  go_enter func60,ntmps60
  go_upto_region 1 with fail
  rw[k.out];clear k
  go_wp2_with fail
  refine(m.out _).mono ?_;rintro Z K ⟨rfl,q⟩;have J:=z.l q;have C:=A.l q;have u:=aa v q;clear z A v q m;obtain⟨a0,r,H,p⟩:=cA K (yhL h i j R D L G gr 1) 56;replace r:Hid _:=r;have a1:w.heap.size≤K.heap.size:=u.size;have a2:=C.lt;have g:=J.l p;have I:=C.l p;have E:=aa u p;clear J C u p
  go_upto_region 2 with fail
  rw[r.out];clear r;have Q:=g.c 0 rfl;have S:=g.c 1 rfl;have T:=g.c 3 rfl;have U:=g.c 4 rfl;have W:=g.c 5 rfl;have X:=H.c 8 rfl
  go_wp2_with fail
  refine(o.out _).mono ?_;rintro Z a3 ⟨rfl,x⟩;have B:=I.l x;have F:=aa E x;clear g I H E x o Q S T U W X;have y:=dL (P:=Tryz.prog) B F (by omega) underlying30 rfl (by kernel_rfl) (yi 1) (.bool b) (.bool false) yN (yi 0);have M:Hid (_∧_):=⟨y.1,y.2.1⟩;obtain⟨⟨z0,z1,z2,z3,z4⟩,y0,y1,y2,y3,y4⟩:=dN B;clear y B F
  go_wp2
  obtain⟨Y,O⟩:=M.out;exact bodyPost_ret (aj results60 rfl rfl Y) rfl ⟨_,rfl,aN _ _,jt _ _ _,O⟩
theorem LX (n:Int)(c p:Int)(ng:Bool)(a:Option Addr)(f e:Nat)(w:World)
  (g:yJ 35 #[yi n] (.tuple #[yzV 0 0 0 0 false 0 0 0,yi 6])):
  yC 11 #[yi n,yvV c ng (.slice a f e) p] w (yR w (.tuple #[.string ⟨#[]⟩,yi 6])):=by
 have r:=cD;have s:=gn;have j:=ah w (yvL c ng (.slice a f e) p) 39;have i:=af w (.cells (yvA c ng (.slice a f e) p) 39);have h:Hid _:=g;clear g
 go_enter func11,ntmps11
 go_wp2_with fail
 refine(h.out _).mono ?_;rintro z k ⟨rfl,b⟩;have d:=af k (.cells (yzA 0 0 0 0 false 0 0 0) 93);have o:=(j.l b).l d;have q:=ah k (yzL 0 0 0 0 false 0 0 0) 93;have m:=aa (aa i b) d;obtain⟨E,F,G,H⟩:=o.cs4;obtain⟨t,u,v,x,y,A,B,C,D⟩:=q.cs9;clear j i b d h
 go_wp2
 go_ret2
 exact⟨rfl,m⟩
theorem aaS (n:Int)(R D L G h:Int)(gr:Bool)(sz g:Nat)(F:Nat)(c p:Int)(ng:Bool)(a:Option Addr)(f e:Nat)(w:World)
  (i:yJ 35 #[yi n] (.tuple #[ylV R D L G gr sz g h F,yi 0])) (t:c<1):
  yC 11 #[yi n,yvV c ng (.slice a f e) p] w (yR w (.tuple #[.string ⟨#[]⟩,yi 6])):=by
 have u:=cD;have v:=gn;have m:=ah w (yvL c ng (.slice a f e) p) 39;have k:=af w (.cells (yvA c ng (.slice a f e) p) 39);have j:Hid _:=i;clear i
 go_enter func11,ntmps11
 go_wp2_with fail
 refine(j.out _).mono ?_;rintro z o ⟨rfl,b⟩;have d:=af o (.cells (ylA R D L G gr sz g h F) 93);have r:=(m.l b).l d;have s:=ah o (ylL R D L G gr sz g h F) 93;have q:=aa (aa k b) d;obtain⟨K,M,N,O⟩:=r.cs4;obtain⟨x,y,A,B,C,E,H,I,J⟩:=s.cs9;clear m k b d j
 go_wp2
 go_ret2
 exact⟨rfl,q⟩
theorem adn (n b R D L G:Int)(gr ng:Bool)(w:World)
  (g:yJ 179 #[yi 3] (yi 5)):
  yC 149 #[ykV n b 3 R D L G gr,.bool ng] w (iT w 5 false 0 0):=by
 replace g:Hid _:=g;have m:=af w (.cells (ykA n b 3 R D L G gr) 175);have h:=af (w.alloc (.cells (ykA n b 3 R D L G gr) 175)) (.cells (yvA 0 false yN 0) 39);have k:=(ah w (ykL n b 3 R D L G gr) 175).l h;have e:=ah (w.alloc (.cells (ykA n b 3 R D L G gr) 175)) (yvL 0 false yN 0) 39;rw[World.size_alloc] at e;have i:=aa m h;clear m h
 go_enter func149,ntmps149
 go_upto_block 0 with fail
 generalize(w.alloc (.cells (ykA n b 3 R D L G gr) 175)).alloc (.cells (yvA 0 false yN 0) 39)=W0 at k e i⊢;obtain⟨t,u,v,x,y,A,B,C⟩:=k.cs8
 go_wp2_with fail
 refine(g.out _).mono ?_;rintro z r ⟨rfl,j⟩;have a:=e.l j;have o:=aa i j;clear t u v x y A B C k e i j;have q:au ((((r.setCell ⟨w.heap.size+1,0,none⟩ (yi 5)).setCell ⟨w.heap.size+1,1,none⟩ (.bool false)).setCell ⟨w.heap.size+1,2,none⟩ yN).setCell ⟨w.heap.size+1,3,none⟩ (yi 0)) (w.heap.size+1) 39 (yvL 5 false yN 0):=((((a.set 0 (yi 5)).set 1 (.bool false)).set 2 yN).set 3 (yi 0));have p:=(((ag r (w.heap.size+1) 0 (yi 5)).trans (ag _ (w.heap.size+1) 1 (.bool false))).trans (ag _ (w.heap.size+1) 2 yN)).trans (ag _ (w.heap.size+1) 3 (yi 0));have c:=p.below o (by omega);have d:=run_loadVar_mid (P:=Tryz.prog) _ (w.heap.size+1) 0 39 (yvL 5 false yN 0) _ q.range underlying39 rfl (by kernel_rfl);have s:Hid (_∧_):=⟨d,c⟩;obtain⟨J,K,M,N⟩:=a.cs4;have E:=a.f 0;have F:=a.f 1;have H:=a.f 2;have I:=a.f 3;clear d c p q;clear a o
 go_wp2
 obtain⟨d,c⟩:=s.out;exact bodyPost_ret (br results149 rfl d) rfl ⟨_,rfl,aN _ _,c⟩
theorem abM (n b R D L G:Int)(gr ng:Bool)(w:World)
  (g:yJ 180 #[ykV n b 1 R D L G gr,.bool ng] (.bool true)):
  yC 149 #[ykV n b 1 R D L G gr,.bool ng] w (iT w 3 ng 0 0):=by
 replace g:Hid _:=g;have m:=af w (.cells (ykA n b 1 R D L G gr) 175);have h:=af (w.alloc (.cells (ykA n b 1 R D L G gr) 175)) (.cells (yvA 0 false yN 0) 39);have k:=(ah w (ykL n b 1 R D L G gr) 175).l h;have e:=ah (w.alloc (.cells (ykA n b 1 R D L G gr) 175)) (yvL 0 false yN 0) 39;rw[World.size_alloc] at e;have i:=aa m h;clear m h
 go_enter func149,ntmps149
 go_upto_block 0 with fail
 generalize(w.alloc (.cells (ykA n b 1 R D L G gr) 175)).alloc (.cells (yvA 0 false yN 0) 39)=W0 at k e i⊢;obtain⟨t,u,v,x,y,A,B,C⟩:=k.cs8
 go_wp2_with fail
 refine(g.out _).mono ?_;rintro z r ⟨rfl,j⟩;have a:=e.l j;have o:=aa i j;clear t u v x y A B C k e i j;have q:au ((((r.setCell ⟨w.heap.size+1,0,none⟩ (yi 3)).setCell ⟨w.heap.size+1,1,none⟩ (.bool ng)).setCell ⟨w.heap.size+1,2,none⟩ yN).setCell ⟨w.heap.size+1,3,none⟩ (yi 0)) (w.heap.size+1) 39 (yvL 3 ng yN 0):=((((a.set 0 (yi 3)).set 1 (.bool ng)).set 2 yN).set 3 (yi 0));have p:=(((ag r (w.heap.size+1) 0 (yi 3)).trans (ag _ (w.heap.size+1) 1 (.bool ng))).trans (ag _ (w.heap.size+1) 2 yN)).trans (ag _ (w.heap.size+1) 3 (yi 0));have c:=p.below o (by omega);have d:=run_loadVar_mid (P:=Tryz.prog) _ (w.heap.size+1) 0 39 (yvL 3 ng yN 0) _ q.range underlying39 rfl (by kernel_rfl);have s:Hid (_∧_):=⟨d,c⟩;obtain⟨J,K,M,N⟩:=a.cs4;have E:=a.f 0;have F:=a.f 1;have H:=a.f 2;have I:=a.f 3;clear d c p q;clear a o
 go_wp2
 obtain⟨d,c⟩:=s.out;exact bodyPost_ret (br results149 rfl d) rfl ⟨_,rfl,aN _ _,c⟩
theorem abN (n b R D L G:Int)(gr ng:Bool)(m:Nat)(w:World)
  (r:yJ 180 #[ykV n b 1 R D L G gr,.bool ng] (.bool false))
  (q: ∀p,yB w p→yC 181 #[ykV n b 1 R D L G gr,.bool ng] p (iT p 2 ng m G)):
  yC 149 #[ykV n b 1 R D L G gr,.bool ng] w (iT w 2 ng m G):=by
 replace r:Hid _:=r;replace q:Hid _:=q;have K:=af w (.cells (ykA n b 1 R D L G gr) 175);have s:=af (w.alloc (.cells (ykA n b 1 R D L G gr) 175)) (.cells (yvA 0 false yN 0) 39);have h:=(ah w (ykL n b 1 R D L G gr) 175).l s;have o:=ah (w.alloc (.cells (ykA n b 1 R D L G gr) 175)) (yvL 0 false yN 0) 39;rw[World.size_alloc] at o;have t:=aa K s;clear K s
 go_enter func149,ntmps149
 go_upto_block 0 with fail
 generalize(w.alloc (.cells (ykA n b 1 R D L G gr) 175)).alloc (.cells (yvA 0 false yN 0) 39)=W0 at h o t⊢;obtain⟨A,B,C,E,F,H,I,J⟩:=h.cs8
 go_wp2_with fail
 refine(r.out _).mono ?_;rintro z p ⟨rfl,e⟩;have O:=h.l e;have Q:=o.l e;have v:=aa t e;clear A B C E F H I J h o t e;obtain⟨A,B,C,E,F,H,I,J⟩:=O.cs8
 go_wp2_with fail
 refine(q.out _ v).mono ?_;rintro z S ⟨u,rfl,j,x⟩;obtain⟨d,c,U⟩:=j.shape;subst U;have a:=Q.l x;have M:=aa v x;clear A B C E F H I J O Q v x;have N:au ((((S.setCell ⟨w.heap.size+1,0,none⟩ (yi 2)).setCell ⟨w.heap.size+1,1,none⟩ (.bool ng)).setCell ⟨w.heap.size+1,2,none⟩ (yT d m c)).setCell ⟨w.heap.size+1,3,none⟩ (yi G)) (w.heap.size+1) 39 (yvL 2 ng (yT d m c) G):=((((a.set 0 (yi 2)).set 1 (.bool ng)).set 2 (yT d m c)).set 3 (yi G));have y:=(((ag S (w.heap.size+1) 0 (yi 2)).trans (ag _ (w.heap.size+1) 1 (.bool ng))).trans (ag _ (w.heap.size+1) 2 (yT d m c))).trans (ag _ (w.heap.size+1) 3 (yi G));have g:=y.below M (by omega);have k:=y.rd j (aX j a (by simp));have i:=run_loadVar_mid (P:=Tryz.prog) _ (w.heap.size+1) 0 39 (yvL 2 ng (yT d m c) G) _ N.range underlying39 rfl (by kernel_rfl);have T:Hid (_∧_∧_):=⟨i,k,g⟩;obtain⟨z0,z1,z2,z3⟩:=a.cs4;have W:=a.f 0;have X:=a.f 1;have Y:=a.f 2;have Z:=a.f 3;clear i g y N k;clear a M j
 go_wp2
 obtain⟨i,k,g⟩:=T.out;exact bodyPost_ret (br results149 rfl i) rfl ⟨_,rfl,k,g⟩
theorem ado (n b R D L G:Int)(gr ng:Bool)(m:Nat)(w:World)
  (o: ∀t,yB w t→yC 181 #[ykV n b 2 R D L G gr,.bool ng] t (iT t 2 ng m G)):
  yC 149 #[ykV n b 2 R D L G gr,.bool ng] w (iT w 2 ng m G):=by
 replace o:Hid _:=o;have v:=af w (.cells (ykA n b 2 R D L G gr) 175);have p:=af (w.alloc (.cells (ykA n b 2 R D L G gr) 175)) (.cells (yvA 0 false yN 0) 39);have s:=(ah w (ykL n b 2 R D L G gr) 175).l p;have k:=ah (w.alloc (.cells (ykA n b 2 R D L G gr) 175)) (yvL 0 false yN 0) 39;rw[World.size_alloc] at k;have e:=aa v p;clear v p
 go_enter func149,ntmps149
 go_upto_block 0 with fail
 generalize(w.alloc (.cells (ykA n b 2 R D L G gr) 175)).alloc (.cells (yvA 0 false yN 0) 39)=W0 at s k e⊢;obtain⟨E,F,H,I,J,K,M,N⟩:=s.cs8
 go_wp2_with fail
 refine(o.out _ e).mono ?_;rintro z A ⟨u,rfl,i,q⟩;obtain⟨d,c,C⟩:=i.shape;subst C;have a:=k.l q;have x:=aa e q;clear E F H I J K M N s k e q;have y:au ((((A.setCell ⟨w.heap.size+1,0,none⟩ (yi 2)).setCell ⟨w.heap.size+1,1,none⟩ (.bool ng)).setCell ⟨w.heap.size+1,2,none⟩ (yT d m c)).setCell ⟨w.heap.size+1,3,none⟩ (yi G)) (w.heap.size+1) 39 (yvL 2 ng (yT d m c) G):=((((a.set 0 (yi 2)).set 1 (.bool ng)).set 2 (yT d m c)).set 3 (yi G));have r:=(((ag A (w.heap.size+1) 0 (yi 2)).trans (ag _ (w.heap.size+1) 1 (.bool ng))).trans (ag _ (w.heap.size+1) 2 (yT d m c))).trans (ag _ (w.heap.size+1) 3 (yi G));have g:=r.below x (by omega);have j:=r.rd i (aX i a (by simp));have h:=run_loadVar_mid (P:=Tryz.prog) _ (w.heap.size+1) 0 39 (yvL 2 ng (yT d m c) G) _ y.range underlying39 rfl (by kernel_rfl);have B:Hid (_∧_∧_):=⟨h,j,g⟩;obtain⟨U,W,X,Y⟩:=a.cs4;have O:=a.f 0;have Q:=a.f 1;have S:=a.f 2;have T:=a.f 3;clear h g r y j;clear a x i
 go_wp2
 obtain⟨h,j,g⟩:=B.out;exact bodyPost_ret (br results149 rfl h) rfl ⟨_,rfl,j,g⟩
theorem Ba (k:Nat)(j:1≤k∧k≤8)(f:Int)(ng:Bool)(w:World):yC 181 #[dsk k f,.bool ng] w (iT w 2 ng (rdN k^dgN k-1) (gsI k)):=by
 have d:(rdN k=2∨rdN k=16)∧dgN k≤64:=by rcases bO j with rfl|rfl|rfl|rfl|rfl|rfl|rfl|rfl<;>decide
 have i:Dg.dg 4294967296 (rdN k)=[rdN k]:=by rcases d.1 with h|h<;>rw[h]<;>rfl
 have l:1≤rdN k^dgN k:=Nat.pow_pos (by omega);have p:(Dg.dg 4294967296 (rdN k^dgN k)).length≤64:=by
  have g:rdN k^dgN k<2^ (4*dgN k+1):=by
   have:rdN k^dgN k≤16^dgN k:=Nat.pow_le_pow_left (by omega) _;have e:(16:Nat)^dgN k=2^ (4*dgN k):=by rw[Nat.pow_mul]
   rw[Nat.pow_succ];have:=bG (4*dgN k);omega
  exact jq g (by omega)
 have r:(Dg.dg 4294967296 (rdN k^dgN k)).length≠0:=fun h=>by
  have:=(Dg.dg_nil_iff 4294967296 (rdN k^dgN k) (by omega)).1 (List.length_eq_zero_iff.1 h);omega
 refine QM k f (dK k) (rdN k) (dgN k) (lsI k) (gsI k) (decide (k≤3)) ng (rdN k) (rdN k^dgN k) w ?_ (fun q b _ a=> ?_) (fun o n q b m a=> ?_)
 ·rcases d.1 with h|h<;>rw[h]<;>rfl
 ·have c:=aa0 a
  rw[←i] at c;exact Iq _ (rdN k) (dgN k) 1 b c (by omega) (by omega) (by omega) (by omega)
 ·have:=zL (.slice o (Dg.dg 4294967296 (rdN k^dgN k)).length n) (.slice (some ⟨q,0,none⟩) 1 1) (Dg.dg 4294967296 (rdN k^dgN k)) [1] b m (xD a) (Dg.small_dg _ _ (by omega)) (Dg.small_cons.2 ⟨by omega,Dg.small_nil _ (by omega)⟩) (by omega) (by simp;omega) (by rw[Dg.vl_dg _ _ (by omega),show Dg.vl 4294967296 [1]=1 from rfl];exact l)
  rwa [Dg.vl_dg _ _ (by omega),show Dg.vl 4294967296 [1]=1 from rfl] at this
theorem refGreatest_any (k:Nat)(b:1≤k∧k≤8)(ng:Bool)(w:World):yC 101 #[yi k,.bool ng] w (RVg w 2 ng (gtT k ng)):=by
 obtain⟨-,-,p,-,-,-,v,r,o,z,y,s⟩:=eR b;have t:(ai (rdN k):Int)*gsI k≤16384∧ -16384≤(ai (rdN k):Int)*gsI k:=by
  rcases bO b with rfl|rfl|rfl|rfl|rfl|rfl|rfl|rfl<;>decide
 have e: ∀{x:Nat},x≤2^ (ai (rdN k)*dgN k)→(Dg.dg 65536 x).length≤10:=fun {x} n=>by
  refine Dg.dg_len_le 65536 _ _ (by omega) (Nat.lt_of_le_of_lt n ?_);refine Nat.lt_of_le_of_lt (Nat.pow_le_pow_right (by omega) o) (by decide)
 unfold gtT;rw[rd_pow b];refine aaB k _ _ _ (rdN k) (dgN k) (lsI k) (gsI k) _ (ai (rdN k):Int) ((ai (rdN k)*dgN k:Nat):Int) ((ai (rdN k):Int)*gsI k) _ _ ng (2^ (ai (rdN k)*dgN k)) _ w ?_ ?_ (fun a=>form_any k b a) (fun a=>refW_any k b _ _ _ _ a) (fun a=>vJ _ (by omega) a) (fun g f q a d l=> ?_) (fun g f a d=> ?_)
 ·rw[←Int.natCast_mul]
  exact IntWalk.i64_in _ ⟨by omega,by omega⟩
 ·exact IntWalk.i64_in _ ⟨by omega,by omega⟩
 ·have j:1≤2^ (ai (rdN k)*dgN k):=bG _
  have m:Rd a .i64 (.slice (some ⟨q,0,none⟩) 1 1) [1]:=⟨_,1,rfl,Nat.le_refl _,by unfold maxLen;omega,fun _=>⟨q,0,rfl,fun i h=>by
   obtain rfl:i=0:=by simpa using h
   exact l⟩⟩
  have u:(Dg.dg 65536 (2^ (ai (rdN k)*dgN k))).length≠0:=fun c=>by
   have:=(Dg.dg_nil_iff 65536 _ (by omega)).1 (List.length_eq_zero_iff.1 c);omega
  have:=kI (.slice g (Dg.dg 65536 (2^ (ai (rdN k)*dgN k))).length f) (.slice (some ⟨q,0,none⟩) 1 1) _ [1] a d m (Dg.small_dg _ _ (by omega)) (Dg.small_cons.2 ⟨by omega,Dg.small_nil _ (by omega)⟩) (by have:=e (Nat.le_refl (2^ (ai (rdN k)*dgN k)));omega) (by simp;omega) (by rw[Dg.vl_dg _ _ (by omega),show Dg.vl 65536 [1]=1 from rfl];exact j)
  rwa [Dg.vl_dg _ _ (by omega),show Dg.vl 65536 [1]=1 from rfl] at this
 ·exact lA _ ⟨ng,2^ (ai (rdN k)*dgN k)-1,(ai (rdN k):Int)*gsI k⟩ a ⟨_,rfl,d⟩ (by have:=e (Nat.sub_le (2^ (ai (rdN k)*dgN k)) 1);simp only;omega) (by simp only;omega) (by simp only;omega)
structure Rnd (k:Nat) (P:fz):Prop where
 plc:Plc k P
 nil0:P.d=0→P.p=0
 spot:P.ov=false→ ¬(P.un=true∧P.p<lsI k)→P.d≠0→ia (rdN k) (dgN k) (lsI k) (gsI k) (decide (k≤3)) P.d P.p
theorem rnd_of {k:Nat}(v:1≤k∧k≤8)(s:Bool)(N M:Nat)(E way:Int)(g:N≠0)(f:M≠0):Rnd k (cI (rdN k) (dgN k) (lsI k) (gsI k) (decide (k≤3)) s N M E way):=by
 obtain⟨-,-,U,-,l1,l0,w,X,Q,-,ww,hg⟩:=eR v;have e:(1:Int)≤(dgN k:Int):=by omega
 have m:=fam_one v;have p:=nW (R:=(rdN k:Int)) (D:=(dgN k:Int)) (L:=lsI k) (G:=gsI k) (gr:=decide (k≤3)) (qs:=s) (N:=N) (M:=M) (E:=E) (way:=way) e w g f;rw[kJ _ s N M E way e w g f] at p⊢;have a1:=rP (rdN k) (dgN k) (lsI k) (decide (k≤3)) N M E e g f;have O:=Vf (rdN k) (dgN k) (lsI k) (decide (k≤3)) N M E e g f;have H:=uh (rdN k) (dgN k) (lsI k) (decide (k≤3)) N M E e g f (dj (rdN k) (dgN k) (lsI k) (decide (k≤3)) N M E);have I:=CD (rdN k) (dgN k) (fM (rdN k) (dgN k) (lsI k) (decide (k≤3)) s N M E way);have a0:=KL (rdN k) (dgN k) (lsI k) (decide (k≤3)) s N M E way;have Z:fM (rdN k) (dgN k) (lsI k) (decide (k≤3)) s N M E way≤cH (rdN k) (dgN k) (lsI k) (decide (k≤3)) N M E+1:=by
  unfold fM
  split<;>omega
 have F:gF (rdN k) (dgN k) (lsI k) (decide (k≤3)) N M E=0→fM (rdN k) (dgN k) (lsI k) (decide (k≤3)) s N M E way=cH (rdN k) (dgN k) (lsI k) (decide (k≤3)) N M E:=fun h=>by
  unfold fM;rw[if_neg (fun c=>of_decide_eq_false c.1 h)]
 have hcut:(k≤3→lsI k≤dj (rdN k) (dgN k) (lsI k) (decide (k≤3)) N M E)∧(¬k≤3→dj (rdN k) (dgN k) (lsI k) (decide (k≤3)) N M E=aT (rdN k) (dgN k) (dY N M E)):=by
  unfold dj;refine⟨fun h=> ?_,fun h=> ?_⟩
  ·rw[decide_eq_true h,Bool.and_true]
   split
   ·exact Int.le_refl _
   ·rename_i c
    simpa using c
  ·rw[decide_eq_false h,Bool.and_false,if_neg (by decide)]
 have B:gD (rdN k) (dgN k) (fM (rdN k) (dgN k) (lsI k) (decide (k≤3)) s N M E way) (dj (rdN k) (dgN k) (lsI k) (decide (k≤3)) N M E)=dj (rdN k) (dgN k) (lsI k) (decide (k≤3)) N M E∨(gD (rdN k) (dgN k) (fM (rdN k) (dgN k) (lsI k) (decide (k≤3)) s N M E way) (dj (rdN k) (dgN k) (lsI k) (decide (k≤3)) N M E)=dj (rdN k) (dgN k) (lsI k) (decide (k≤3)) N M E+1∧io (rdN k) (dgN k) (fM (rdN k) (dgN k) (lsI k) (decide (k≤3)) s N M E way)=2^ (ai (rdN k)*((dgN k:Int)-1).toNat)):=by
  unfold gD io
  split
  ·exact .inr ⟨rfl,rfl⟩
  ·exact .inl rfl
 have K:2^ (ai (rdN k)*((dgN k:Int)-1).toNat)<2^ (ai (rdN k)*(dgN k:Int).toNat):=by
  refine Nat.pow_lt_pow_right (by omega) (Nat.mul_lt_mul_of_pos_left ?_ (by omega));omega
 have t:io (rdN k) (dgN k) (fM (rdN k) (dgN k) (lsI k) (decide (k≤3)) s N M E way)<2^ (ai (rdN k)*(dgN k:Int).toNat):=by
  unfold io
  split
  ·exact K
  ·omega
 have J:(Dg.dg 65536 (io (rdN k) (dgN k) (fM (rdN k) (dgN k) (lsI k) (decide (k≤3)) s N M E way))).length≤100000:=by
  refine Nat.le_trans (Dg.dg_len_le 65536 _ 4 (by omega) (Nat.lt_of_lt_of_le t ?_)) (by omega);rw[Int.toNat_natCast];exact Nat.le_trans (Nat.pow_le_pow_right (by omega) Q) (by decide)
 generalize fM (rdN k) (dgN k) (lsI k) (decide (k≤3)) s N M E way=dg at*;generalize dj (rdN k) (dgN k) (lsI k) (decide (k≤3)) N M E=y at*;generalize aT (rdN k) (dgN k) (dY N M E)=P at*;generalize cH (rdN k) (dgN k) (lsI k) (decide (k≤3)) N M E=wh at*;generalize gF (rdN k) (dgN k) (lsI k) (decide (k≤3)) N M E=lf at*;generalize C:gD (rdN k) (dgN k) dg y=q at*;generalize Y:io (rdN k) (dgN k) dg=x at*;have o: ¬k≤3→x≠0:=fun h c=>by
  have:=O (hcut.2 h);have:=I.1 c;omega
 refine⟨⟨fun l i=> ?_,fun l b j u=> ?_,fun b d=> ?_,J,fun b=> ?_⟩,fun d=>if_pos d,fun b n d=> ?_⟩
 ·simp only at i
  have a:=m.1 l;have:=hcut.1 a
  exfalso
  split at i<;>omega
 ·simp only at b j u⊢
  have a: ¬k≤3:=fun c=>l (m.2 c)
  have z:=F (of_decide_eq_true u);have r:=hcut.2 a;have W:=of_decide_eq_true j;rw[if_neg (o a)];rw[z,H.2] at C;omega
 ·exact m.2 (Decidable.byContradiction fun a=>o a d)
 ·simp only at b⊢
  have A:=of_decide_eq_false b
  by_cases a:k≤3
  ·have:=hcut.1 a
   right
   split<;>omega
  ·rw[if_neg (o a)]
   have r:=hcut.2 a
   by_cases i:q<lsI k
   ·left
    exact⟨decide_eq_true (by omega),i⟩
   ·right
    omega
 ·simp only at b n d⊢
  rw[if_neg d] at n⊢
  by_cases a:k≤3
  ·have:=p b (.inr (decide_eq_true a))
   rw[if_neg d] at this;exact this
  ·by_cases j:P<lsI k
   ·have r:=hcut.2 a
    have i: ¬q<lsI k:=fun c=>n ⟨decide_eq_true j,c⟩
    have A:=of_decide_eq_false b;obtain⟨S,T⟩:=B.resolve_left (by omega);exact .inr ⟨d,by omega,by omega,t,.inl (by omega)⟩
   ·have:=p b (.inl (decide_eq_false j))
    rw[if_neg d] at this;exact this
def mvV (c:Int)(g:Bool)(fm:Int):Int×Bool×Int:=if c=1 then(1,g&&decide (fm=1),0) else if c≠5∧fm=1 then(c,g,0) else(AZ fm,false,16)
theorem printOf_num (S R:ByteArray)(p:Int)(c k:Int)(g:Bool)(x:ak)(b:Option Addr)(a:Nat)(w:World)(C:Rd w .i64 (yS b x.n a) (Dg.dg 65536 x.n))
  (j: ∀b a d,yC 24 #[yoV c g x.s (yS b x.n a) x.e] d (yR d (.string ⟨#[]⟩)))
  (h: ∀b a d,yB w d→Rd d .i64 (yS b x.n a) (Dg.dg 65536 x.n)→yC 55 #[ydV x.s (yS b x.n a) x.e,yi k] d (yR d (.tuple #[.string S,yi p])))
  (i:yH w 56 #[.bool g,.string S,yi p] (.string R)):
  yC 26 #[yoV c g x.s (yS b x.n a) x.e,yi k] w (yR w (.string R)):=by
 replace j:Hid _:=j;replace h:Hid _:=h;replace i:Hid _:=i;obtain⟨O,o,v,r⟩:=cA w (yoL c g x.s (yS b x.n a) x.e) 30;replace o:Hid _:=o;have B:=C.l r;clear C
 go_enter func26,ntmps26
 go_upto_region 1 with fail
 rw[o.out];clear o;obtain⟨K,L,M,N,F⟩:=v.cs5
 go_wp2_with fail
 refine(j.out _ _ _).mono ?_;rintro D P ⟨rfl,m⟩;have f:=v.l m;have A:=B.l m;have q:=aa r m;clear v B r m j K L M N F;have G:=f.c 2 rfl;have H:=f.c 3 rfl;have I:=f.c 4 rfl
 go_wp2_with fail
 refine(h.out _ _ _ q A).mono ?_;rintro D Q ⟨rfl,u⟩;have z:=f.l u;have t:=aa q u;clear f A q u h G H I;have J:=z.c 1 rfl
 go_wp2_with fail
 refine(i.out _ t).mono ?_;rintro D T ⟨rfl,y⟩;have E:=aa t y;clear z t y i J
 go_wp2
 go_ret
 exact⟨rfl,E⟩
theorem intText_any (p:Int)(w:World)(k: -60000≤p)(l:p≤60000):yC 97 #[yi p] w (yR w (.string ⟨(Lib.itoa p).toArray⟩)):=by
 have f: ∀(d:Nat) a,d≤60000→yC 99 #[yi d] a (cG a d):=fun d a i=>Bj d a (by omega)
 have g: ∀(d:Nat) c b a,d≤60000→Rd a .i64 (yS c d b) (Dg.dg 65536 d)→yC 96 #[yS c d b] a (yR a (.string (oW d))):=fun d c b a i h=>Kc _ d 100 a h (Nat.le_trans (Dg.dg_len_le 65536 d 1 (by omega) (by omega)) (by omega)) (by omega)
 have j: ∀d,d≤60000→(oW d).size≤100:=fun d i=>Nat.le_trans (decS_le (show d<10^5 by omega) (by omega)) (by omega)
 unfold Lib.itoa
 by_cases h:p<0
 ·rw[if_pos h]
  have:=intText_neg p (p.natAbs:Int) p.natAbs (oW p.natAbs) w (j _ (by omega)) h (by rw[IntWalk.i64_in _ ⟨by omega,by omega⟩];omega) (fun a _=>f _ a (by omega)) (fun c b a _ r=>g _ c b a (by omega) r)
  rw[show((⟨(45::Lib.decDigits p.natAbs).toArray⟩:ByteArray))=(⟨#[45]⟩:ByteArray)++oW p.natAbs by rw[decS_list];apply ByteArray.ext;simp]
  exact this
 ·rw[if_neg h,←decS_list]
  have e:((p.toNat:Nat):Int)=p:=by omega
  have:=intText_pos p p.toNat (oW p.toNat) w h (fun a _=>by have:=f p.toNat a (by omega);rwa [e] at this) (fun c b a _ r=>g _ c b a (by omega) r)
  exact this
end Go.Proofs.YtlhkndcmbpcpgaaGreatDoor
