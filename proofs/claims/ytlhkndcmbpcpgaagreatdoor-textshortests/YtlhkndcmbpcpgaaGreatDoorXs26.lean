/- Texts laid together. -/
import Derived.Test.YtlhkndcmbpcpgaaGreatDoorXs17
import Derived.Test.YtlhkndcmbpcpgaaGreatDoorXs20
import Derived.Test.YtlhkndcmbpcpgaaGreatDoorXs21
set_option maxRecDepth 100000
set_option maxHeartbeats 12800000
namespace Go.Proofs.YtlhkndcmbpcpgaaGreatDoor
open _root_.Go.Proofs.Tryz
open Go.RowKit
theorem iJ (v:Value)(t:ak)(w:World)(d:Rv w v t)(a:(Dg.dg 65536 t.n).length≤100000)(b: -1000000≤t.e)(c:t.e≤1000000):
  yC 20 #[v] w (dr w (bare t)):=
 (lA v t w d a b c).mono fun _ _ h=>h.near
set_option maxRecDepth 20000 in
theorem jG (w:World):yC 70 #[] w (yR w (.agg Ar.toArray)):=by
 have c:au (w.alloc (.cells Tryz.zeroCells142 142)) w.heap.size 142 Tryz.zeroCells142.toList:=by
  have:=ah w Tryz.zeroCells142.toList 142
  rwa [Array.toArray_toList] at this
 have g:=c.there 81 (by kernel_rfl);have e:=c.sets Ar (by kernel_rfl);have d:=de w.heap.size Ar 0 (w.alloc (.cells Tryz.zeroCells142 142));have a:=d.below (af w (.cells Tryz.zeroCells142 142)) (Nat.le_refl _);have b:=run_loadVar_mid (P:=Tryz.prog) _ w.heap.size 0 142 Ar _ e.range underlying142 rfl (by kernel_rfl);have f:Hid (_∧_):=⟨b,a⟩;clear b a e d c
 go_enter func70,ntmps70
 go_wp2_with (refine wpList_store_mid rfl 142 (.tmp 0) (.tmp 28) rfl w.heap.size 0 #[yi 0,yi 0,yi 0,yi 0,.bool false,yi 0,yi 0,yi 0,.nilFunc,yi 2,yi 24,yi (-149),yi 104,.bool true,yi 4,yi 8,yi 1,.func (.func 120) #[] #[],yi 2,yi 53,yi (-1074),yi 971,.bool true,yi 8,yi 11,yi 1,.func (.func 120) #[] #[],yi 2,yi 64,yi (-16445),yi 16320,.bool true,yi 10,yi 15,yi 1,.func (.func 121) #[] #[],yi 16,yi 6,yi (-70),yi 57,.bool false,yi 4,yi 7,yi 2,.func (.func 120) #[] #[],yi 16,yi 14,yi (-78),yi 49,.bool false,yi 8,yi 7,yi 2,.func (.func 120) #[] #[],yi 2,yi 24,yi (-151),yi 103,.bool false,yi 4,yi 8,yi 3,.func (.func 122) #[] #[],yi 2,yi 56,yi (-183),yi 71,.bool false,yi 8,yi 8,yi 3,.func (.func 122) #[] #[],yi 2,yi 53,yi (-1076),yi 970,.bool false,yi 8,yi 11,yi 3,.func (.func 122) #[] #[]] rfl rfl g (by kernel_rfl) (by simp[Value.oneCell']) ?_)
 change bodyPost _ _ _ _ _ (World.setCells (w.alloc (.cells Tryz.zeroCells142 142)) w.heap.size 0 Ar);obtain⟨b,a⟩:=f.out;generalize World.setCells (w.alloc (.cells Tryz.zeroCells142 142)) w.heap.size 0 Ar=W at b a⊢;exact bodyPost_ret (v:= .agg Ar.toArray) (br results70 rfl b) rfl ⟨rfl,a⟩
theorem kC (k R D L G sz b d c:Int)(gr:Bool)(F:Nat)(A:Value)(w:World)(H:(c==0)=false)
  (g: ∀e,yC 64 #[yi k] e fun z w'=>z= .returned (yi c)∧w'=e)
  (h: ∀e,yC 70 #[] e fun z w'=>z= .returned A∧yB e w')
  (I: ∀W:World,(Instr.index 142 A (yi k)).run Tryz.prog W= .ok (ylV R D L G gr sz b d F) W):
  yC 35 #[yi k] w (yR w (.tuple #[ylV R D L G gr sz b d F,yi 0])):=by
 replace g:Hid _:=g;replace h:Hid _:=h;have J:=cD;have p:=ah w (yzL 0 0 0 0 false 0 0 0) 93;have n:=af w (.cells (yzA 0 0 0 0 false 0 0 0) 93)
 go_enter func35,ntmps35
 go_wp2_with fail
 refine(g.out _).mono ?_;rintro z w' ⟨rfl,rfl⟩
 go_wp2_with fail
 refine(h.out _).mono ?_;rintro z q ⟨rfl,m⟩;have a:=p.l m;have o:au (((((((((q.setCell ⟨w.heap.size,0,none⟩ (yi R)).setCell ⟨w.heap.size,1,none⟩ (yi D)).setCell ⟨w.heap.size,2,none⟩ (yi L)).setCell ⟨w.heap.size,3,none⟩ (yi G)).setCell ⟨w.heap.size,4,none⟩ (.bool gr)).setCell ⟨w.heap.size,5,none⟩ (yi sz)).setCell ⟨w.heap.size,6,none⟩ (yi b)).setCell ⟨w.heap.size,7,none⟩ (yi d)).setCell ⟨w.heap.size,8,none⟩ (.func (.func F) #[] #[])) w.heap.size 93 (ylL R D L G gr sz b d F):=(((((((((a.set 0 (yi R)).set 1 (yi D)).set 2 (yi L)).set 3 (yi G)).set 4 (.bool gr)).set 5 (yi sz)).set 6 (yi b)).set 7 (yi d)).set 8 (.func (.func F) #[] #[]));have i:=(((((((((ag q w.heap.size 0 (yi R)).trans (ag _ w.heap.size 1 (yi D))).trans (ag _ w.heap.size 2 (yi L))).trans (ag _ w.heap.size 3 (yi G))).trans (ag _ w.heap.size 4 (.bool gr))).trans (ag _ w.heap.size 5 (yi sz))).trans (ag _ w.heap.size 6 (yi b))).trans (ag _ w.heap.size 7 (yi d))).trans (ag _ w.heap.size 8 (.func (.func F) #[] #[]))).below (aa n m) (Nat.le_refl _);have j:=run_loadVar_mid (P:=Tryz.prog) _ w.heap.size 0 93 (ylL R D L G gr sz b d F) _ o.range underlying93 rfl (by kernel_rfl);have r:Hid (_∧_):=⟨j,i⟩;have s:=a.f 0;have t:=a.f 1;have u:=a.f 2;have v:=a.f 3;have x:=a.f 4;have y:=a.f 5;have B:=a.f 6;have C:=a.f 7;have E:=a.f 8;obtain⟨K,M,N,O,Q,S,T,U,X⟩:=a.cs9;clear j i o p a n m g h
 go_wp2
 obtain⟨j,i⟩:=r.out;exact bodyPost_ret (aj results35 rfl rfl j) rfl ⟨rfl,i⟩
theorem uU (w:World):yC 35 #[yi 1] w (tC w 1 0):=
 kC 1 _ _ _ _ _ _ _ 1 _ _ _ w rfl (jk 1) jG (fun W=>by kernel_rfl)
theorem uV (w:World):yC 35 #[yi 2] w (tC w 2 0):=
 kC 2 _ _ _ _ _ _ _ 1 _ _ _ w rfl (jk 2) jG (fun W=>by kernel_rfl)
theorem uW (w:World):yC 35 #[yi 3] w (tC w 3 0):=
 kC 3 _ _ _ _ _ _ _ 1 _ _ _ w rfl (jk 3) jG (fun W=>by kernel_rfl)
theorem uX (w:World):yC 35 #[yi 4] w (tC w 4 0):=
 kC 4 _ _ _ _ _ _ _ 2 _ _ _ w rfl (jk 4) jG (fun W=>by kernel_rfl)
theorem uY (w:World):yC 35 #[yi 5] w (tC w 5 0):=
 kC 5 _ _ _ _ _ _ _ 2 _ _ _ w rfl (jk 5) jG (fun W=>by kernel_rfl)
theorem uZ (w:World):yC 35 #[yi 6] w (tC w 6 0):=
 kC 6 _ _ _ _ _ _ _ 3 _ _ _ w rfl (jk 6) jG (fun W=>by kernel_rfl)
theorem vf (w:World):yC 35 #[yi 7] w (tC w 7 0):=
 kC 7 _ _ _ _ _ _ _ 3 _ _ _ w rfl (jk 7) jG (fun W=>by kernel_rfl)
theorem vh (w:World):yC 35 #[yi 8] w (tC w 8 0):=
 kC 8 _ _ _ _ _ _ _ 3 _ _ _ w rfl (jk 8) jG (fun W=>by kernel_rfl)
theorem zD (R D L G g sz d:Int)(gr ng:Bool)(F:Nat)(e f:Int)(w:World)(c:Int)(m:e=0)(n:(if f=0 then 1 else 2)=c):yC 151 #[ylV R D L G gr sz d g F,yfV ng e f] w (yR w (yi c)):=by
 have q:=cD;have r:=(ah w (ylL R D L G gr sz d g F) 93).l (af _ (.cells (yfA ng e f) 134));have o:=ah (w.alloc (.cells (ylA R D L G gr sz d g F) 93)) (yfL ng e f) 134;have k:=aa (af w (.cells (ylA R D L G gr sz d g F) 93)) (af _ (.cells (yfA ng e f) 134));rw[World.size_alloc] at o;subst m n;have i:=fun b=>Aj b
 by_cases h:f=0
 ·subst h
  have j:Hid (∀a,yC 152 #[.bool true] a fun z w'=>z= .returned (yi 1)∧w'=a):=i true
  clear i
  go_enter func151,ntmps151
  go_wp2_with fail
  refine(j.out _).mono ?_;rintro z a ⟨rfl,rfl⟩
  go_wp2
  go_ret
  exact⟨rfl,k⟩
 ·have p:(f==0)=false:=by simpa using h
  have j:Hid (∀a,yC 152 #[.bool false] a fun z w'=>z= .returned (yi 2)∧w'=a):=i false
  rw[if_neg h];clear i h
  go_enter func151,ntmps151
  go_wp2_with fail
  refine(j.out _).mono ?_;rintro z a ⟨rfl,rfl⟩
  go_wp2
  go_ret
  exact⟨rfl,k⟩
abbrev adw:=ci_mis_mg.1
abbrev Rb:=ci_mis_mg.2
theorem ab0 (f:Nat)(h:f<18446744073709551616):bits .and .u64 f 9223372036854775808=if f<9223372036854775808 then 0 else 9223372036854775808:=by
 have b:=u64_and_nat f 9223372036854775808 h (by omega);rw[show 9223372036854775808=((9223372036854775808:Nat):Int) from rfl,b]
 have a:=SK f 63;rw[Nat.testBit_eq_decide_div_mod_eq,show(2:Nat)^63=9223372036854775808 from rfl] at a
 rw[a]
 by_cases c:f<9223372036854775808
 ·rw[if_pos c,show f/9223372036854775808=0 from by omega]
  rfl
 ·rw[if_neg c,show f/9223372036854775808=1 from by omega]
  rfl
theorem Zb (R D L G sz c:Int)(gr ng:Bool)(F e f:Nat)(w:World):yC 113 #[ylV R D L G gr sz c 3 F,yfV ng e f] w (yR w (yi (((if e=0 then(if ng then 5 else 1) else 2:Nat):Nat):Int))):=by
 have k:=cD;have m:=(ah w (ylL R D L G gr sz c 3 F) 93).l (af _ (.cells (yfA ng e f) 134));have i:=ah (w.alloc (.cells (ylA R D L G gr sz c 3 F) 93)) (yfL ng e f) 134;have d:=aa (af w (.cells (ylA R D L G gr sz c 3 F) 93)) (af _ (.cells (yfA ng e f) 134));rw[World.size_alloc] at i;have g:Hid (∀b a,yC 152 #[.bool b] a fun z w'=>z= .returned (yi (if b then 1 else 2))∧w'=a):=fun b a=>Aj b a
 by_cases h:e=0
 ·subst h
  rw[if_pos rfl]
  cases ng
  ·go_enter func113,ntmps113
   go_wp2_with fail
   refine(g.out true _).mono ?_;rintro z a ⟨rfl,rfl⟩
   go_wp2
   go_ret
   exact⟨rfl,d⟩
  ·go_enter func113,ntmps113
   go_wp2
   go_ret
   exact⟨rfl,d⟩
 ·have j:((e:Int)==0)=false:=by simp;omega
  rw[if_neg h];clear h
  cases ng
  all_goals
   go_enter func113,ntmps113
   go_wp2_with fail
   refine(g.out false _).mono ?_;rintro z a ⟨rfl,rfl⟩
   go_wp2
   go_ret
   exact⟨rfl,d⟩
theorem Vi (D L G sz a b:Int)(gr ng:Bool)(F e f:Nat)(w:World)(c:IntKind.i64.wrap (L+(e:Int))=L+(e:Int)):yC 114 #[ylV 16 D L G gr sz a b F,yfV ng e f] w (yR w (.tuple #[.int .u64 f,yi (L+(e:Int))])):=by
 have h:=cD;have i:=(ah w (ylL 16 D L G gr sz a b F) 93).l (af _ (.cells (yfA ng e f) 134));have g:=ah (w.alloc (.cells (ylA 16 D L G gr sz a b F) 93)) (yfL ng e f) 134;have d:=aa (af w (.cells (ylA 16 D L G gr sz a b F) 93)) (af _ (.cells (yfA ng e f) 134));rw[World.size_alloc] at g
 go_enter func114,ntmps114
 go_wp2
 go_quiet (fail)
 go_wp2
 go_ret2
 exact⟨by first|rfl| (rw[c];rfl)|simp[c,Act.put],aL d _⟩
theorem Zc (D L G sz a b:Int)(gr ng:Bool)(F f:Nat)(w:World):yC 114 #[ylV 2 D L G gr sz a b F,yfV ng 0 f] w (yR w (.tuple #[.int .u64 f,yi L])):=by
 have e:=cD;have g:=(ah w (ylL 2 D L G gr sz a b F) 93).l (af _ (.cells (yfA ng 0 f) 134));have d:=ah (w.alloc (.cells (ylA 2 D L G gr sz a b F) 93)) (yfL ng 0 f) 134;have c:=aa (af w (.cells (ylA 2 D L G gr sz a b F) 93)) (af _ (.cells (yfA ng 0 f) 134));rw[World.size_alloc] at d
 go_enter func114,ntmps114
 go_wp2
 go_quiet (fail)
 go_wp2
 go_ret2
 exact⟨rfl,aL c _⟩
theorem MQ (R D L G a:Int)(gr:Bool)(sz f:Nat)(F:Nat)(c:Int)(d b e:Bool)(w:World)(i:(c==3)=d)(h:(c==1)=b)(j:(a != 3)=e):yC 75 #[ylV R D L G gr sz f a F,yi c] w (yR w (.bool (d||b&&e))):=by
 have k:=cD;have g:=af w (.cells (ylA R D L G gr sz f a F) 93)
 cases d<;>cases b<;>cases e
 all_goals go_enter func75,ntmps75
 all_goals go_wp2
 all_goals go_ret
 all_goals exact⟨rfl,g⟩
theorem P8 (R D L G b:Int)(gr:Bool)(sz a:Nat)(F:Nat)(c p:Int)(ng:Bool)(f:Option Addr)(i h:Nat)(n:Bool)(k m:Nat)(w:World)
  (o:yJ 74 #[ylV R D L G gr sz a b F,yi c] (.tuple #[yfV n k m,.bool false])):
  yC 38 #[ylV R D L G gr sz a b F,yvV c ng (.slice f i h) p] w (yR w (.tuple #[.string ⟨#[]⟩,yi 5])):=by
 have A:=cD;have g:=af (w.alloc (.cells (ylA R D L G gr sz a b F) 93)) (.cells (yvA c ng (.slice f i h) p) 39);have s:=(ah w (ylL R D L G gr sz a b F) 93).l g;have j:=ah (w.alloc (.cells (ylA R D L G gr sz a b F) 93)) (yvL c ng (.slice f i h) p) 39;have r:=aa (af w (.cells (ylA R D L G gr sz a b F) 93)) g;rw[World.size_alloc] at j;have q:Hid _:=o;clear o g
 go_enter func38,ntmps38
 go_wp2_with fail
 refine(q.out _).mono ?_;rintro z t ⟨rfl,d⟩;have e:=af t (.cells (yfA n k m) 134);have v:=(s.l d).l e;have x:=(j.l d).l e;have y:=ah t (yfL n k m) 134;have u:=aa (aa r d) e;obtain⟨M,N,O,P,Q,S,T,U,W⟩:=v.cs9;obtain⟨H,I,J,K⟩:=x.cs4;obtain⟨B,C,E⟩:=y.cs3;clear s j r d e q
 go_wp2
 go_ret2
 exact⟨rfl,u⟩
theorem Kt (R D L G b:Int)(gr:Bool)(sz a:Nat)(F:Nat)(c p:Int)(ng:Bool)(g:Option Addr)(d i:Nat)(n:Bool)(k m:Nat)(w:World)
  (o:yJ 74 #[ylV R D L G gr sz a b F,yi c] (.tuple #[yfV n k m,.bool true])) (A:0<d):
  yC 38 #[ylV R D L G gr sz a b F,yvV c ng (.slice g d i) p] w (yR w (.tuple #[.string ⟨#[]⟩,yi 4])):=by
 have B:(0:Int)< (d:Int):=by omega
 have C:=cD;have h:=af (w.alloc (.cells (ylA R D L G gr sz a b F) 93)) (.cells (yvA c ng (.slice g d i) p) 39);have s:=(ah w (ylL R D L G gr sz a b F) 93).l h;have j:=ah (w.alloc (.cells (ylA R D L G gr sz a b F) 93)) (yvL c ng (.slice g d i) p) 39;have r:=aa (af w (.cells (ylA R D L G gr sz a b F) 93)) h;rw[World.size_alloc] at j;have q:Hid _:=o;clear o h
 go_enter func38,ntmps38
 go_wp2_with fail
 refine(q.out _).mono ?_;rintro z t ⟨rfl,e⟩;have f:=af t (.cells (yfA n k m) 134);have v:=(s.l e).l f;have x:=(j.l e).l f;have y:=ah t (yfL n k m) 134;have u:=aa (aa r e) f;obtain⟨O,P,Q,S,T,U,W,X,Y⟩:=v.cs9;obtain⟨J,K,M,N⟩:=x.cs4;obtain⟨E,H,I⟩:=y.cs3;clear s j r e f q
 go_wp2
 go_ret2
 exact⟨rfl,u⟩
theorem MI (R D L G b:Int)(gr:Bool)(sz a:Nat)(F:Nat)(c p:Int)(ng:Bool)(f:Option Addr)(r h:Nat)(m:Bool)(j k:Nat)(w:World)
  (n:yJ 74 #[ylV R D L G gr sz a b F,yi c] (.tuple #[yfV m j k,.bool true])) (v:r=0) (x:p≠0):
  yC 38 #[ylV R D L G gr sz a b F,yvV c ng (.slice f r h) p] w (yR w (.tuple #[.string ⟨#[]⟩,yi 4])):=by
 subst v;have C:(p==0)=false:=by simpa using x
 have E:=cD;have g:=af (w.alloc (.cells (ylA R D L G gr sz a b F) 93)) (.cells (yvA c ng (.slice f 0 h) p) 39);have s:=(ah w (ylL R D L G gr sz a b F) 93).l g;have i:=ah (w.alloc (.cells (ylA R D L G gr sz a b F) 93)) (yvL c ng (.slice f 0 h) p) 39;have q:=aa (af w (.cells (ylA R D L G gr sz a b F) 93)) g;rw[World.size_alloc] at i;have o:Hid _:=n;clear n g
 go_enter func38,ntmps38
 go_wp2_with fail
 refine(o.out _).mono ?_;rintro z t ⟨rfl,d⟩;have e:=af t (.cells (yfA m j k) 134);have y:=(s.l d).l e;have A:=(i.l d).l e;have B:=ah t (yfL m j k) 134;have u:=aa (aa q d) e;obtain⟨P,Q,S,T,U,W,X,Y,Z⟩:=y.cs9;obtain⟨K,M,N,O⟩:=A.cs4;obtain⟨H,I,J⟩:=B.cs3;clear s i q d e o
 go_wp2
 go_ret2
 exact⟨rfl,u⟩
theorem Ui (R D L G b:Int)(gr:Bool)(sz a:Nat)(F:Nat)(c p:Int)(ng:Bool)(i:Option Addr)(s k:Nat)(d:Bool)(g h:Nat)(w:World)
  (n:yJ 74 #[ylV R D L G gr sz a b F,yi c] (.tuple #[yfV d g h,.bool true]))
  (u:ByteArray) (q:yJ 76 #[ylV R D L G gr sz a b F,yfV (d||ng) g h] (.string u)) (B:s=0) (E:p=0) (C:ng=false):
  yC 38 #[ylV R D L G gr sz a b F,yvV c ng (.slice i s k) p] w (yR w (.tuple #[.string u,yi 0])):=by
 subst B E C;have x:Hid _:=q;have K:=cD;have j:=af (w.alloc (.cells (ylA R D L G gr sz a b F) 93)) (.cells (yvA c false (.slice i 0 k) 0) 39);have t:=(ah w (ylL R D L G gr sz a b F) 93).l j;have m:=ah (w.alloc (.cells (ylA R D L G gr sz a b F) 93)) (yvL c false (.slice i 0 k) 0) 39;have r:=aa (af w (.cells (ylA R D L G gr sz a b F) 93)) j;rw[World.size_alloc] at m;have o:Hid _:=n;clear n j
 go_enter func38,ntmps38
 go_wp2_with fail
 refine(o.out _).mono ?_;rintro z v ⟨rfl,e⟩;have f:=af v (.cells (yfA d g h) 134);have H:=(t.l e).l f;have I:=(m.l e).l f;have J:=ah v (yfL d g h) 134;have y:=aa (aa r e) f;obtain⟨W,X,Y,Z,x4,x5,x6,x7,x8⟩:=H.cs9;obtain⟨P,Q,S,T⟩:=I.cs4;obtain⟨M,N,O⟩:=J.cs3;clear t m r e f o;clear q
 cases d
 all_goals go_wp2_with fail
 all_goals (refine(x.out _).mono ?_;rintro z U ⟨rfl,A⟩;go_wp2;go_ret2;exact⟨rfl,aa y A⟩)
theorem other_sign_mg:
  (∀(R D L G b:Int) (gr:Bool) (sz a:Nat) (F:Nat) (c p:Int) (ng:Bool) (h:Option Addr) (j i:Nat) (d:Bool) (e g:Nat) (w:World)
  (_:yJ 74 #[ylV R D L G gr sz a b F,yi c] (.tuple #[yfV d e g,.bool true]))
  (_:yJ 75 #[ylV R D L G gr sz a b F,yi c] (.bool false)) (_:j=0) (_:p=0) (_:ng=true),
  yC 38 #[ylV R D L G gr sz a b F,yvV c ng (.slice h j i) p] w (yR w (.tuple #[.string ⟨#[]⟩,yi 4])))∧
  (∀(R D L G b:Int) (gr:Bool) (sz a:Nat) (F:Nat) (c p:Int) (ng:Bool) (h:Option Addr) (j i:Nat) (d:Bool) (e g:Nat) (w:World)
  (_:yJ 74 #[ylV R D L G gr sz a b F,yi c] (.tuple #[yfV d e g,.bool true]))
  (_:yJ 75 #[ylV R D L G gr sz a b F,yi c] (.bool true))
  (A:ByteArray) (_:yJ 76 #[ylV R D L G gr sz a b F,yfV (d||ng) e g] (.string A)) (_:j=0) (_:p=0) (_:ng=true),
  yC 38 #[ylV R D L G gr sz a b F,yvV c ng (.slice h j i) p] w (yR w (.tuple #[.string A,yi 0]))):=by
 refine⟨?_, ?_⟩;have _z:Mgk 0:=mgkI 0
 all_goals
  first| (rename Mgk 0=>_z;intro R D L G b gr sz a F c p ng h j i d e g w r q J N M)| (intro R D L G b gr sz a F c p ng h j i d e g w r q A C J N M)
  subst J N M;have a0:Hid _:=q
  first| (rename Mgk 0=>_z)| (have a1:Hid _:=C)
  have a4:=cD;have s:=af (w.alloc (.cells (ylA R D L G gr sz a b F) 93)) (.cells (yvA c true (.slice h 0 i) 0) 39);have t:=(ah w (ylL R D L G gr sz a b F) 93).l s;have v:=ah (w.alloc (.cells (ylA R D L G gr sz a b F) 93)) (yvL c true (.slice h 0 i) 0) 39;have E:=aa (af w (.cells (ylA R D L G gr sz a b F) 93)) s;rw[World.size_alloc] at v;have B:Hid _:=r;clear r s
  go_enter func38,ntmps38
  go_wp2_with fail
  refine(B.out _).mono ?_;rintro z n ⟨rfl,k⟩;have o:=af n (.cells (yfA d e g) 134);have u:=(t.l k).l o;have x:=(v.l k).l o;have y:=ah n (yfL d e g) 134;have H:=aa (aa E k) o;obtain⟨Y,Z,x2,x3,x4,x5,x6,x7,x8⟩:=u.cs9;obtain⟨T,U,W,X⟩:=x.cs4;obtain⟨P,Q,S⟩:=y.cs3
  first| (rename Mgk 0=>_z)| (have K:w.heap.size<n.heap.size:=(t.l k).lt)
  clear t v E k o B
  go_wp2_with fail
  refine(a0.out _).mono ?_;rintro z w2 ⟨rfl,m⟩;have l2:=u.l m;have m2:=x.l m;have O:=y.l m;have I:=aa H m;clear u x y H m Y Z x2 x3 x4 x5 x6 x7 x8 T U W X P Q S;obtain⟨Y,Z,x2,x3,x4,x5,x6,x7,x8⟩:=l2.cs9;obtain⟨T,U,W,X⟩:=m2.cs4;obtain⟨P,Q,S⟩:=O.cs3
  first| (rename Mgk 0=>_z;go_wp2;go_ret2;exact⟨rfl,I⟩)| (have k0:=O.f 0;have a3:n.heap.size≠w.heap.size:=Nat.ne_of_gt K;have a2:=(ag _ n.heap.size 0 (.bool true)).below I (Nat.le_of_lt K);clear C q;cases d;all_goals go_wp2_with fail;all_goals (refine(a1.out _).mono ?_;rintro z w3 ⟨rfl,b3⟩;go_wp2;go_ret2;exact⟨rfl,aa a2 b3⟩))
def Fv (k c dn:Nat)(ng:Bool)(p:Int):ByteArray:=if qX k c dn ng p=0 then cF (kU k (pI k c||ng) (pg k c) (lS k c)) else⟨#[]⟩
theorem value_c1_mg:
  (∀(R sz b:Nat) (D L G d:Int) (gr:Bool) (F:Nat) (ng:Bool) (e f:Nat) (w:World)
  (_:yJ 113 #[ylV R D L G gr sz b d F,yfV ng e f] (yi 1)),
  yC 68 #[ylV R D L G gr sz b d F,yfV ng e f] w (iT w 1 ng 0 0))∧
  (∀(R sz b:Nat) (D L G d:Int) (gr:Bool) (F:Nat) (ng:Bool) (e f:Nat) (w:World)
  (_:yJ 113 #[ylV R D L G gr sz b d F,yfV ng e f] (yi 3)),
  yC 68 #[ylV R D L G gr sz b d F,yfV ng e f] w (iT w 3 ng 0 0))∧
  (∀(R sz b:Nat) (D L G d:Int) (gr:Bool) (F:Nat) (ng:Bool) (e f:Nat) (w:World)
  (_:yJ 113 #[ylV R D L G gr sz b d F,yfV ng e f] (yi 4)),
  yC 68 #[ylV R D L G gr sz b d F,yfV ng e f] w (iT w 4 false 0 0))∧
  (∀(R sz b:Nat) (D L G d:Int) (gr:Bool) (F:Nat) (ng:Bool) (e f:Nat) (w:World)
  (_:yJ 113 #[ylV R D L G gr sz b d F,yfV ng e f] (yi 5)),
  yC 68 #[ylV R D L G gr sz b d F,yfV ng e f] w (iT w 5 false 0 0)):=by
 refine⟨?_, ?_, ?_, ?_⟩;have _z:Mgk 0:=mgkI 0
 rotate_left
 have _z:Mgk 1:=mgkI 1
 rotate_left
 have _z:Mgk 2:=mgkI 2
 rotate_left
 rotate_left
 all_goals
  intro R sz b D L G d gr F ng e f w u;have J:=cD;have y:=af w (.cells (ylA R D L G gr sz b d F) 93);have s:=af (w.alloc (.cells (ylA R D L G gr sz b d F) 93)) (.cells (yfA ng e f) 134);have q:=af ((w.alloc (.cells (ylA R D L G gr sz b d F) 93)).alloc (.cells (yfA ng e f) 134)) (.cells (yvA 0 false yN 0) 39);have C:=((ah w (ylL R D L G gr sz b d F) 93).l s).l q;have m:=(ah (w.alloc (.cells (ylA R D L G gr sz b d F) 93)) (yfL ng e f) 134).l q;have r:=ah ((w.alloc (.cells (ylA R D L G gr sz b d F) 93)).alloc (.cells (yfA ng e f) 134)) (yvL 0 false yN 0) 39;have v:=aa (aa y s) q;rw[World.size_alloc] at m;rw[World.size_alloc,World.size_alloc] at r;clear y s q;have A:Hid _:=u;clear u
  go_enter func68,ntmps68
  go_wp2_with fail
  refine(A.out _).mono ?_;rintro z a ⟨rfl,h⟩
  first| (rename Mgk 0=>_z;have j:=af a (.cells (yvA 1 ng yN 0) 39))| (rename Mgk 1=>_z;have j:=af a (.cells (yvA 3 ng yN 0) 39))| (rename Mgk 2=>_z;have j:=af a (.cells (yvA 4 false yN 0) 39))| (have j:=af a (.cells (yvA 5 false yN 0) 39))
  have E:=(m.l h).l j;have g:=(r.l h).l j
  first| (rename Mgk 0=>_z;have o:=ah a (yvL 1 ng yN 0) 39)| (rename Mgk 1=>_z;have o:=ah a (yvL 3 ng yN 0) 39)| (rename Mgk 2=>_z;have o:=ah a (yvL 4 false yN 0) 39)| (have o:=ah a (yvL 5 false yN 0) 39)
  have x:=aa (aa v h) j;have I:w.heap.size+3≤a.heap.size:=(r.l h).lt
  first| (rename Mgk 0=>_z;have t:=((m.l h).l (af a (.cells (yvA 1 false yN 0) 39))).c 0 rfl)| (rename Mgk 1=>_z;have t:=((m.l h).l (af a (.cells (yvA 3 false yN 0) 39))).c 0 rfl)| (rename Mgk 2=>_z;have t:=((m.l h).l (af a (.cells (yvA 4 false yN 0) 39))).c 0 rfl)| (have t:=((m.l h).l (af a (.cells (yvA 5 false yN 0) 39))).c 0 rfl)
  obtain⟨W,X,Y,Z⟩:=g.cs4;have K:=g.f 0;have M:=g.f 1;have N:=g.f 2;have O:=g.f 3;obtain⟨Q,S,T,U⟩:=o.cs4;have H:a.heap.size≠w.heap.size+1+1:=by omega
  first| (rename Mgk 0=>_z;have n:=(((ag (a.alloc (.cells (yvA 1 ng yN 0) 39)) (w.heap.size+1+1) 0 (yi 1)).trans (ag _ (w.heap.size+1+1) 1 (.bool ng))).trans (ag _ (w.heap.size+1+1) 2 yN)).trans (ag _ (w.heap.size+1+1) 3 (yi 0)))| (rename Mgk 1=>_z;have n:=(((ag (a.alloc (.cells (yvA 3 ng yN 0) 39)) (w.heap.size+1+1) 0 (yi 3)).trans (ag _ (w.heap.size+1+1) 1 (.bool ng))).trans (ag _ (w.heap.size+1+1) 2 yN)).trans (ag _ (w.heap.size+1+1) 3 (yi 0)))| (rename Mgk 2=>_z;have n:=(((ag (a.alloc (.cells (yvA 4 false yN 0) 39)) (w.heap.size+1+1) 0 (yi 4)).trans (ag _ (w.heap.size+1+1) 1 (.bool false))).trans (ag _ (w.heap.size+1+1) 2 yN)).trans (ag _ (w.heap.size+1+1) 3 (yi 0)))| (have n:=(((ag (a.alloc (.cells (yvA 5 false yN 0) 39)) (w.heap.size+1+1) 0 (yi 5)).trans (ag _ (w.heap.size+1+1) 1 (.bool false))).trans (ag _ (w.heap.size+1+1) 2 yN)).trans (ag _ (w.heap.size+1+1) 3 (yi 0)))
  first| (rename Mgk 0=>_z;have i:au (((((a.alloc (.cells (yvA 1 ng yN 0) 39)).setCell ⟨w.heap.size+1+1,0,none⟩ (yi 1)).setCell ⟨w.heap.size+1+1,1,none⟩ (.bool ng)).setCell ⟨w.heap.size+1+1,2,none⟩ yN).setCell ⟨w.heap.size+1+1,3,none⟩ (yi 0)) (w.heap.size+1+1) 39 (yvL 1 ng yN 0):=(((g.set 0 (yi 1)).set 1 (.bool ng)).set 2 yN).set 3 (yi 0))| (rename Mgk 1=>_z;have i:au (((((a.alloc (.cells (yvA 3 ng yN 0) 39)).setCell ⟨w.heap.size+1+1,0,none⟩ (yi 3)).setCell ⟨w.heap.size+1+1,1,none⟩ (.bool ng)).setCell ⟨w.heap.size+1+1,2,none⟩ yN).setCell ⟨w.heap.size+1+1,3,none⟩ (yi 0)) (w.heap.size+1+1) 39 (yvL 3 ng yN 0):=(((g.set 0 (yi 3)).set 1 (.bool ng)).set 2 yN).set 3 (yi 0))| (rename Mgk 2=>_z;have i:au (((((a.alloc (.cells (yvA 4 false yN 0) 39)).setCell ⟨w.heap.size+1+1,0,none⟩ (yi 4)).setCell ⟨w.heap.size+1+1,1,none⟩ (.bool false)).setCell ⟨w.heap.size+1+1,2,none⟩ yN).setCell ⟨w.heap.size+1+1,3,none⟩ (yi 0)) (w.heap.size+1+1) 39 (yvL 4 false yN 0):=(((g.set 0 (yi 4)).set 1 (.bool false)).set 2 yN).set 3 (yi 0))| (have i:au (((((a.alloc (.cells (yvA 5 false yN 0) 39)).setCell ⟨w.heap.size+1+1,0,none⟩ (yi 5)).setCell ⟨w.heap.size+1+1,1,none⟩ (.bool false)).setCell ⟨w.heap.size+1+1,2,none⟩ yN).setCell ⟨w.heap.size+1+1,3,none⟩ (yi 0)) (w.heap.size+1+1) 39 (yvL 5 false yN 0):=(((g.set 0 (yi 5)).set 1 (.bool false)).set 2 yN).set 3 (yi 0))
  have p:=n.below x (by omega)
  first| (rename Mgk 0=>_z;have k:=run_loadVar_mid (P:=Tryz.prog) _ (w.heap.size+1+1) 0 39 (yvL 1 ng yN 0) _ i.range underlying39 rfl (by kernel_rfl))| (rename Mgk 1=>_z;have k:=run_loadVar_mid (P:=Tryz.prog) _ (w.heap.size+1+1) 0 39 (yvL 3 ng yN 0) _ i.range underlying39 rfl (by kernel_rfl))| (rename Mgk 2=>_z;have k:=run_loadVar_mid (P:=Tryz.prog) _ (w.heap.size+1+1) 0 39 (yvL 4 false yN 0) _ i.range underlying39 rfl (by kernel_rfl))| (have k:=run_loadVar_mid (P:=Tryz.prog) _ (w.heap.size+1+1) 0 39 (yvL 5 false yN 0) _ i.range underlying39 rfl (by kernel_rfl))
  have B:Hid (_∧_):=⟨k,p⟩;clear k p i n x o g E C m r v h j
  go_wp2
  obtain⟨k,p⟩:=B.out;exact bodyPost_ret (br results68 rfl k) rfl ⟨_,rfl,aN _ _,p⟩
theorem Yr (n R D L G a:Int)(gr:Bool)(w:World)
  (i:yJ 31 #[yi n] (.tuple #[ygV R D L G gr,yi 0]))
  (h: ∀b,yC 64 #[yi n] b fun z w'=>z= .returned (yi a)∧w'=b):
  yC 108 #[yi n] w (yR w (.tuple #[ykV n 0 a R D L G gr,yi 0])):=by
 replace i:Hid _:=i;replace h:Hid _:=h;have r:=ah w (ykL 0 0 0 0 0 0 0 false) 175;have x:=af w (.cells (ykA 0 0 0 0 0 0 0 false) 175)
 go_enter func108,ntmps108
 go_wp2_with fail
 refine(i.out _).mono ?_;rintro z b ⟨rfl,j⟩;have q:=af b (.cells (ygA R D L G gr) 54);have k:=ah b (ygL R D L G gr) 54;have s:=(r.l j).l q;have p:=aa (aa x j) q;have C:w.heap.size<b.heap.size:=(r.l j).lt
 go_upto_region 4 with fail
 generalize b.alloc (.cells (ygA R D L G gr) 54)=c at k s p⊢;generalize b.heap.size=o at k C⊢;have I:w.heap.size≠o:=by omega
 have A:=k.drew;have t:=s.drew;have y:=p.drew;have d:yB w (c.drew.setCells w.heap.size 0 (ykL n 0 a R D L G gr)):=((((((((ag c.drew w.heap.size 0 (yi n)).trans (ag _ w.heap.size 1 (yi 0))).trans (ag _ w.heap.size 2 (yi a))).trans (ag _ w.heap.size 3 (yi R))).trans (ag _ w.heap.size 4 (yi D))).trans (ag _ w.heap.size 5 (yi L))).trans (ag _ w.heap.size 6 (yi G))).trans (ag _ w.heap.size 7 (.bool gr))).below y (Nat.le_refl _);have g:=run_loadVar_mid (P:=Tryz.prog) _ w.heap.size 0 175 (ykL n 0 a R D L G gr) _ (World.rangeAt_setCells_same c.drew w.heap.size 0 (ykL n 0 a R D L G gr) (show c.drew.there w.heap.size 0 8 from dD t)) underlying175 rfl (by kernel_rfl)
 have v:Hid (_∧_):=⟨g,d⟩;clear g d p r x j q i y s k;refine wp_region_held_drew (S:=fun F=>F.rangeAt o 0 (ygL R D L G gr)) (by kernel_rfl) A.range (fun f=> ?_)
 refine tq 0 (yi n) rfl (fun m _=>by kernel_rfl) f ?_
 refine tq 1 (yi n) rfl (fun m _=>by kernel_rfl) f ?_
 refine tq 3 ((ygV R D L G gr)) rfl (fun m E=>fy 54 (.tmp 4) rfl o 0 (by kernel_rfl) _ _ E underlying54 rfl (by kernel_rfl)) f ?_
 refine wpAnyH_ready (rs:=[2]) (by kernel_rfl) (by simp) ?_;refine AllReadyH.cons rfl (fun K e=> ?_) AllReadyH.nil
 go_simp
 refine(h.out _).mono ?_;rintro z J ⟨rfl,rfl⟩;refine e.out _ _ f (fun u=> ?_)
 clear e K;refine tq 4 ((ykV n 0 a R D L G gr)) rfl (fun m _=>by kernel_rfl) u ?_
 refine wpAnyH_ready (rs:=[5]) (by kernel_rfl) (by simp) ?_;refine AllReadyH.cons rfl (fun K e=> ?_) AllReadyH.nil
 rw[if_pos (by kernel_rfl)];refine wp_store_mid 175 (.tmp 2) (.tmp 19) rfl w.heap.size 0 (ykA n 0 a R D L G gr) (by kernel_rfl) (by kernel_rfl) (show c.drew.there w.heap.size 0 8 from dD t) (by kernel_rfl) (by simp[Value.oneCell']) ?_
 refine e.out _ _ (World.rangeAt_setCells_apart u _ _ _ (.inl (by omega))) (fun B=> ?_)
 clear e K;refine tq 6 (yi 0) rfl (fun m _=>by kernel_rfl) B ?_
 refine wpAnyH_done (by kernel_rfl) ?_ _;obtain⟨g,d⟩:=v.out;clear v B u f A t h;change Exit.then _ _ _ _ (World.setCells c.drew w.heap.size 0 (ykL n 0 a R D L G gr));generalize World.setCells c.drew w.heap.size 0 (ykL n 0 a R D L G gr)=H at g d⊢
 go_wp2
 exact bodyPost_ret (aj results108 rfl rfl g) rfl ⟨rfl,d⟩
theorem tread_bad (o z y af G C:ByteArray)(ng E:Bool)(F:Int)(w:World)(I:o.size≤400)
  (b:yJ 139 #[.string o,.string ⟨#[45]⟩] (.tuple #[.string z,.bool ng]))
  (a:yH w 140 #[.string z,.string ⟨#[101]⟩] (.tuple #[.string y,.string af,.bool true]))
  (d:yJ 141 #[.string af] (.tuple #[yi F,.bool false]))
  (c:yH w 140 #[.string y,.string ⟨#[46]⟩] (.tuple #[.string G,.string C,.bool E])):
  yC 106 #[.string o] w (yR w (.tuple #[.agg #[.bool false,.string ⟨#[]⟩,yi 0],yi 1])):=by
 replace b:Hid _:=b;replace a:Hid _:=a;replace d:Hid _:=d;replace c:Hid _:=c;obtain⟨H,e,t,r⟩:=cA w [.bool false,.string ⟨#[]⟩,yi 0] 170;replace e:Hid _:=e
 go_enter func106,ntmps106
 go_upto_region 1 with fail
 rw[e.out];clear e
 go_wp2_with fail
 refine(b.out _).mono ?_;rintro p L ⟨rfl,k⟩;have x:=t.l k;have g:=aa r k;clear t r k b
 go_wp2_with fail
 refine(a.out _ g).mono ?_;rintro p M ⟨rfl,h⟩;have u:=x.l h;have q:=aa g h;clear x g h a
 go_wp2_with fail
 refine(d.out _).mono ?_;rintro p J ⟨rfl,i⟩;have v:=u.l i;have f:=aa q i;clear u q i d
 go_wp2_with fail
 refine(c.out _ f).mono ?_;rintro p K ⟨rfl,j⟩;have n:=v.l j;have s:=aa f j;clear v f j c;have m:=afy (P:=Tryz.prog) n s (by omega) underlying170 rfl (by kernel_rfl) (.bool false) (.string ⟨#[]⟩) (yi 0);have A:Hid (_∧_):=⟨m.1,m.2.1⟩;obtain⟨⟨R,S,T⟩,N,O,Q⟩:=afA n;clear m n s
 go_wp2
 obtain⟨D,B⟩:=A.out;exact bodyPost_ret (aj results106 rfl rfl D) rfl ⟨rfl,B⟩
theorem tread_dig_e_mg:
  (∀(a d c af b k:ByteArray) (ng C:Bool) (j:Int) (w:World) (_:a.size≤400) (_:b.size+k.size≤400)
  (_:yJ 139 #[.string a,.string ⟨#[45]⟩] (.tuple #[.string d,.bool ng]))
  (_:yH w 140 #[.string d,.string ⟨#[101]⟩] (.tuple #[.string c,.string af,.bool true]))
  (_:yJ 141 #[.string af] (.tuple #[yi j,.bool true]))
  (_:yH w 140 #[.string c,.string ⟨#[46]⟩] (.tuple #[.string b,.string k,.bool C]))
  (_:yJ 142 #[.string (b++k)] (.bool false)),
  yC 106 #[.string a] w (yR w (.tuple #[.agg #[.bool false,.string ⟨#[]⟩,yi 0],yi 1])))∧
  (∀(a d c af b:ByteArray) (ng:Bool) (j:Int) (w:World) (_:a.size≤400) (_:b.size≤400)
  (_:yJ 139 #[.string a,.string ⟨#[45]⟩] (.tuple #[.string d,.bool ng]))
  (_:yH w 140 #[.string d,.string ⟨#[101]⟩] (.tuple #[.string c,.string af,.bool true]))
  (_:yJ 141 #[.string af] (.tuple #[yi j,.bool true]))
  (_:yH w 140 #[.string c,.string ⟨#[46]⟩] (.tuple #[.string b,.string ⟨#[]⟩,.bool true]))
  (_:yJ 142 #[.string (b++⟨#[]⟩)] (.bool true)),
  yC 106 #[.string a] w (yR w (.tuple #[.agg #[.bool false,.string ⟨#[]⟩,yi 0],yi 1]))):=by
 refine⟨?_, ?_⟩;have _z:Mgk 0:=mgkI 0
 all_goals
  first| (rename Mgk 0=>_z;intro a d c af b k ng C j w K M g f i h e)| (intro a d c af b ng j w K M g f i h e)
  replace g:Hid _:=g;replace f:Hid _:=f;replace i:Hid _:=i;replace h:Hid _:=h;replace e:Hid _:=e;obtain⟨N,m,D,z⟩:=cA w [.bool false,.string ⟨#[]⟩,yi 0] 170;replace m:Hid _:=m
  go_enter func106,ntmps106
  go_upto_region 1 with fail
  rw[m.out];clear m
  go_wp2_with fail
  refine(g.out _).mono ?_;rintro n S ⟨rfl,u⟩;have H:=D.l u;have p:=aa z u;clear D z u g
  go_wp2_with fail
  refine(f.out _ p).mono ?_;rintro n T ⟨rfl,q⟩;have E:=H.l q;have y:=aa p q;clear H p q f
  go_wp2_with fail
  refine(i.out _).mono ?_;rintro n O ⟨rfl,r⟩;have F:=E.l r;have o:=aa y r;clear E y r i
  go_wp2_with fail
  refine(h.out _ o).mono ?_;rintro n Q ⟨rfl,s⟩;have G:=F.l s;have A:=aa o s;clear F o s h
  go_wp2_with fail
  refine(e.out _).mono ?_;rintro n R ⟨rfl,t⟩;have x:=G.l t;have B:=aa A t;clear G A t e;have v:=afy (P:=Tryz.prog) x B (by omega) underlying170 rfl (by kernel_rfl) (.bool false) (.string ⟨#[]⟩) (yi 0);have I:Hid (_∧_):=⟨v.1,v.2.1⟩;obtain⟨⟨Y,Z,z2⟩,U,W,X⟩:=afA x;clear v x B
  go_wp2
  obtain⟨L,J⟩:=I.out;exact bodyPost_ret (aj results106 rfl rfl L) rfl ⟨rfl,J⟩
theorem cgrid_1_mg:
  (∀(w:World),
  yC 31 #[yi 1] w (yR w (.tuple #[ygV 2 24 (-149) 104 true,yi 0])))∧
  (∀(w:World),
  yC 31 #[yi 2] w (yR w (.tuple #[ygV 2 53 (-1074) 971 true,yi 0])))∧
  (∀(w:World),
  yC 31 #[yi 3] w (yR w (.tuple #[ygV 2 64 (-16445) 16320 true,yi 0])))∧
  (∀(w:World),
  yC 31 #[yi 4] w (yR w (.tuple #[ygV 16 6 (-70) 57 false,yi 0])))∧
  (∀(w:World),
  yC 31 #[yi 5] w (yR w (.tuple #[ygV 16 14 (-78) 49 false,yi 0])))∧
  (∀(w:World),
  yC 31 #[yi 6] w (yR w (.tuple #[ygV 2 24 (-151) 103 false,yi 0])))∧
  (∀(w:World),
  yC 31 #[yi 7] w (yR w (.tuple #[ygV 2 56 (-183) 71 false,yi 0])))∧
  (∀(w:World),
  yC 31 #[yi 8] w (yR w (.tuple #[ygV 2 53 (-1076) 970 false,yi 0]))):=by
 refine⟨?_, ?_, ?_, ?_, ?_, ?_, ?_, ?_⟩;have _z:Mgk 0:=mgkI 0
 rotate_left
 have _z:Mgk 1:=mgkI 1
 rotate_left
 have _z:Mgk 2:=mgkI 2
 rotate_left
 have _z:Mgk 3:=mgkI 3
 rotate_left
 have _z:Mgk 4:=mgkI 4
 rotate_left
 have _z:Mgk 5:=mgkI 5
 rotate_left
 have _z:Mgk 6:=mgkI 6
 rotate_left
 rotate_left
 all_goals
  intro w
  first| (rename Mgk 0=>_z;have k:Hid (yJ 35 #[yi 1] (.tuple #[.agg #[yi 2,yi 24,yi (-149),yi 104,.bool true,yi 4,yi 8,yi 1,.func (.func 120) #[] #[]],yi 0])):=fun g=>uU g)| (rename Mgk 1=>_z;have k:Hid (yJ 35 #[yi 2] (.tuple #[.agg #[yi 2,yi 53,yi (-1074),yi 971,.bool true,yi 8,yi 11,yi 1,.func (.func 120) #[] #[]],yi 0])):=fun g=>uV g)| (rename Mgk 2=>_z;have k:Hid (yJ 35 #[yi 3] (.tuple #[.agg #[yi 2,yi 64,yi (-16445),yi 16320,.bool true,yi 10,yi 15,yi 1,.func (.func 121) #[] #[]],yi 0])):=fun g=>uW g)| (rename Mgk 3=>_z;have k:Hid (yJ 35 #[yi 4] (.tuple #[.agg #[yi 16,yi 6,yi (-70),yi 57,.bool false,yi 4,yi 7,yi 2,.func (.func 120) #[] #[]],yi 0])):=fun g=>uX g)| (rename Mgk 4=>_z;have k:Hid (yJ 35 #[yi 5] (.tuple #[.agg #[yi 16,yi 14,yi (-78),yi 49,.bool false,yi 8,yi 7,yi 2,.func (.func 120) #[] #[]],yi 0])):=fun g=>uY g)| (rename Mgk 5=>_z;have k:Hid (yJ 35 #[yi 6] (.tuple #[.agg #[yi 2,yi 24,yi (-151),yi 103,.bool false,yi 4,yi 8,yi 3,.func (.func 122) #[] #[]],yi 0])):=fun g=>uZ g)| (rename Mgk 6=>_z;have k:Hid (yJ 35 #[yi 7] (.tuple #[.agg #[yi 2,yi 56,yi (-183),yi 71,.bool false,yi 8,yi 8,yi 3,.func (.func 122) #[] #[]],yi 0])):=fun g=>vf g)| (have k:Hid (yJ 35 #[yi 8] (.tuple #[.agg #[yi 2,yi 53,yi (-1076),yi 970,.bool false,yi 8,yi 11,yi 3,.func (.func 122) #[] #[]],yi 0])):=fun g=>vh g)
  have u:=cD;have v:=gn;have j:=ah w (ygL 0 0 0 0 false) 54;have m:=af w (.cells (ygA 0 0 0 0 false) 54)
  go_enter func31,ntmps31
  go_wp2_with fail
  refine(k.out _).mono ?_;rintro z a ⟨rfl,d⟩
  first| (rename Mgk 0=>_z;have b:=(j.l d).l (af a (.cells #[yi 2,yi 24,yi (-149),yi 104,.bool true,yi 4,yi 8,yi 1,.func (.func 120) #[] #[]] 93)))| (rename Mgk 1=>_z;have b:=(j.l d).l (af a (.cells #[yi 2,yi 53,yi (-1074),yi 971,.bool true,yi 8,yi 11,yi 1,.func (.func 120) #[] #[]] 93)))| (rename Mgk 2=>_z;have b:=(j.l d).l (af a (.cells #[yi 2,yi 64,yi (-16445),yi 16320,.bool true,yi 10,yi 15,yi 1,.func (.func 121) #[] #[]] 93)))| (rename Mgk 3=>_z;have b:=(j.l d).l (af a (.cells #[yi 16,yi 6,yi (-70),yi 57,.bool false,yi 4,yi 7,yi 2,.func (.func 120) #[] #[]] 93)))| (rename Mgk 4=>_z;have b:=(j.l d).l (af a (.cells #[yi 16,yi 14,yi (-78),yi 49,.bool false,yi 8,yi 7,yi 2,.func (.func 120) #[] #[]] 93)))| (rename Mgk 5=>_z;have b:=(j.l d).l (af a (.cells #[yi 2,yi 24,yi (-151),yi 103,.bool false,yi 4,yi 8,yi 3,.func (.func 122) #[] #[]] 93)))| (rename Mgk 6=>_z;have b:=(j.l d).l (af a (.cells #[yi 2,yi 56,yi (-183),yi 71,.bool false,yi 8,yi 8,yi 3,.func (.func 122) #[] #[]] 93)))| (have b:=(j.l d).l (af a (.cells #[yi 2,yi 53,yi (-1076),yi 970,.bool false,yi 8,yi 11,yi 3,.func (.func 122) #[] #[]] 93)))
  first| (rename Mgk 0=>_z;have e:au ((((((a.alloc (.cells #[yi 2,yi 24,yi (-149),yi 104,.bool true,yi 4,yi 8,yi 1,.func (.func 120) #[] #[]] 93)).setCell ⟨w.heap.size,0,none⟩ (yi 2)).setCell ⟨w.heap.size,1,none⟩ (yi 24)).setCell ⟨w.heap.size,2,none⟩ (yi (-149))).setCell ⟨w.heap.size,3,none⟩ (yi 104)).setCell ⟨w.heap.size,4,none⟩ (.bool true)) w.heap.size 54 (ygL 2 24 (-149) 104 true):=(((((b.set 0 (yi 2)).set 1 (yi 24)).set 2 (yi (-149))).set 3 (yi 104)).set 4 (.bool true)))| (rename Mgk 1=>_z;have e:au ((((((a.alloc (.cells #[yi 2,yi 53,yi (-1074),yi 971,.bool true,yi 8,yi 11,yi 1,.func (.func 120) #[] #[]] 93)).setCell ⟨w.heap.size,0,none⟩ (yi 2)).setCell ⟨w.heap.size,1,none⟩ (yi 53)).setCell ⟨w.heap.size,2,none⟩ (yi (-1074))).setCell ⟨w.heap.size,3,none⟩ (yi 971)).setCell ⟨w.heap.size,4,none⟩ (.bool true)) w.heap.size 54 (ygL 2 53 (-1074) 971 true):=(((((b.set 0 (yi 2)).set 1 (yi 53)).set 2 (yi (-1074))).set 3 (yi 971)).set 4 (.bool true)))| (rename Mgk 2=>_z;have e:au ((((((a.alloc (.cells #[yi 2,yi 64,yi (-16445),yi 16320,.bool true,yi 10,yi 15,yi 1,.func (.func 121) #[] #[]] 93)).setCell ⟨w.heap.size,0,none⟩ (yi 2)).setCell ⟨w.heap.size,1,none⟩ (yi 64)).setCell ⟨w.heap.size,2,none⟩ (yi (-16445))).setCell ⟨w.heap.size,3,none⟩ (yi 16320)).setCell ⟨w.heap.size,4,none⟩ (.bool true)) w.heap.size 54 (ygL 2 64 (-16445) 16320 true):=(((((b.set 0 (yi 2)).set 1 (yi 64)).set 2 (yi (-16445))).set 3 (yi 16320)).set 4 (.bool true)))| (rename Mgk 3=>_z;have e:au ((((((a.alloc (.cells #[yi 16,yi 6,yi (-70),yi 57,.bool false,yi 4,yi 7,yi 2,.func (.func 120) #[] #[]] 93)).setCell ⟨w.heap.size,0,none⟩ (yi 16)).setCell ⟨w.heap.size,1,none⟩ (yi 6)).setCell ⟨w.heap.size,2,none⟩ (yi (-70))).setCell ⟨w.heap.size,3,none⟩ (yi 57)).setCell ⟨w.heap.size,4,none⟩ (.bool false)) w.heap.size 54 (ygL 16 6 (-70) 57 false):=(((((b.set 0 (yi 16)).set 1 (yi 6)).set 2 (yi (-70))).set 3 (yi 57)).set 4 (.bool false)))| (rename Mgk 4=>_z;have e:au ((((((a.alloc (.cells #[yi 16,yi 14,yi (-78),yi 49,.bool false,yi 8,yi 7,yi 2,.func (.func 120) #[] #[]] 93)).setCell ⟨w.heap.size,0,none⟩ (yi 16)).setCell ⟨w.heap.size,1,none⟩ (yi 14)).setCell ⟨w.heap.size,2,none⟩ (yi (-78))).setCell ⟨w.heap.size,3,none⟩ (yi 49)).setCell ⟨w.heap.size,4,none⟩ (.bool false)) w.heap.size 54 (ygL 16 14 (-78) 49 false):=(((((b.set 0 (yi 16)).set 1 (yi 14)).set 2 (yi (-78))).set 3 (yi 49)).set 4 (.bool false)))| (rename Mgk 5=>_z;have e:au ((((((a.alloc (.cells #[yi 2,yi 24,yi (-151),yi 103,.bool false,yi 4,yi 8,yi 3,.func (.func 122) #[] #[]] 93)).setCell ⟨w.heap.size,0,none⟩ (yi 2)).setCell ⟨w.heap.size,1,none⟩ (yi 24)).setCell ⟨w.heap.size,2,none⟩ (yi (-151))).setCell ⟨w.heap.size,3,none⟩ (yi 103)).setCell ⟨w.heap.size,4,none⟩ (.bool false)) w.heap.size 54 (ygL 2 24 (-151) 103 false):=(((((b.set 0 (yi 2)).set 1 (yi 24)).set 2 (yi (-151))).set 3 (yi 103)).set 4 (.bool false)))| (rename Mgk 6=>_z;have e:au ((((((a.alloc (.cells #[yi 2,yi 56,yi (-183),yi 71,.bool false,yi 8,yi 8,yi 3,.func (.func 122) #[] #[]] 93)).setCell ⟨w.heap.size,0,none⟩ (yi 2)).setCell ⟨w.heap.size,1,none⟩ (yi 56)).setCell ⟨w.heap.size,2,none⟩ (yi (-183))).setCell ⟨w.heap.size,3,none⟩ (yi 71)).setCell ⟨w.heap.size,4,none⟩ (.bool false)) w.heap.size 54 (ygL 2 56 (-183) 71 false):=(((((b.set 0 (yi 2)).set 1 (yi 56)).set 2 (yi (-183))).set 3 (yi 71)).set 4 (.bool false)))| (have e:au ((((((a.alloc (.cells #[yi 2,yi 53,yi (-1076),yi 970,.bool false,yi 8,yi 11,yi 3,.func (.func 122) #[] #[]] 93)).setCell ⟨w.heap.size,0,none⟩ (yi 2)).setCell ⟨w.heap.size,1,none⟩ (yi 53)).setCell ⟨w.heap.size,2,none⟩ (yi (-1076))).setCell ⟨w.heap.size,3,none⟩ (yi 970)).setCell ⟨w.heap.size,4,none⟩ (.bool false)) w.heap.size 54 (ygL 2 53 (-1076) 970 false):=(((((b.set 0 (yi 2)).set 1 (yi 53)).set 2 (yi (-1076))).set 3 (yi 970)).set 4 (.bool false)))
  first| (rename Mgk 0=>_z;have h:=(((((ag (a.alloc (.cells #[yi 2,yi 24,yi (-149),yi 104,.bool true,yi 4,yi 8,yi 1,.func (.func 120) #[] #[]] 93)) w.heap.size 0 (yi 2)).trans (ag _ w.heap.size 1 (yi 24))).trans (ag _ w.heap.size 2 (yi (-149)))).trans (ag _ w.heap.size 3 (yi 104))).trans (ag _ w.heap.size 4 (.bool true))).below (aa (aa m d) (af a (.cells #[yi 2,yi 24,yi (-149),yi 104,.bool true,yi 4,yi 8,yi 1,.func (.func 120) #[] #[]] 93))) (Nat.le_refl _))| (rename Mgk 1=>_z;have h:=(((((ag (a.alloc (.cells #[yi 2,yi 53,yi (-1074),yi 971,.bool true,yi 8,yi 11,yi 1,.func (.func 120) #[] #[]] 93)) w.heap.size 0 (yi 2)).trans (ag _ w.heap.size 1 (yi 53))).trans (ag _ w.heap.size 2 (yi (-1074)))).trans (ag _ w.heap.size 3 (yi 971))).trans (ag _ w.heap.size 4 (.bool true))).below (aa (aa m d) (af a (.cells #[yi 2,yi 53,yi (-1074),yi 971,.bool true,yi 8,yi 11,yi 1,.func (.func 120) #[] #[]] 93))) (Nat.le_refl _))| (rename Mgk 2=>_z;have h:=(((((ag (a.alloc (.cells #[yi 2,yi 64,yi (-16445),yi 16320,.bool true,yi 10,yi 15,yi 1,.func (.func 121) #[] #[]] 93)) w.heap.size 0 (yi 2)).trans (ag _ w.heap.size 1 (yi 64))).trans (ag _ w.heap.size 2 (yi (-16445)))).trans (ag _ w.heap.size 3 (yi 16320))).trans (ag _ w.heap.size 4 (.bool true))).below (aa (aa m d) (af a (.cells #[yi 2,yi 64,yi (-16445),yi 16320,.bool true,yi 10,yi 15,yi 1,.func (.func 121) #[] #[]] 93))) (Nat.le_refl _))| (rename Mgk 3=>_z;have h:=(((((ag (a.alloc (.cells #[yi 16,yi 6,yi (-70),yi 57,.bool false,yi 4,yi 7,yi 2,.func (.func 120) #[] #[]] 93)) w.heap.size 0 (yi 16)).trans (ag _ w.heap.size 1 (yi 6))).trans (ag _ w.heap.size 2 (yi (-70)))).trans (ag _ w.heap.size 3 (yi 57))).trans (ag _ w.heap.size 4 (.bool false))).below (aa (aa m d) (af a (.cells #[yi 16,yi 6,yi (-70),yi 57,.bool false,yi 4,yi 7,yi 2,.func (.func 120) #[] #[]] 93))) (Nat.le_refl _))| (rename Mgk 4=>_z;have h:=(((((ag (a.alloc (.cells #[yi 16,yi 14,yi (-78),yi 49,.bool false,yi 8,yi 7,yi 2,.func (.func 120) #[] #[]] 93)) w.heap.size 0 (yi 16)).trans (ag _ w.heap.size 1 (yi 14))).trans (ag _ w.heap.size 2 (yi (-78)))).trans (ag _ w.heap.size 3 (yi 49))).trans (ag _ w.heap.size 4 (.bool false))).below (aa (aa m d) (af a (.cells #[yi 16,yi 14,yi (-78),yi 49,.bool false,yi 8,yi 7,yi 2,.func (.func 120) #[] #[]] 93))) (Nat.le_refl _))| (rename Mgk 5=>_z;have h:=(((((ag (a.alloc (.cells #[yi 2,yi 24,yi (-151),yi 103,.bool false,yi 4,yi 8,yi 3,.func (.func 122) #[] #[]] 93)) w.heap.size 0 (yi 2)).trans (ag _ w.heap.size 1 (yi 24))).trans (ag _ w.heap.size 2 (yi (-151)))).trans (ag _ w.heap.size 3 (yi 103))).trans (ag _ w.heap.size 4 (.bool false))).below (aa (aa m d) (af a (.cells #[yi 2,yi 24,yi (-151),yi 103,.bool false,yi 4,yi 8,yi 3,.func (.func 122) #[] #[]] 93))) (Nat.le_refl _))| (rename Mgk 6=>_z;have h:=(((((ag (a.alloc (.cells #[yi 2,yi 56,yi (-183),yi 71,.bool false,yi 8,yi 8,yi 3,.func (.func 122) #[] #[]] 93)) w.heap.size 0 (yi 2)).trans (ag _ w.heap.size 1 (yi 56))).trans (ag _ w.heap.size 2 (yi (-183)))).trans (ag _ w.heap.size 3 (yi 71))).trans (ag _ w.heap.size 4 (.bool false))).below (aa (aa m d) (af a (.cells #[yi 2,yi 56,yi (-183),yi 71,.bool false,yi 8,yi 8,yi 3,.func (.func 122) #[] #[]] 93))) (Nat.le_refl _))| (have h:=(((((ag (a.alloc (.cells #[yi 2,yi 53,yi (-1076),yi 970,.bool false,yi 8,yi 11,yi 3,.func (.func 122) #[] #[]] 93)) w.heap.size 0 (yi 2)).trans (ag _ w.heap.size 1 (yi 53))).trans (ag _ w.heap.size 2 (yi (-1076)))).trans (ag _ w.heap.size 3 (yi 970))).trans (ag _ w.heap.size 4 (.bool false))).below (aa (aa m d) (af a (.cells #[yi 2,yi 53,yi (-1076),yi 970,.bool false,yi 8,yi 11,yi 3,.func (.func 122) #[] #[]] 93))) (Nat.le_refl _))
  first| (rename Mgk 0=>_z;have i:=run_loadVar_mid (P:=Tryz.prog) _ w.heap.size 0 54 (ygL 2 24 (-149) 104 true) _ e.range underlying54 rfl (by kernel_rfl))| (rename Mgk 1=>_z;have i:=run_loadVar_mid (P:=Tryz.prog) _ w.heap.size 0 54 (ygL 2 53 (-1074) 971 true) _ e.range underlying54 rfl (by kernel_rfl))| (rename Mgk 2=>_z;have i:=run_loadVar_mid (P:=Tryz.prog) _ w.heap.size 0 54 (ygL 2 64 (-16445) 16320 true) _ e.range underlying54 rfl (by kernel_rfl))| (rename Mgk 3=>_z;have i:=run_loadVar_mid (P:=Tryz.prog) _ w.heap.size 0 54 (ygL 16 6 (-70) 57 false) _ e.range underlying54 rfl (by kernel_rfl))| (rename Mgk 4=>_z;have i:=run_loadVar_mid (P:=Tryz.prog) _ w.heap.size 0 54 (ygL 16 14 (-78) 49 false) _ e.range underlying54 rfl (by kernel_rfl))| (rename Mgk 5=>_z;have i:=run_loadVar_mid (P:=Tryz.prog) _ w.heap.size 0 54 (ygL 2 24 (-151) 103 false) _ e.range underlying54 rfl (by kernel_rfl))| (rename Mgk 6=>_z;have i:=run_loadVar_mid (P:=Tryz.prog) _ w.heap.size 0 54 (ygL 2 56 (-183) 71 false) _ e.range underlying54 rfl (by kernel_rfl))| (have i:=run_loadVar_mid (P:=Tryz.prog) _ w.heap.size 0 54 (ygL 2 53 (-1076) 970 false) _ e.range underlying54 rfl (by kernel_rfl))
  have n:Hid (_∧_):=⟨i,h⟩;have x:=b.c 0 rfl;have o:=b.f 0;have y:=b.c 1 rfl;have p:=b.f 1;have A:=b.c 2 rfl;have q:=b.f 2;have B:=b.c 3 rfl;have r:=b.f 3;have C:=b.c 4 rfl;have s:=b.f 4;have t:a.heap.size≠w.heap.size:=Nat.ne_of_gt (j.l d).lt;clear i h e j b m d k
  go_wp2
  obtain⟨i,h⟩:=n.out;exact bodyPost_ret (aj results31 rfl rfl i) rfl ⟨rfl,h⟩
theorem sU (k:Nat)(a:1≤k∧k≤8)(w:World):yC 15 #[yi k] w (yR w (.tuple #[yhV (szN k) (exN k) (frN k:Int) (rdN k) (dgN k) (lsI k) (gsI k) (decide (k≤3)) (fmN k:Int),.bool true])):=by
 have h:=qU k a w
 rcases bO a with rfl|rfl|rfl|rfl|rfl|rfl|rfl|rfl
 all_goals exact h
abbrev dsk (k:Nat)(wy:Int):Value:=(ykV k wy (dK k) (rdN k) (dgN k) (lsI k) (gsI k) (decide (k≤3)))
theorem aa0 {w:World}{q r:Nat}(h:w.cell? ⟨q,0,none⟩=some (.int .u32 r)):Rd w .u32 (.slice (some ⟨q,0,none⟩) 1 1) [r]:=
 ⟨_,1,rfl,Nat.le_refl _,by unfold maxLen;omega,fun _=>⟨q,0,rfl,fun i a=>by
  obtain rfl:i=0:=by simpa using a
  exact h⟩⟩
theorem form_any (k:Nat)(a:1≤k∧k≤8)(w:World):yC 15 #[yi k] w (yR w (.tuple #[yhV (szN k) (exN k) (frN k:Int) (rdN k) (dgN k) (lsI k) (gsI k) (decide (k≤3)) (dK k),.bool true])):=by
 have:=sU k a w;rw[fm_is a] at this;exact this
def gtT (k:Nat)(ng:Bool):ak:=bare ⟨ng,rdN k^dgN k-1,(ai (rdN k):Int)*gsI k⟩
def fY (k:Nat)(wy:Int)(t:ak):fz:=cI (rdN k) (dgN k) (lsI k) (gsI k) (decide (k≤3)) t.s t.n 1 t.e wy
theorem RK {R D L G:Int}{gr s:Bool}{n:Nat}{e way:Int}(d:1≤D)(f:L≤G)(a:n≠0)(b:dA R D L G gr n e=true):(cI R D L G gr s n 1 e way).ex=true∧L≤cP R D L gr n e:=by
 have c:L≤cP R D L gr n e∧cP R D L gr n e≤G∧(ai R:Int)*cP R D L gr n e≤e+(tz n:Int):=by
  unfold dA at b
  rcases of_decide_eq_true b with h|h
  ·exact absurd h a
  ·exact h
 have g:dj R D L gr n 1 e=cP R D L gr n e:=by
  unfold dj cP;rw[lU a]
 refine⟨?_,c.1⟩;rw[kJ gr s n 1 e way d f a (by omega)];refine decide_eq_true ?_;unfold gF shP;rw[g];exact(nV s n e _ c.2.2).1
theorem intText_neg (n a:Int)(d:Nat)(S:ByteArray)(w:World)(q:S.size≤100)(s:n<0)(r:IntKind.i64.wrap (-n)=a)
  (c: ∀b,yB w b→yC 99 #[yi a] b (cG b d))
  (e: ∀j i b,yB w b→Rd b .i64 (yS j d i) (Dg.dg 65536 d)→yC 96 #[yS j d i] b (yR b (.string S))):
  yC 97 #[yi n] w (yR w (.string ((⟨#[45]⟩:ByteArray)++S))):=by
 replace c:Hid _:=c;replace e:Hid _:=e
 go_enter func97,ntmps97
 have f:=Below.refl w.heap.size w
 go_wp2_with fail
 refine(c.out _ f).mono ?_;rintro p b ⟨t,rfl,h,k⟩;have g:=aa f k;obtain⟨j,i,o⟩:=h.shape;subst o;clear f k c
 go_wp2_with fail
 refine(e.out _ _ _ g h).mono ?_;rintro p u ⟨rfl,l⟩;have m:=aa g l;clear h g l e
 go_wp2
 go_ret
 exact⟨by first|rfl|simp,m⟩
theorem intText_pos (n:Int)(d:Nat)(S:ByteArray)(w:World)(p: ¬n<0)
  (b: ∀a,yB w a→yC 99 #[yi n] a (cG a d))
  (c: ∀i h a,yB w a→Rd a .i64 (yS i d h) (Dg.dg 65536 d)→yC 96 #[yS i d h] a (yR a (.string S))):
  yC 97 #[yi n] w (yR w (.string (S))):=by
 replace b:Hid _:=b;replace c:Hid _:=c
 go_enter func97,ntmps97
 have e:=Below.refl w.heap.size w
 go_wp2_with fail
 refine(b.out _ e).mono ?_;rintro o a ⟨q,rfl,g,j⟩;have f:=aa e j;obtain⟨i,h,m⟩:=g.shape;subst m;clear e j b
 go_wp2_with fail
 refine(c.out _ _ _ f g).mono ?_;rintro o r ⟨rfl,k⟩;have l:=aa f k;clear g f k c
 go_wp2
 go_ret
 exact⟨by first|rfl|simp,l⟩
theorem ratioOf_many (e:ByteArray)(w:World)(h:400<e.size):
  yC 27 #[.string e] w (yR w (.tuple #[yrV false yN yN 0,yi 2])):=by
 obtain⟨j,a,c,d⟩:=cA w (yrL false yN yN 0) 72;replace a:Hid _:=a
 go_enter func27,ntmps27
 go_upto_region 1 with fail
 rw[a.out];clear a;have b:=afz (P:=Tryz.prog) c d (by omega) underlying72 rfl (by kernel_rfl) (.bool false) yN yN (yi 0);have f:Hid (_∧_):=⟨b.1,b.2.1⟩;obtain⟨⟨o,p,q,r⟩,k,l,m,n⟩:=afB c;clear b c d
 go_wp2
 obtain⟨i,g⟩:=f.out;exact bodyPost_ret (aj results27 rfl rfl i) rfl ⟨rfl,g⟩
theorem ratioOf_low (ng:Bool)(m g:ByteArray)(p:Int)(w:World)(r:g.size≤400)(q:p< -6000)
  (a:yH w 57 #[.string g] (.tuple #[.bool ng,.string m,yi p,.bool true])):
  yC 27 #[.string g] w (yR w (.tuple #[yrV false yN yN 0,yi 3])):=by
 replace a:Hid _:=a;obtain⟨o,b,i,c⟩:=cA w (yrL false yN yN 0) 72;replace b:Hid _:=b
 go_enter func27,ntmps27
 go_upto_region 1 with fail
 rw[b.out];clear b
 go_wp2_with fail
 refine(a.out _ c).mono ?_;rintro C s ⟨rfl,d⟩;have f:=i.l d;have h:=aa c d;clear i c d a;have e:=afz (P:=Tryz.prog) f h (by omega) underlying72 rfl (by kernel_rfl) (.bool false) yN yN (yi 0);have j:Hid (_∧_):=⟨e.1,e.2.1⟩;obtain⟨⟨y,z,A,B⟩,t,u,v,x⟩:=afB f;clear e f h
 go_wp2
 obtain⟨n,k⟩:=j.out;exact bodyPost_ret (aj results27 rfl rfl n) rfl ⟨rfl,k⟩
theorem ratioOf_high (ng:Bool)(m g:ByteArray)(p:Int)(w:World)(s:g.size≤400)(q: ¬p< -6000)(r:6000<p)
  (a:yH w 57 #[.string g] (.tuple #[.bool ng,.string m,yi p,.bool true])):
  yC 27 #[.string g] w (yR w (.tuple #[yrV false yN yN 0,yi 3])):=by
 replace a:Hid _:=a;obtain⟨o,b,i,c⟩:=cA w (yrL false yN yN 0) 72;replace b:Hid _:=b
 go_enter func27,ntmps27
 go_upto_region 1 with fail
 rw[b.out];clear b
 go_wp2_with fail
 refine(a.out _ c).mono ?_;rintro D t ⟨rfl,d⟩;have f:=i.l d;have h:=aa c d;clear i c d a;have e:=afz (P:=Tryz.prog) f h (by omega) underlying72 rfl (by kernel_rfl) (.bool false) yN yN (yi 0);have j:Hid (_∧_):=⟨e.1,e.2.1⟩;obtain⟨⟨z,A,B,C⟩,u,v,x,y⟩:=afB f;clear e f h
 go_wp2
 obtain⟨n,k⟩:=j.out;exact bodyPost_ret (aj results27 rfl rfl n) rfl ⟨rfl,k⟩
theorem rd_five {w:World}{q:Nat}(h:au w q 3 [yi 5]):Rd w .i64 (.slice (some ⟨q,0,none⟩) 1 1) (Dg.dg 65536 5):=by
 rw[show Dg.dg 65536 5=[5] by decide]
 exact⟨_,1,rfl,Nat.le_refl _,by unfold maxLen;omega,fun _=>⟨q,0,rfl,fun i a=>by
  obtain rfl:i=0:=by simpa using a
  exact h.c 0 rfl⟩⟩
theorem ratioOf_formE (g:ByteArray)(w:World)(r:g.size≤400)
  (a: ∀h,yB w h→yC 57 #[.string g] h (fun z w'=> ∃ng j p,z= .returned (.tuple #[.bool ng,.string j,yi p,.bool false])∧yB h w')):
  yC 27 #[.string g] w (yR w (.tuple #[yrV false yN yN 0,yi 1])):=by
 replace a:Hid _:=a;obtain⟨q,b,k,c⟩:=cA w (yrL false yN yN 0) 72;replace b:Hid _:=b
 go_enter func27,ntmps27
 go_upto_region 1 with fail
 rw[b.out];clear b
 go_wp2_with fail
 refine(a.out _ c).mono ?_;rintro D s ⟨ng,j,p,rfl,d⟩;have f:=k.l d;have i:=aa c d;clear k c d a;have e:=afz (P:=Tryz.prog) f i (by omega) underlying72 rfl (by kernel_rfl) (.bool false) yN yN (yi 0);have m:Hid (_∧_):=⟨e.1,e.2.1⟩;obtain⟨⟨y,A,B,C⟩,t,u,v,x⟩:=afB f;clear e f i
 go_wp2
 obtain⟨o,n⟩:=m.out;exact bodyPost_ret (aj results27 rfl rfl o) rfl ⟨rfl,n⟩
theorem rqS_rest: ∀k n d,(n % 5≠0∨1<d)→rqS k (n,d)=(n,d*5^k):=by
 intro k
 induction k with
 |zero=>intro n d _;rw[Nat.pow_zero,Nat.mul_one];rfl
 |succ k ih=>
  intro n d h
  show rqS k (if n % 5=0∧d=1 then _ else _)=_
  rw[if_neg (by omega),ih n (d*5) (by omega),Nat.pow_succ,Nat.mul_assoc,Nat.mul_comm 5]
theorem rqS_red: ∀k n,rqS k (n,1)=((redF n k).1,5^ (redF n k).2):=by
 intro k
 induction k with
 |zero=>intro n;rfl
 |succ k ih=>
  intro n
  show rqS k (if n % 5=0∧1=1 then _ else _)=_
  unfold redF
  by_cases h:n % 5=0
  ·rw[if_pos ⟨h,rfl⟩,if_pos h,ih]
  ·rw[if_neg (fun c=>h c.1),if_neg h,rqS_rest k n (1*5) (.inl h),Nat.pow_succ,Nat.one_mul,Nat.mul_comm 5]
theorem nr_rq {N:Nat}(h:N≠0)(p:Int):
  (rqS (-p).toNat (N/2^tz N*5^p.toNat,1)).1=(nrM N p).1/2^tz (nrM N p).1∧(rqS (-p).toNat (N/2^tz N*5^p.toNat,1)).2=(nrM N p).2∧tz (nrM N p).1=tz N:=by
 obtain⟨a,d⟩:=odd_of h;obtain⟨t,g⟩: ∃t,tz N=t:=⟨_,rfl⟩;rw[g] at a d⊢;generalize N/2^t=n at*;subst d;unfold nrM
 by_cases f:0<p
 ·rw[if_pos f,show(-p).toNat=0 by omega]
  have e:n*2^t*5^p.toNat=n*5^p.toNat*2^t:=Nat.mul_right_comm ..;obtain⟨b,c⟩:=odd_two (t:=t) (five_odd n a p.toNat)
  show _=n*2^t*5^p.toNat/_∧_
  rw[e];exact⟨c.symm,rfl,b⟩
 ·rw[if_neg f,show p.toNat=0 by omega,Nat.pow_zero,Nat.mul_one,rqS_red,redF_two]
  obtain⟨b,c⟩:=odd_two (t:=t) (redF_odd (-p).toNat n a);exact⟨c.symm,rfl,b⟩
end Go.Proofs.YtlhkndcmbpcpgaaGreatDoor
