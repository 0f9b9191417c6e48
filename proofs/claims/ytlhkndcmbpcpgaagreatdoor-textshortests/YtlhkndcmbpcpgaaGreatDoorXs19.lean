/- Texts laid together. -/
import Derived.Test.YtlhkndcmbpcpgaaGreatDoorXs13
import Derived.Test.YtlhkndcmbpcpgaaGreatDoorXs14
import Derived.Test.YtlhkndcmbpcpgaaGreatDoorXs15
set_option maxRecDepth 100000
set_option maxHeartbeats 25600000
namespace Go.Proofs.YtlhkndcmbpcpgaaGreatDoor
open _root_.Go.Proofs.Tryz
open Go.RowKit
theorem II (v:Value)(t:ak)(w:World)(hv:Dv w v t)(Q:(Dg.dg 4294967296 t.n).length≤500000)(S: -1000000≤t.e∧t.e≤1000000)(R:Tab w)(U:tz t.n≤1000000):
  Calls Tryz.prog 155 #[v] w (jN w (bare t)):=by
 obtain⟨s,rfl,h⟩:=hv;obtain⟨a,n,e⟩:=t;simp only at h Q S U⊢;obtain⟨f,g,rfl⟩:=h.shape;obtain⟨e1,e2⟩:=S
 by_cases u:n=0
 ·subst u
  rw[show Dg.dg 4294967296 0=[] from rfl] at h⊢
  go_enter func155,ntmps155
  rw[show bare ⟨a,0,e⟩=⟨false,0,0⟩ from by unfold bare;rfl]
  go_wp2
  go_returns
  exact⟨_,rfl,aQ _ _ _ _,((Below.refl _ _).alloc (Nat.le_refl _) _).alloc (by simp[World.size_alloc]) _⟩
 ·have H:(((Dg.dg 4294967296 n).length:Int)==0)=false:=by simp[Dg.dg_nil_iff 4294967296 n (by omega)];exact u
  have C:Hid (bare ⟨a,n,e⟩=⟨a,n/2^tz n,e+tz n⟩):=by show bare ⟨a,n,e⟩=_;unfold bare;rw[if_neg u]
  have T:=Dg.small_dg 4294967296 n (by omega);have W:=Dg.vl_dg 4294967296 n (by omega);have O:Hid (∀c,Below w.heap.size w c→Calls Tryz.prog 145 #[.slice f (Dg.dg 4294967296 n).length g] c fun e w'=>e= .returned (.int .i64 ((tz n:Nat):Int))∧w'=c):=fun c d=>by
   have:=Gl _ n c (h.l d) (by omega) (R.l d)
   rwa [if_neg u] at this
  have N:Hid (∀c,Below w.heap.size w c→Calls Tryz.prog 43 #[.slice f (Dg.dg 4294967296 n).length g,.int .i64 (-((tz n:Nat):Int))] c (Num c (n/2^tz n))):=fun c d=>by
   have:=eO _ _ (-((tz n:Nat):Int)) c (h.l d) T (by omega) (by omega) (by omega);rw[W] at this;have e:shN n (-((tz n:Nat):Int))=n/2^tz n:=by
    unfold shN
    by_cases X: -((tz n:Nat):Int)<0
    ·rw[if_pos X];congr 2;omega
    ·rw[if_neg X]
     have H:tz n=0:=by omega
     rw[H];simp
   rwa [e] at this
  obtain⟨m,B⟩: ∃m,(Dg.dg 4294967296 n).length=m:=⟨_,rfl⟩;obtain⟨k,r⟩: ∃k,tz n=k:=⟨_,rfl⟩;obtain⟨q,J⟩: ∃q,n/2^tz n=q:=⟨_,rfl⟩;rw[J,r] at C;rw[J,r,B] at N;rw[r,B] at O;rw[B] at H Q⊢;rw[r] at U;rw[C.out];clear B r J h T W C u R;have i:=(aA w (.bool a) (.slice f m g) (.int .i64 e) 191).l (af _ (.cells #[.bool false,.slice none 0 0,.int .i64 0] 191));have j:=aA (w.alloc (.cells #[.bool a,.slice f m g,.int .i64 e] 191)) (.bool false) (.slice none 0 0) (.int .i64 0) 191;have P:=aa (af w (.cells #[.bool a,.slice f m g,.int .i64 e] 191)) (af _ (.cells #[.bool false,.slice none 0 0,.int .i64 0] 191));rw[World.size_alloc] at j
  go_enter func155,ntmps155
  go_wp2_with fail
  refine(cN a f m g e _).mono ?_;rintro x c ⟨rfl,d⟩;have i:=i.l d;have j:=j.l d;have D:=aa P d;clear P d
  go_wp2_with fail
  refine(O.out c D).mono ?_;rintro x L ⟨rfl,rfl⟩;have A:Below L.heap.size L L.drew:=(Below.refl _ _).drew;have i:=i.l A;have j:=j.l A;have a2:=aa D A;obtain⟨-,⟨c0,c1,c2⟩,-⟩:=id i;clear D A;have e3:IntKind.i64.wrap (-(k:Int))= -(k:Int):=IntWalk.i64_in _ ⟨by omega,by omega⟩;have e4:IntKind.i64.wrap (e+(k:Int))=e+(k:Int):=IntWalk.i64_in _ ⟨by omega,by omega⟩
  go_wp2_with fail
  go_region_held3 (fun M=>M.cell? ⟨w.heap.size,0,none⟩=some (.bool a)∧M.cell? ⟨w.heap.size,1,none⟩=some (.slice f m g)∧M.cell? ⟨w.heap.size,2,none⟩=some (.int .i64 e)) (go_keep) (first
   | (go_at_call 182;refine(cN a f m g e _).mono ?_;rintro x w3 ⟨rfl,F⟩;have Y:=i.l F;have a0:=j.l F;have E:=aa a2 F;obtain⟨-,⟨p0,p1,p2⟩,-⟩:=id Y)
   | (go_at_call 43;refine(N.out _ E).mono ?_;rintro x w4 ⟨vs,rfl,K,G⟩;have Z:=Y.l G;have a8:=a0.l G;have a3:=aa E G;obtain⟨z,y,a6⟩:=K.rd.shape;subst a6;obtain⟨-,⟨q0,q1,q2⟩,-⟩:=id Z)
   | (go_at_call 153;refine(l9 a z _ y _ _).mono ?_;rintro x w5 ⟨rfl,o⟩;have a1:=a8.l o;have a7:=Z.l o;obtain⟨-,⟨r0,r1,r2⟩,-⟩:=id a7;have a4:=aa a3 o;have ac:=K.rd.l o;obtain⟨ab,⟨d0,d1,d2⟩,f0,f1,f2⟩:=id a1))
  all_goals go_wp2
  have l5:=aD a1 (.bool a) (.slice z (Dg.dg 4294967296 q).length y) (.int .i64 (e+(k:Int)));have I:w.heap.size≤w.heap.size+1:=by omega
  have a5:=((a4.setCell (p:=⟨w.heap.size+1,0,none⟩) I (.bool a)).setCell (p:=⟨w.heap.size+1,1,none⟩) I (.slice z (Dg.dg 4294967296 q).length y)).setCell (p:=⟨w.heap.size+1,2,none⟩) I (.int .i64 (e+(k:Int)));have a9:=(K.l o).apart3 (b:=w.heap.size+1) a0.1 (.bool a) (.slice z (Dg.dg 4294967296 q).length y) (.int .i64 (e+(k:Int)));obtain⟨-,⟨g0,g1,g2⟩,-⟩:=l5;refine bodyPost_ret (v:= .agg #[.bool a,.slice z (Dg.dg 4294967296 q).length y,.int .i64 (e+(k:Int))]) (by simp[results,results155,go_sem,g0,g1,g2]) rfl ?_;exact⟨_,rfl,a9.lower E.size,a5⟩
def rf (R D L:Int)(gr qs:Bool)(N M:Nat)(E way:Int):Bool:=
 gY way (dm ((gF R D L gr N M E*2:Nat):Int) ((dX M (shP R D L gr N M E):Nat):Int)) (decide (cH R D L gr N M E % 2=1)) qs
def fM (R D L:Int)(gr qs:Bool)(N M:Nat)(E way:Int):Nat:=
 if decide (gF R D L gr N M E=0)=false∧rf R D L gr qs N M E way=true then cH R D L gr N M E+1 else cH R D L gr N M E
def cI (R D L G:Int)(gr qs:Bool)(N M:Nat)(E way:Int):fz:=
 if fM R D L gr qs N M E way=0 then⟨qs,0,0,decide (gF R D L gr N M E=0),false,decide (aT R D (dY N M E)<L)⟩
 else⟨qs,io R D (fM R D L gr qs N M E way),gD R D (fM R D L gr qs N M E way) (dj R D L gr N M E),decide (gF R D L gr N M E=0),decide (G<gD R D (fM R D L gr qs N M E way) (dj R D L gr N M E)),decide (aT R D (dY N M E)<L)⟩
theorem uh (R D L:Int)(gr:Bool)(N M:Nat)(E:Int)(a:1≤D)(c:N≠0)(b:M≠0)(p:Int):io R D (cH R D L gr N M E)=cH R D L gr N M E∧gD R D (cH R D L gr N M E) p=p:=by
 have h:=rP R D L gr N M E a c b;unfold io gD;rw[if_neg (by omega),if_neg (by omega)];exact⟨rfl,rfl⟩
theorem CD (R D:Int)(d:Nat):io R D d=0↔d=0:=by
 unfold io;have a:=bG (ai R*D.toNat);have b:=bG (ai R*(D-1).toNat)
 split<;>omega
theorem KL (R D L:Int)(gr qs:Bool)(N M:Nat)(E way:Int):cH R D L gr N M E≤fM R D L gr qs N M E way:=by
 unfold fM
 split<;>omega
theorem kJ {R D L G:Int}(gr qs:Bool)(N M:Nat)(E way:Int)(b:1≤D)(j:L≤G)(f:N≠0)(d:M≠0):
  cI R D L G gr qs N M E way=⟨qs,io R D (fM R D L gr qs N M E way),if io R D (fM R D L gr qs N M E way)=0 then 0 else gD R D (fM R D L gr qs N M E way) (dj R D L gr N M E),decide (gF R D L gr N M E=0),decide (G<gD R D (fM R D L gr qs N M E way) (dj R D L gr N M E)),decide (aT R D (dY N M E)<L)⟩:=by
 unfold cI
 by_cases a:fM R D L gr qs N M E way=0
 ·have i:cH R D L gr N M E=0:=by
   have:=KL R D L gr qs N M E way;omega
  have h:dj R D L gr N M E=L:=by
   refine Decidable.byContradiction fun c=> ?_
   have e:dj R D L gr N M E=aT R D (dY N M E):=by
    unfold dj at c⊢
    split at c
    ·exact absurd rfl c
    ·rw[if_neg (by assumption)]
   have:=Vf R D L gr N M E b f d e;omega
  have g:=uh R D L gr N M E b f d (dj R D L gr N M E);rw[if_pos a,a,if_pos ((CD R D 0).2 rfl),(CD R D 0).2 rfl];rw[i] at g;rw[g.2,h,decide_eq_false (show¬G<L by omega)]
 ·rw[if_neg a,if_neg (fun c=>a ((CD R D _).1 c))]
theorem KW (d b:Bool)(a:Int)(w:World):
  yC 105 #[yi 1,.bool d,.bool b,yi a] w fun z w'=>z= .returned (.bool (gY 1 a b d))∧w'=w:=by
 unfold gY
 by_cases h:0<a
 ·go_enter func105,ntmps105
  go_wp2
  go_ret
  simp
 ·by_cases c:a=0
  ·subst c
   cases b
   ·go_enter func105,ntmps105
    go_wp2
    go_ret
    simp
   ·go_enter func105,ntmps105
    go_wp2
    go_ret
    simp
  ·have e:(a==0)=false:=by simp;exact c
   go_enter func105,ntmps105
   go_wp2
   go_ret
   simp;omega
theorem KX (b c:Bool)(a:Int)(w:World):
  yC 105 #[yi 2,.bool b,.bool c,yi a] w fun z w'=>z= .returned (.bool (gY 2 a c b))∧w'=w:=by
 unfold gY
 go_enter func105,ntmps105
 go_wp2
 go_ret
 simp
theorem KY (b c:Bool)(a:Int)(w:World):
  yC 105 #[yi 3,.bool b,.bool c,yi a] w fun z w'=>z= .returned (.bool (gY 3 a c b))∧w'=w:=by
 unfold gY
 go_enter func105,ntmps105
 go_wp2
 go_ret
 simp
theorem KZ (b c:Bool)(a:Int)(w:World):
  yC 105 #[yi 4,.bool b,.bool c,yi a] w fun z w'=>z= .returned (.bool (gY 4 a c b))∧w'=w:=by
 unfold gY
 go_enter func105,ntmps105
 go_wp2
 go_ret
 simp
theorem K3 (b c:Bool)(a:Int)(w:World):
  yC 105 #[yi 5,.bool b,.bool c,yi a] w fun z w'=>z= .returned (.bool (gY 5 a c b))∧w'=w:=by
 unfold gY
 go_enter func105,ntmps105
 go_wp2
 go_ret
 simp
theorem Od {way:Int}(d:iC way=true)(b c:Bool)(a:Int)(w:World):
  yC 105 #[yi way,.bool b,.bool c,yi a] w fun z w'=>z= .returned (.bool (gY way a c b))∧w'=w:=by
 rcases zi d with rfl|rfl|rfl|rfl|rfl
 ·exact KW b c a w
 ·exact KX b c a w
 ·exact KY b c a w
 ·exact KZ b c a w
 ·exact K3 b c a w
theorem KS {R D L:Int}{gr qs:Bool}{N M:Nat}{E way:Int}(a:decide (gF R D L gr N M E=0)=false)(b:rf R D L gr qs N M E way=true):fM R D L gr qs N M E way=cH R D L gr N M E+1:=if_pos ⟨a,b⟩
theorem ZF {R D L:Int}{gr qs:Bool}{N M:Nat}{E way:Int}(h:decide (gF R D L gr N M E=0)=true∨rf R D L gr qs N M E way=false):fM R D L gr qs N M E way=cH R D L gr N M E:=by
 refine if_neg ?_;rintro⟨a,b⟩
 rcases h with h|h
 ·rw[a] at h
  cases h
 ·rw[b] at h
  cases h
theorem fives_any (k:Nat)(w:World)(j:k≤300000):yC 79 #[yi k] w (NmR w (5^k)):=by
 have d:=af w (.cells #[.int .u32 5] 105);have q:=ah w [.int .u32 5] 105;have e:Rd (w.alloc (.cells #[.int .u32 5] 105)) .u32 (.slice (some ⟨w.heap.size,0,none⟩) 1 1) (Dg.dg 4294967296 5):=by
  rw[show Dg.dg 4294967296 5=[5] by decide]
  exact⟨_,_,rfl,by simp,by unfold maxLen;simp,fun _=>⟨_,0,rfl,fun i g=>by
   obtain rfl:i=0:=by simpa using g
   exact q.c 0 rfl⟩⟩
 have a:Hid _:=Iq _ 5 k 1 _ e (by decide) (by omega) (by omega) (by omega);clear q e
 go_enter func79,ntmps79
 go_wp2_with fail
 refine Calls.mono a.out ?_;rintro z l ⟨v,rfl,o,b⟩;have f:=aa d b;have h:=o.rd;clear d b o a
 go_wp2
 go_ret
 exact⟨_,rfl,h,f⟩
theorem aaB (n f0 f1 f2 R D L G a2 wd PW E:Int)(gr ok ng:Bool)(p:Nat)(t:ak)(w:World)(ad:IntKind.i64.wrap (wd*D)=PW)(hE:IntKind.i64.wrap (wd*G)=E)(HF:yJ 15 #[yi n] (.tuple #[yhV f0 f1 f2 R D L G gr a2,.bool ok]))
  (HW:yJ 21 #[ygV R D L G gr] (yi wd))
  (HP: ∀f,yC 18 #[yi PW] f (cG f p))
  (HL: ∀W U q f,Rd f .i64 (yS W p U) (Dg.dg 65536 p)→f.cell? ⟨q,0,none⟩=some (yi 1)→yC 100 #[yS W p U,.slice (some ⟨q,0,none⟩) 1 1] f (cG f (p-1)))
  (HB: ∀W U f,Rd f .i64 (.slice W (Dg.dg 65536 (p-1)).length U) (Dg.dg 65536 (p-1))→yC 20 #[ydV ng (.slice W (Dg.dg 65536 (p-1)).length U) E] f (di f t)):
  yC 101 #[yi n,.bool ng] w (RVg w 2 ng t):=by
 replace HF:Hid _:=HF;replace HW:Hid _:=HW;replace HP:Hid _:=HP;replace HL:Hid _:=HL;replace HB:Hid _:=HB;have a0:=af w (.cells (yoA 0 false false yN 0) 30);have q0:=ah w (yoL 0 false false yN 0) 30
 go_enter func101,ntmps101
 go_wp2_with fail
 refine(HF.out _).mono ?_;rintro z f ⟨rfl,b1⟩;have h:=af f (.cells (yhA f0 f1 f2 R D L G gr a2) 56);have d2:=ah f (yhL f0 f1 f2 R D L G gr a2) 56;have q2:=(q0.l b1).l h;have b2:=aa (aa a0 b1) h;have ac:w.heap.size<f.heap.size:=(q0.l b1).lt;clear a0 q0 b1 h HF
 go_upto_region 2 with fail
 generalize f.alloc (.cells (yhA f0 f1 f2 R D L G gr a2) 56)=W2 at d2 q2 b2⊢;generalize f.heap.size=B at d2 ac⊢;obtain⟨x0,x1,x2,x3,x4,x5,x6,x7,x8⟩:=d2.cs9
 go_wp2_with fail
 refine(HW.out _).mono ?_;rintro z w3 ⟨rfl,b3⟩;have i:=aa b3 (Below.refl _ _).drew;have X:=d2.l i;have q3:=q2.l i;have Y:=aa b2 i;clear x0 x1 x2 x3 x4 x5 x6 x7 x8 d2 q2 b2 b3 i HW
 go_upto_region 3 with fail
 refine wp_region_held_drew (S:=(fun wq=>au wq B 56 (yhL f0 f1 f2 R D L G gr a2))) (by kernel_rfl) X (fun j=> ?_)
 generalize w3.drew=WD at X q3 Y j⊢;refine tq 0 (.bool ng) rfl (fun g _=>by kernel_rfl) j ?_
 refine tq 1 (.bool ng) rfl (fun g _=>by kernel_rfl) j ?_
 refine tq 2 (yi wd) rfl (fun g _=>by kernel_rfl) j ?_
 refine tq 3 (.pointer (some ⟨B,3,none⟩)) rfl (fun g _=>by kernel_rfl) j ?_
 refine tq 4 (.pointer (some ⟨B,4,none⟩)) rfl (fun g _=>by kernel_rfl) j ?_
 refine tq 5 (yi D) rfl (fun g a9=>gU 3 (.tmp 20) rfl B 4 (by kernel_rfl) _ _ underlying3 rfl (a9.c 4 rfl)) j ?_
 refine tq 6 (yi PW) rfl (fun g _=>by go_simp) j ?_
 refine tq 10 (yi wd) rfl (fun g _=>by kernel_rfl) j ?_
 refine tq 11 (.pointer (some ⟨B,3,none⟩)) rfl (fun g _=>by kernel_rfl) j ?_
 refine tq 12 (.pointer (some ⟨B,6,none⟩)) rfl (fun g _=>by kernel_rfl) j ?_
 refine tq 13 (yi G) rfl (fun g a9=>gU 3 (.tmp 28) rfl B 6 (by kernel_rfl) _ _ underlying3 rfl (a9.c 6 rfl)) j ?_
 refine tq 14 (yi E) rfl (fun g _=>by go_simp) j ?_
 refine wpAnyH_ready (rs:=[7,8]) (by kernel_rfl) (by simp) ?_;refine AllReadyH.cons rfl (fun K a=> ?_) (AllReadyH.cons rfl (fun K a=> ?_) AllReadyH.nil)
 ·skip
  go_simp
  refine(HP.out _).mono ?_;rintro z wp ⟨vp,rfl,T,o⟩;obtain⟨W,U,m⟩:=T.shape;subst m;have M:=X.l o;have qp:=q3.l o;have a1:=aa Y o;refine a.out _ _ M (fun ab=> ?_)
  clear a K o X q3 Y;refine wpAnyH_ready (rs:=[8]) (by kernel_rfl) (by simp) ?_;refine AllReadyH.cons rfl (fun K a=> ?_) AllReadyH.nil
  go_simp
  have h:=af wp (.cells #[yi 1] 3);have on:=(ah wp [yi 1] 3).c 0 rfl;have v:=M.l h;have O:=qp.l h;have F:=aa a1 h;have rn:=T.l h;refine a.out _ _ v (fun a8=> ?_)
  clear a K h M qp a1 T;generalize wp.alloc (.cells #[yi 1] 3)=WN at v O F on a8 rn⊢;generalize wp.heap.size=Q1 at on⊢;refine wpAnyH_ready (rs:=[9]) (by kernel_rfl) (by simp) ?_;refine AllReadyH.cons rfl (fun K a=> ?_) AllReadyH.nil
  go_simp
  refine(HL.out _ _ _ _ rn on).mono ?_;rintro z wl ⟨vl,rfl,Q,r⟩;obtain⟨lo,lc,m⟩:=Q.shape;subst m;have J:=v.l r;have ql:=O.l r;have C:=aa F r;refine a.out _ _ J (fun a7=> ?_)
  clear a K r v O F rn on;refine tq 15 ((ydV ng (.slice lo (Dg.dg 65536 (p-1)).length lc) E)) rfl (fun g _=>by kernel_rfl) a7 ?_
  refine wpAnyH_ready (rs:=[16]) (by kernel_rfl) (by simp) ?_;refine AllReadyH.cons rfl (fun K a=> ?_) AllReadyH.nil
  go_simp
  refine(HB.out _ _ _ Q).mono ?_;rintro z k ⟨vb,rfl,A,fb,i⟩;obtain⟨d,b,m⟩:=A.shape;subst m;have I:=J.l i;have y:=ql.l i;have Z:=aa C i;have a4:=fb.mono C.size;refine a.out _ _ I (fun a6=> ?_)
  clear a K i J ql C Q;refine tq 17 ((yoV 2 ng t.s (yS d t.n b) t.e)) rfl (fun g _=>by kernel_rfl) a6 ?_
  refine wpAnyH_ready (rs:=[18]) (by kernel_rfl) (by simp) ?_;refine AllReadyH.cons rfl (fun K a=> ?_) AllReadyH.nil
  rw[if_pos (by kernel_rfl)];have a3:k.there w.heap.size 0 5:=dD y;refine wp_store_mid 30 (.tmp 4) (.tmp 33) rfl w.heap.size 0 (yoA 2 ng t.s (yS d t.n b) t.e) (by kernel_rfl) (by kernel_rfl) a3 (by kernel_rfl) (by simp[Value.oneCell']) ?_;have u:But w.heap.size k (k.setCells w.heap.size 0 (yoL 2 ng t.s (yS d t.n b) t.e)):=de _ _ _ _;have dS:=u.loc I (by omega);have bS:=u.below Z (by omega);have rS:=u.rd A (cq A (Dg.norm_dg _ _ (by omega)) y (fun x hx n hn=>by simp at hx;rcases hx with rfl|rfl|rfl|rfl|rfl<;>simp;all_goals omega))
  have H:au (k.setCells w.heap.size 0 (yoL 2 ng t.s (yS d t.n b) t.e)) w.heap.size 30 (yoL 2 ng t.s (yS d t.n b) t.e):=(((((y.set 0 (yi 2)).set 1 (.bool ng)).set 2 (.bool t.s)).set 3 (yS d t.n b)).set 4 (yi t.e));refine a.out _ _ dS (fun a5=> ?_)
  clear a K u a3 I y Z A;refine wpAnyH_done (by kernel_rfl) ?_ _;clear a5;change Exit.then _ _ _ _ (World.setCells k w.heap.size 0 (yoL 2 ng t.s (yS d t.n b) t.e));generalize World.setCells k w.heap.size 0 (yoL 2 ng t.s (yS d t.n b) t.e)=WS at dS bS rS H⊢;simp only[Act.put,List.getElem_toArray,List.getElem_cons_succ,List.getElem_cons_zero,List.setIfInBounds_toArray,List.set_cons_zero,List.set_cons_succ];have N:=run_loadVar_mid (P:=Tryz.prog) _ w.heap.size 0 30 (yoL 2 ng t.s (yS d t.n b) t.e) _ H.range underlying30 rfl (by kernel_rfl);replace N:Hid _:=N;clear H
  go_wp2
  exact bodyPost_ret (br results101 rfl N.out) rfl ⟨_,rfl,rS,a4,bS⟩
 ·skip
  go_simp
  have h:=af WD (.cells #[yi 1] 3);have on:=(ah WD [yi 1] 3).c 0 rfl;have v:=X.l h;have O:=q3.l h;have F:=aa Y h;refine a.out _ _ v (fun a8=> ?_)
  clear a K h X q3 Y;generalize WD.alloc (.cells #[yi 1] 3)=WN at v O F on a8⊢;generalize WD.heap.size=Q1 at on⊢;refine wpAnyH_ready (rs:=[7]) (by kernel_rfl) (by simp) ?_;refine AllReadyH.cons rfl (fun K a=> ?_) AllReadyH.nil
  go_simp
  refine(HP.out _).mono ?_;rintro z wp ⟨vp,rfl,T,o⟩;obtain⟨W,U,m⟩:=T.shape;subst m;have M:=v.l o;have qp:=O.l o;have a1:=aa F o;have op:=cell_later o on;refine a.out _ _ M (fun ab=> ?_)
  clear a K o v O F on;refine wpAnyH_ready (rs:=[9]) (by kernel_rfl) (by simp) ?_;refine AllReadyH.cons rfl (fun K a=> ?_) AllReadyH.nil
  go_simp
  refine(HL.out _ _ _ _ T op).mono ?_;rintro z wl ⟨vl,rfl,Q,r⟩;obtain⟨lo,lc,m⟩:=Q.shape;subst m;have J:=M.l r;have ql:=qp.l r;have C:=aa a1 r;refine a.out _ _ J (fun a7=> ?_)
  clear a K r M qp a1 T op;refine tq 15 ((ydV ng (.slice lo (Dg.dg 65536 (p-1)).length lc) E)) rfl (fun g _=>by kernel_rfl) a7 ?_
  refine wpAnyH_ready (rs:=[16]) (by kernel_rfl) (by simp) ?_;refine AllReadyH.cons rfl (fun K a=> ?_) AllReadyH.nil
  go_simp
  refine(HB.out _ _ _ Q).mono ?_;rintro z k ⟨vb,rfl,A,fb,i⟩;obtain⟨d,b,m⟩:=A.shape;subst m;have I:=J.l i;have y:=ql.l i;have Z:=aa C i;have a4:=fb.mono C.size;refine a.out _ _ I (fun a6=> ?_)
  clear a K i J ql C Q;refine tq 17 ((yoV 2 ng t.s (yS d t.n b) t.e)) rfl (fun g _=>by kernel_rfl) a6 ?_
  refine wpAnyH_ready (rs:=[18]) (by kernel_rfl) (by simp) ?_;refine AllReadyH.cons rfl (fun K a=> ?_) AllReadyH.nil
  rw[if_pos (by kernel_rfl)];have a3:k.there w.heap.size 0 5:=dD y;refine wp_store_mid 30 (.tmp 4) (.tmp 33) rfl w.heap.size 0 (yoA 2 ng t.s (yS d t.n b) t.e) (by kernel_rfl) (by kernel_rfl) a3 (by kernel_rfl) (by simp[Value.oneCell']) ?_;have u:But w.heap.size k (k.setCells w.heap.size 0 (yoL 2 ng t.s (yS d t.n b) t.e)):=de _ _ _ _;have dS:=u.loc I (by omega);have bS:=u.below Z (by omega);have rS:=u.rd A (cq A (Dg.norm_dg _ _ (by omega)) y (fun x hx n hn=>by simp at hx;rcases hx with rfl|rfl|rfl|rfl|rfl<;>simp;all_goals omega))
  have H:au (k.setCells w.heap.size 0 (yoL 2 ng t.s (yS d t.n b) t.e)) w.heap.size 30 (yoL 2 ng t.s (yS d t.n b) t.e):=(((((y.set 0 (yi 2)).set 1 (.bool ng)).set 2 (.bool t.s)).set 3 (yS d t.n b)).set 4 (yi t.e));refine a.out _ _ dS (fun a5=> ?_)
  clear a K u a3 I y Z A;refine wpAnyH_done (by kernel_rfl) ?_ _;clear a5;change Exit.then _ _ _ _ (World.setCells k w.heap.size 0 (yoL 2 ng t.s (yS d t.n b) t.e));generalize World.setCells k w.heap.size 0 (yoL 2 ng t.s (yS d t.n b) t.e)=WS at dS bS rS H⊢;simp only[Act.put,List.getElem_toArray,List.getElem_cons_succ,List.getElem_cons_zero,List.setIfInBounds_toArray,List.set_cons_zero,List.set_cons_succ];have N:=run_loadVar_mid (P:=Tryz.prog) _ w.heap.size 0 30 (yoL 2 ng t.s (yS d t.n b) t.e) _ H.range underlying30 rfl (by kernel_rfl);replace N:Hid _:=N;clear H
  go_wp2
  exact bodyPost_ret (br results101 rfl N.out) rfl ⟨_,rfl,rS,a4,bS⟩
abbrev refDP_geq:=refDP_geq_mg.1
abbrev refDP_less:=refDP_geq_mg.2
theorem TI {w a:World}{h:Bool}{b:Nat}{e:Int}{d:Option Addr}{c:Nat}(g:au a (w.heap.size+1+1) 196 [yN,yi 0])(j:Own a w.heap.size 105 .u32 (yT d b c) (Dg.dg 4294967296 b))(i:yB w a):
  Xn w (.pointer (some ⟨a.heap.size,0,none⟩)) (.bool h) h b e (a.alloc (.cells #[yT d b c,yi e] 196)):=by
 have f:=af a (.cells #[yT d b c,yi e] 196);have:=g.lt;exact⟨_,d,c,rfl,rfl,by omega,by omega,ah a [yT d b c,yi e] 196,j.l f,g.l f,aa i f⟩
theorem acT (R D L G:Int)(gr s:Bool)(m:Option Addr)(r q:Nat)(e E P c:Int)(Z:Bool)(g:Nat)(h:Int)(w:World)
  (HA: ¬E=0→Z=false∧g=0∧h=0∧c=E) (HB:E=0→ ¬P=0→Z=false∧g=0∧h=0∧c=P) (HC:E=0→P=0→c=0)
  (HD:yH w 156 #[ydV s (.slice m r q) e] (yi E))
  (HG:yJ 116 #[ygV R D L G gr] (yi P))
  (HO:yJ 158 #[ydV s (.slice m r q) e] (ydV s (.slice m r q) e))
  (HF:E=0→P=0→ ∀w1,yB w w1→yC 157 #[ygV R D L G gr,ydV s (.slice m r q) e] w1 (D7 w1 Z g h)):
  yC 123 #[ydV s (.slice m r q) e,ygV R D L G gr] w (DM w Z g h c):=by
 replace HA:Hid _:=HA;replace HB:Hid _:=HB;replace HC:Hid _:=HC;replace HD:Hid _:=HD;replace HG:Hid _:=HG;replace HO:Hid _:=HO;replace HF:Hid _:=HF;have A:=aa (aa (af w (.cells (ydA s (.slice m r q) e) 41)) (af _ (.cells (ygA R D L G gr) 54))) (af _ (.cells #[yN,yi 0] 196));have C:=((ah w (ydL s (.slice m r q) e) 41).l (af _ (.cells (ygA R D L G gr) 54))).l (af _ (.cells #[yN,yi 0] 196));have M:=(ah (w.alloc (.cells (ydA s (.slice m r q) e) 41)) (ygL R D L G gr) 54).l (af _ (.cells #[yN,yi 0] 196));have K:=ah ((w.alloc (.cells (ydA s (.slice m r q) e) 41)).alloc (.cells (ygA R D L G gr) 54)) [yN,yi 0] 196;simp only[World.size_alloc] at M K
 by_cases a0:E=0
 ·have ad:Hid _:=HB.out a0
  have ae:Hid _:=HC.out a0;have al:Hid _:=HF.out a0;clear HA HB HC HF;subst a0
  by_cases a7:P=0
  ·have hc:=ae.out a7
   have an:Hid _:=al.out a7;clear ad ae al;subst a7 hc;obtain⟨T,U,W⟩:=C.cs3
   go_enter func123,ntmps123
   go_wp2_with fail
   refine(HD.out _ A).mono ?_;rintro z w2 ⟨rfl,a⟩;clear T U W;have F:=M.l a;have a1:=C.l a;have j:=K.l a;have J:=aa A a;clear M C K A a;obtain⟨x0,x1,x2,x3,x4⟩:=F.cs5
   go_wp2_with fail
   refine(HG.out _).mono ?_;rintro z d ⟨rfl,i⟩;have ab:=F.l i;have ac:=a1.l i;have p:=j.l i;have a2:=aa J i;clear F a1 j J i;clear x0 x1 x2 x3 x4;have cj:w.heap.size+1+1<d.heap.size:=p.lt;have be:yB d (d.alloc (.cells #[yN,yi 0] 196)).drew:=(af d (.cells #[yN,yi 0] 196)).drew;have aq:=ab.l be;have av:=ac.l be;have b2:=p.l be;have b5:=(ah d [yN,yi 0] 196).drew;have az:=aa a2 be;have a4:yB d d.drew:=(Below.refl _ _).drew;have ap:=ab.l a4;have ar:=ac.l a4;have b0:=p.l a4;have ay:=aa a2 a4;clear ab ac p a2 a4;obtain⟨x0,x1,x2,x3,x4⟩:=ap.cs5;obtain⟨T,U,W⟩:=ar.cs3;have bp:d.heap.size≠w.heap.size+1:=by omega
   have bq:d.heap.size≠w.heap.size:=by omega
   obtain⟨bt,bv,bw,bx,bz⟩:=aq.cs5;obtain⟨c5,c6,c7⟩:=av.cs3
   go_upto_region 7 with fail
   go_cut [9,10] (fun s9 bs wx=>Xn w s9 bs Z g h wx)
   case first=>
    go_wp2_with fail
    go_region_held3 (fun I=>(I.cell? ⟨w.heap.size+1,0,none⟩=some (yi R)∧I.cell? ⟨w.heap.size+1,1,none⟩=some (yi D)∧I.cell? ⟨w.heap.size+1,2,none⟩=some (yi L)∧I.cell? ⟨w.heap.size+1,3,none⟩=some (yi G)∧I.cell? ⟨w.heap.size+1,4,none⟩=some (.bool gr))∧I.cell? ⟨w.heap.size,0,none⟩=some (.bool s)∧I.cell? ⟨w.heap.size,1,none⟩=some (.slice m r q)∧I.cell? ⟨w.heap.size,2,none⟩=some (yi e)) (go_keep) (first
     | (go_at_call 158;refine(HO.out _).mono ?_;rintro z k ⟨rfl,o⟩;have N:=ap.l o;have Q:=ar.l o;have a5:=b0.l o;have n:=aa ay o;obtain⟨aw,c0,c2,c3,c4⟩:=N.cs5;obtain⟨ax,c8,cb⟩:=Q.cs3;have bl:=World.new_ne k _ aw;have bm:=World.new_ne k _ ax;have bh:=af k (.cells #[yN,yi 0] 196);have cc:=N.l bh;have cd:=Q.l bh;obtain⟨cs,ct,cv,cw,cx⟩:=cc.cs5;obtain⟨cy,cz,d2⟩:=cd.cs3)
     | (go_at_call 158;refine(HO.out _).mono ?_;rintro z k ⟨rfl,o⟩;have N:=aq.l o;have Q:=av.l o;have a5:=b2.l o;have b6:=b5.l o;have n:=aa az o;obtain⟨aw,c0,c2,c3,c4⟩:=N.cs5;obtain⟨ax,c8,cb⟩:=Q.cs3;have bl:=World.new_ne k _ aw;have bm:=World.new_ne k _ ax)
     | (go_at_call 157;have bo:=b6;clear bo;refine(an.out _ n).mono ?_;rintro z y ⟨u,rfl,H,b⟩;have oL:=H.lower n.size;have O:=N.l b;have S:=Q.l b;have a6:=a5.l b;have B:=b6.l b;have a3:=aa n b;obtain⟨x,t,hu⟩:=H.rd.shape;subst hu;obtain⟨a8,b7,b8,bc,bd⟩:=O.cs5;obtain⟨a9,bf,bg⟩:=S.cs3;have b3:=World.new_ne y _ a8;have b4:=World.new_ne y _ a9;obtain⟨d0,d1⟩:=B.cs2;have f0:=B.f 0;have f1:=B.f 1)
     | (go_at_call 157;refine(an.out _ n).mono ?_;rintro z y ⟨u,rfl,H,b⟩;have oL:=H.lower n.size;have O:=N.l b;have S:=Q.l b;have a6:=a5.l b;have a3:=aa n b;obtain⟨x,t,hu⟩:=H.rd.shape;subst hu;obtain⟨a8,b7,b8,bc,bd⟩:=O.cs5;obtain⟨a9,bf,bg⟩:=S.cs3;have b3:=World.new_ne y _ a8;have b4:=World.new_ne y _ a9;have bi:=af y (.cells #[yN,yi 0] 196);have ce:=O.l bi;have cg:=S.l bi;obtain⟨d3,d4,d5,d6,d7⟩:=ce.cs5;obtain⟨d9,da,db⟩:=cg.cs3;have bj:=af y (.cells #[yT x g t,yi h] 196);have ch:=O.l bj;have ci:=S.l bj;obtain⟨dd,dl,dn,dp,dq⟩:=ch.cs5;obtain⟨ds,dt,dv⟩:=ci.cs3)
     | (go_at_call 157;have bn:=af k (.cells #[yN,yi 0] 196);refine(an.out _ (aa n bn)).mono ?_;rintro z y ⟨u,rfl,H,b⟩;have oL:=H.lower (aa n bn).size;have ck:w.heap.size+1+1<k.heap.size:=a5.lt;have cp:k.heap.size≠w.heap.size+1:=(by omega);have cr:k.heap.size≠w.heap.size:=(by omega);have O:=(N.l bn).l b;have S:=(Q.l bn).l b;have a6:=(a5.l bn).l b;have B:=(ah k [yN,yi 0] 196).l b;have a3:=aa (aa n bn) b;obtain⟨x,t,hu⟩:=H.rd.shape;subst hu;obtain⟨a8,b7,b8,bc,bd⟩:=O.cs5;obtain⟨a9,bf,bg⟩:=S.cs3;have b3:=World.new_ne y _ a8;have b4:=World.new_ne y _ a9;obtain⟨d0,d1⟩:=B.cs2;have f0:=B.f 0;have f1:=B.f 1))
    all_goals (go_wp2_with fail)
    all_goals (first
     | (go_meet;exact TI a6 oL a3)
     | (go_meet;exact Is a6 B oL a3 (by omega) (by omega))
     | (go_meet;exact Is a6 B oL a3 (by omega) (by omega)))
   case rest=>
    obtain⟨pb,x,t,rfl,rfl,cn,co,n9,o9,Y,b9⟩:=hcut;clear ap ar b0 ay aq av b2 b5 az be bp bq x0 x1 x2 x3 x4 T U W bt bv bw bx bz c5 c6 c7;obtain⟨p0,p1⟩:=n9.cs2;have d0:=Y.c 0 rfl;have f0:=Y.f 0;have d1:=Y.c 1 rfl;have f1:=Y.f 1
    go_wp2
    have X:But (w.heap.size+1+1) wc ((wc.setCell ⟨w.heap.size+1+1,0,none⟩ (yT x g t)).setCell ⟨w.heap.size+1+1,1,none⟩ (yi h)):=(ag wc (w.heap.size+1+1) 0 (yT x g t)).trans (ag _ (w.heap.size+1+1) 1 (yi h));have cX:au ((wc.setCell ⟨w.heap.size+1+1,0,none⟩ (yT x g t)).setCell ⟨w.heap.size+1+1,1,none⟩ (yi h)) (w.heap.size+1+1) 196 [yT x g t,yi h]:=(Y.set 0 (yT x g t)).set 1 (yi h);have bX:=X.below b9 (show w.heap.size≤w.heap.size+1+1 by omega)
    have oX:=X.own o9 Y (by decide);obtain⟨s0,s1⟩:=cX.cs2;refine bodyPost_ret (v:= .tuple #[.agg #[yT x g t,yi h],.bool Z,yi 0]) (by simp[results,results123,go_sem,s0,s1]) rfl ?_;exact⟨_,rfl,oX,bX⟩
  ·obtain⟨h1,h2,h3,h4⟩:=ad.out a7
   clear ad ae al;have cm:(P==0)=false:=by simp[a7]
   subst h1 h2 h3 h4;obtain⟨T,U,W⟩:=C.cs3
   go_enter func123,ntmps123
   go_wp2_with fail
   refine(HD.out _ A).mono ?_;rintro z w2 ⟨rfl,a⟩;clear T U W;have F:=M.l a;have a1:=C.l a;have j:=K.l a;have J:=aa A a;clear M C K A a;obtain⟨x0,x1,x2,x3,x4⟩:=F.cs5
   go_wp2_with fail
   refine(HG.out _).mono ?_;rintro z d ⟨rfl,i⟩;have ab:=F.l i;have ac:=a1.l i;have p:=j.l i;have a2:=aa J i;clear F a1 j J i;clear x0 x1 x2 x3 x4;have d0:=p.c 0 rfl;have f0:=p.f 0;have d1:=p.c 1 rfl;have f1:=p.f 1
   go_wp2
   have X:But (w.heap.size+1+1) d ((d.setCell ⟨w.heap.size+1+1,0,none⟩ yN).setCell ⟨w.heap.size+1+1,1,none⟩ (yi 0)):=(ag d (w.heap.size+1+1) 0 yN).trans (ag _ (w.heap.size+1+1) 1 (yi 0));have cX:au ((d.setCell ⟨w.heap.size+1+1,0,none⟩ yN).setCell ⟨w.heap.size+1+1,1,none⟩ (yi 0)) (w.heap.size+1+1) 196 [yN,yi 0]:=(p.set 0 yN).set 1 (yi 0);have bX:=X.below a2 (show w.heap.size≤w.heap.size+1+1 by omega)
   obtain⟨s0,s1⟩:=cX.cs2;refine bodyPost_ret (v:= .tuple #[.agg #[yN,yi 0],.bool false,yi c]) (by simp[results,results123,go_sem,s0,s1]) rfl ?_;exact⟨_,rfl,aQ _ _ _ _,bX⟩
 ·obtain⟨h1,h2,h3,h4⟩:=HA.out a0
  clear HA HB HC HF;have cl:(E==0)=false:=by simp[a0]
  subst h1 h2 h3 h4;obtain⟨T,U,W⟩:=C.cs3
  go_enter func123,ntmps123
  go_wp2_with fail
  refine(HD.out _ A).mono ?_;rintro z w2 ⟨rfl,a⟩;clear T U W;have F:=M.l a;have a1:=C.l a;have j:=K.l a;have J:=aa A a;clear M C K A a;have d0:=j.c 0 rfl;have f0:=j.f 0;have d1:=j.c 1 rfl;have f1:=j.f 1
  go_wp2
  have X:But (w.heap.size+1+1) w2 ((w2.setCell ⟨w.heap.size+1+1,0,none⟩ yN).setCell ⟨w.heap.size+1+1,1,none⟩ (yi 0)):=(ag w2 (w.heap.size+1+1) 0 yN).trans (ag _ (w.heap.size+1+1) 1 (yi 0));have cX:au ((w2.setCell ⟨w.heap.size+1+1,0,none⟩ yN).setCell ⟨w.heap.size+1+1,1,none⟩ (yi 0)) (w.heap.size+1+1) 196 [yN,yi 0]:=(j.set 0 yN).set 1 (yi 0);have bX:=X.below J (show w.heap.size≤w.heap.size+1+1 by omega)
  obtain⟨s0,s1⟩:=cX.cs2;refine bodyPost_ret (v:= .tuple #[.agg #[yN,yi 0],.bool false,yi c]) (by simp[results,results123,go_sem,s0,s1]) rfl ?_;exact⟨_,rfl,aQ _ _ _ _,bX⟩
theorem jp.f {w:World}{base g n cap:Nat}{a:List Bool}(h:jp w base (.slice (some ⟨g,0,none⟩) n cap) a)(b:n=a.length)(j:Nat):w.frozen? ⟨g,j,none⟩=false:=by
 subst b;exact World.ownsRow.frozenAt h j
theorem jp.block {w:World}{base g n cap:Nat}{a:List Bool}(h:jp w base (.slice (some ⟨g,0,none⟩) n cap) a)(b:n=a.length):base≤g∧g<w.heap.size:=by
 subst b;exact World.ownsRow.lt h g rfl
theorem jp.c {w:World}{base g n cap:Nat}{a:List Bool}(h:jp w base (.slice (some ⟨g,0,none⟩) n cap) a)(e:n=a.length)(j:Nat)(b:j<a.length):w.cell? ⟨g,j,none⟩=some (.bool (a.getD j false)):=by
 subst e;have d:=World.ownsRow.cellAt h j (by omega);rw[d,List.getElem?_map,List.getElem?_eq_getElem b];simp[List.getD_eq_getElem?_getD,b]
theorem EnF.l {w W a:World}{c:Nat}{d fl:List Value}(h:EnF w c d fl W)(b:yB W a):EnF w c d fl a:=
 ⟨h.v.l b,h.z.l b,h.f.l b,aa h.b b⟩
theorem zZ {w w':World}{base e size k:Nat}{v:Value}{xs:List Value}(h:w.ownsRow base e size v k xs)(d:yB w w'):w'.ownsRow base e size v k xs:=by
 obtain⟨i,a⟩:=h;refine⟨i, ?_⟩
 rcases a with a| ⟨g,cap,c,j,f,b,r⟩
 ·exact .inl a
 ·refine .inr ⟨g,cap,c,j,f, ?_,r⟩
  rw[d.block g ?_]
  ·exact b
  ·rw[Array.getElem?_eq_some_iff] at b
   exact b.1
def Vz (w:World)(n:Int)(ps:List ByteArray)(i:Nat)(lv:Value)(wr:World):Prop:=
 ∃cs,wr.ownsRow w.heap.size 30 5 lv i cs∧tg wr n lv.ownBlock (ps.take i) cs∧fT n ps=fT n (ps.drop i)
structure ab5 (w:World) (n:Int) (ps:List ByteArray) (g cap:Nat):Prop where
 fit:ps.length≤cap
 most:cap≤maxLen
 each: ∀(i:Nat) p,ps[i]? =some p→ ∃so sc,w.rangeAt g (i*5) (rfC n p (.slice so (Dg.dg 65536 (rfT n p).n).length sc))∧Rd w .i64 (.slice so (Dg.dg 65536 (rfT n p).n).length sc) (Dg.dg 65536 (rfT n p).n)
theorem rd_one16 {w:World}{q:Nat}(h:w.cell? ⟨q,0,none⟩=some (yi 1)):Rd w .i64 (.slice (some ⟨q,0,none⟩) 1 1) [1]:=
 ⟨_,1,rfl,Nat.le_refl _,by unfold maxLen;omega,fun _=>⟨q,0,rfl,fun i a=>by
  obtain rfl:i=0:=by simpa using a
  exact h⟩⟩
theorem fives_int (k:Int)(w:World)(a:0≤k)(b:k≤300000):yC 79 #[yi k] w (NmR w (5^k.toNat)):=by
 have:=fives_any k.toNat w (by omega);rw[show((k.toNat:Nat):Int)=k by omega] at this
 exact this
theorem numeral_any (s:ByteArray)(w:World)(hs:s.size≤400):
  yC 57 #[.string s] w (NuAns s w):=by
 obtain⟨g,k0,L,hR,hL,hg,b2,u⟩:=dash_cases s;have HI:Hid (∀(k:Nat) (r:List UInt8) (t:World),RestAt s k r→yC 98 #[.string s,yi k] t fun e w'=>e= .returned (.bool (hdDg r))∧w'=t):=fun k r t h=>isDigit_at s k r t h (by omega)
 have HQ:Hid (∀g d p ok,((nuL L=none∧ok=false)∨ ∃D P,nuL L=some (D,P)∧Value.bool g= .bool (dash s)∧d=⟨D.toArray⟩∧p=P∧ok=true)→NuOk s g d p ok):=by
  intro g d p ok h;unfold NuOk;rw[hL]
  rcases h with h| ⟨D,P,h1,M,h3⟩
  ·exact .inl h
  ·exact .inr ⟨D,P,h1,by injection M,h3⟩
 have HR:Hid _:=hR;have HG:Hid _:=hg;have U:Hid _:=u;clear hR hL hg u
 go_enter func57,ntmps57
 go_upto_region 2 with fail
 go_cut [7] from 13 (fun v E=>E=w∧v= .bool g)
 case first=>
  rcases U.out with⟨rfl,rfl,h1,M⟩| ⟨rfl,rfl,h1| ⟨h1,M⟩⟩
  ·have a0: ∀w,(Instr.index 9 (.string s) (yi 0)).run Tryz.prog w= .ok (.int .u8 45) w:=by
    have:=li s 0 h1;rw[M] at this;exact this
   clear U M
   go_wp2_with fail
   go_meet
   exact⟨rfl,rfl⟩
  ·clear U
   go_wp2_with fail
   go_meet
   exact⟨rfl,rfl⟩
  ·have a0: ∀w,(Instr.index 9 (.string s) (yi 0)).run Tryz.prog w= .ok (.int .u8 ((byt s 0:Nat):Int)) w:=li s 0 h1
   have al:(((byt s 0:Nat):Int)==45)=false:=by
    rw[beq_eq_false_iff_ne];omega
   clear U M
   go_wp2_with fail
   go_meet
   exact⟨rfl,rfl⟩
 case rest=>
  obtain⟨rfl,rfl⟩:=hcut
  go_upto_if 21 with fail
  go_cut [6] from 13 (fun v E=>E=wc∧v=yi (k0:Int))
  case first=>
   rcases U.out with⟨rfl,rfl,-,-⟩| ⟨rfl,rfl,-⟩
   ·clear U
    go_wp2_with fail
    go_meet
    exact⟨rfl,rfl⟩
   ·clear U
    go_wp2_with fail
    go_meet
    exact⟨rfl,rfl⟩
  case rest=>
   obtain⟨rfl,rfl⟩:=hcut;clear U
   go_wp2_with fail
   go_loopw [6,8] (fun C dv wr=> ∃(k:Nat) (r d:List UInt8),C=yi k∧dv= .string ⟨d.toArray⟩∧RestAt s k r∧Dgs L d r∧d.length≤k∧wr=wc) (fun C _ _=>s.size-(intOf C).toNat)
   case atStart=>exact⟨k0,L,[],rfl,rfl,HR.out,dgs_start L,Nat.zero_le _,rfl⟩
   case round=>
    obtain⟨k,r,d,rfl,rfl,f,u,b1,rfl⟩:=hrel;have a:=HI.out k r wr f
    cases hh:hdDg r
    ·rw[hh] at a
     have G:=dgs_end u hh;replace G:Hid _:=G;replace a:Hid _:=a;replace f:Hid _:=f;clear u hh HR
     go_wp2_with fail
     refine Calls.mono a.out ?_;rintro z t ⟨rfl,rfl⟩;clear a
     go_upto_region 9 with fail
     obtain⟨pt,a5⟩: ∃B,decide (r.head? =some 46)=B:=⟨_,rfl⟩
     go_cut [45] from 13 (fun v E=>E=t∧v= .bool pt)
     case first=>
      cases r with
      |nil=>
       have H:=rest_nil f.out;obtain rfl:pt=false:=a5.symm;clear G a5
       go_wp2_with fail
       go_meet
       exact⟨rfl,rfl⟩
      |cons b r=>
       have a0:=at_is s k b r f.out;obtain⟨H,-,-,-⟩:=rest_cons f.out;have A:=head_is b 46 r;rw[show(((46:UInt8).toNat:Nat):Int)=46 from rfl] at A
       rw[a5] at A;clear a5;clear G
       go_wp2_with fail
       go_meet
       exact⟨rfl,rfl⟩
     case rest=>
      obtain⟨rfl,rfl⟩:=hcut
      go_upto_if 45 with fail
      go_cut [6,8,9] from 13 (fun C dv pv E=>E=wc∧ ∃(k:Nat) (r D:List UInt8) (P:Int),C=yi k∧dv= .string ⟨D.toArray⟩∧pv=yi P∧ -500<P∧P<500∧RestAt s k r∧Hid (nuL L=nuE D P r))
      case first=>
       have K:=a5;clear a5
       cases pt
       ·have l:nuL L=nuE d 0 r:=by
         unfold nuL;rw[G.out];exact if_neg (of_decide_eq_false K)
        replace l:Hid _:=l;clear G K
        go_wp2_with fail
        go_meet
        exact⟨rfl,k,r,d,0,rfl,rfl,rfl,by omega,by omega,f.out,l⟩
       ·obtain⟨S,rfl⟩: ∃S,r=46::S:=⟨r.tail,head_cons (of_decide_eq_true K)⟩
        obtain⟨H,-,a7,-⟩:=rest_cons f.out;have a:=HI.out (k+1) S wc a7;replace a7:Hid _:=a7
        cases hh:hdDg S
        ·have l:nuL L=none:=by
          rw[nuL_pt G.out (spD_stop hh)];rfl
         rw[hh] at a;replace l:Hid _:=l;replace a:Hid _:=a;clear G K hh f;have e1:IntKind.i64.wrap ((k:Int)+1)=((k+1:Nat):Int):=by rw[IntWalk.i64_in _ ⟨by omega,by omega⟩];omega
         go_wp2_with fail
         refine Calls.mono a.out ?_;rintro z t ⟨rfl,rfl⟩;clear a
         go_wp2_with fail
         (try simp only[Exit.inBlock,Exit.then])
         refine bodyPost_ret (results_tmp4 rfl _ _ _) rfl ?_;exact⟨rfl,_,_,_,_,rfl,HQ.out _ _ _ _ (.inl ⟨l.out,rfl⟩)⟩
        ·have ar:=dgs_start S
         rw[hh] at a;have l: ∀v T,v≠[]→spD S=(v,T)→nuL L=nuE (d++v) (-(v.length:Int)) T:=fun v T A hs=>by
          rw[nuL_pt G.out hs];exact if_neg A
         replace l:Hid _:=l;replace a:Hid _:=a;have ad:Hid _:=hh;clear G K hh f;have e1:IntKind.i64.wrap ((k:Int)+1)=((k+1:Nat):Int):=by rw[IntWalk.i64_in _ ⟨by omega,by omega⟩];omega
         go_wp2_with fail
         refine Calls.mono a.out ?_;rintro z t ⟨rfl,rfl⟩;clear a
         go_wp2_with fail
         go_loopw [6,8,9] (fun C dv pv wr=> ∃(j:Nat) (r v:List UInt8),C=yi j∧dv= .string ⟨(d++v).toArray⟩∧pv=yi (-(v.length:Int))∧RestAt s j r∧Dgs S v r∧(d++v).length≤j∧wr=t) (fun C _ _ _=>s.size-(intOf C).toNat)
         case atStart=>exact⟨k+1,S,[],rfl,by rw[List.append_nil],rfl,a7.out,ar,by rw[List.append_nil];omega,rfl⟩
         case round=>
          clear e1;obtain⟨j,r,v,rfl,rfl,rfl,f,u,ap,rfl⟩:=hrel;have a:=HI.out j r wr f;have hj:=f.1;have b3:v.length≤j:=by rw[List.length_append] at ap;omega
          cases hh:hdDg r
          ·rw[hh] at a
           have A:=dgs_end u hh;have ao:v≠[]:=by
            rintro rfl;have M:=ad.out
            cases S with
            |nil=>cases M
            |cons b r3=>
             have:=spD_cons (r:=r3) (show isDg b=true from M)
             rw[A] at this
             injection this with h3
             cases h3
           have o:=l.out v r ao A;replace o:Hid _:=o;replace a:Hid _:=a;replace f:Hid _:=f;clear u hh ad A ao l
           go_wp2_with fail
           refine Calls.mono a.out ?_;rintro z t ⟨rfl,rfl⟩;clear a
           go_wp2_with fail
           go_meet
           exact⟨rfl,j,r,d++v,_,rfl,rfl,rfl,by omega,by omega,f.out,o⟩
          ·rw[hh] at a
           cases r with
           |nil=>cases hh
           |cons b r=>
            obtain⟨H,-,i,-⟩:=rest_cons f;have F:=dgs_next u hh;have X:=slice_at s j b r (d++v) f;rw[List.append_assoc] at X;have an: -(v.length:Int)-1= -((v++[b]).length:Int):=by simp;omega
            have e2:IntKind.i64.wrap (-(v.length:Int)-1)= -((v++[b]).length:Int):=by rw[IntWalk.i64_in _ ⟨by omega,by omega⟩];exact an
            have az:(⟨(d++v).toArray⟩:ByteArray).size≤400:=by rw[mk_size];omega
            have b0:(s.extract j (j+1)).size≤1:=by rw[(rest_cons f).2.2.2];exact Nat.le_refl _
            have Z:(d++(v++[b])).length≤j+1:=by rw[←List.append_assoc,List.length_append];simp only[List.length_singleton];omega
            have aw:(v++[b]).length≤j+1:=by simp;omega
            generalize a9:(v++[b]).length=VL at e2 aw;replace Z:Hid _:=Z;replace a9:Hid _:=a9;replace F:Hid _:=F;replace a:Hid _:=a;replace i:Hid _:=i;replace X:Hid _:=X;clear f u hh an
            go_wp2_with fail
            refine Calls.mono a.out ?_;rintro z t ⟨rfl,rfl⟩;clear a
            go_wp2
            go_roundw
            case rel=>exact⟨j+1,r,v++[b],by go_num,by rw[←X.out],by rw[a9.out],i.out,F.out,Z.out,trivial⟩
            case measure=>simp[intOf];omega
      case rest=>
       obtain⟨rfl,J,T,D,P,rfl,rfl,rfl,p1,p2,i,l⟩:=hcut;clear f G;replace i:Hid _:=i
       by_cases Y:D=[]
       ·have o:nuL L=none:=by
         rw[l.out,Y];exact nuE_none _
        subst Y;replace o:Hid _:=o;clear l
        go_wp2_with fail
        (try simp only[Exit.inBlock,Exit.then])
        refine bodyPost_ret (results_tmp4 rfl _ _ _) rfl ?_;exact⟨rfl,_,_,_,_,rfl,HQ.out _ _ _ _ (.inl ⟨o.out,rfl⟩)⟩
       have al:D.isEmpty=false:=List.isEmpty_eq_false_iff.2 Y;replace Y:Hid _:=Y
       go_upto_region 19 with fail
       clear al;obtain⟨pe,a4⟩: ∃B,decide (T.head? =some 101)=B:=⟨_,rfl⟩
       go_cut [77] from 13 (fun v E=>E=wc∧v= .bool pe)
       case first=>
        clear l
        cases T with
        |nil=>
         have H:=rest_nil i.out;obtain rfl:pe=false:=a4.symm;clear a4
         go_wp2_with fail
         go_meet
         exact⟨rfl,rfl⟩
        |cons b r=>
         have a0:=at_is s J b r i.out;obtain⟨H,-,-,-⟩:=rest_cons i.out;have A:=head_is b 101 r;rw[show(((101:UInt8).toNat:Nat):Int)=101 from rfl] at A
         rw[a4] at A;clear a4
         go_wp2_with fail
         go_meet
         exact⟨rfl,rfl⟩
       case rest=>
        obtain⟨rfl,rfl⟩:=hcut
        go_upto_if 77 with fail
        go_cut [6,9] from 13 (fun C pv E=>E=wc∧ ∃(k:Nat) (r:List UInt8) (Q:Int),C=yi k∧pv=yi Q∧RestAt s k r∧Hid (nuL L=if r=[] then some (D,Q) else none))
        case first=>
         have K:=a4;clear a4
         cases pe
         ·have o:=l.out
          rw[nuE_other Y.out K] at o;replace o:Hid _:=o;clear l K
          go_wp2_with fail
          go_meet
          exact⟨rfl,J,T,P,rfl,rfl,i.out,o⟩
         ·obtain⟨y,rfl⟩: ∃y,T=101::y:=⟨T.tail,head_cons (of_decide_eq_true K)⟩
          obtain⟨H,-,hy,-⟩:=rest_cons i.out;obtain⟨m,W⟩: ∃m,decide (y.head? =some 45)=m:=⟨_,rfl⟩;have o: ∀v r,spD (if m=true then y.tail else y)=(v,r)→nuL L=if v.length<1∨5<v.length∨r≠[] then none else some (D,P+(if m=true then-(lvD v:Int) else(lvD v:Int))):=fun v r hs=>by
           rw[l.out];exact nuE_at Y.out W hs
          replace o:Hid _:=o;replace hy:Hid _:=hy;replace W:Hid _:=W;have e1:IntKind.i64.wrap ((J:Int)+1)=((J+1:Nat):Int):=by rw[IntWalk.i64_in _ ⟨by omega,by omega⟩];omega
          clear l K i
          go_upto_region 21 with fail
          go_cut [10] from 13 (fun v E=>E=wc∧v= .bool m)
          case first=>
           have a1:=W.out;have R:=hy.out
           cases y with
           |nil=>
            have ae:=rest_nil R;obtain rfl:m=false:=by rw[←a1];rfl
            clear a1 R
            go_wp2_with fail
            go_meet
            exact⟨rfl,rfl⟩
           |cons b r=>
            have a0:=at_is s (J+1) b r R;rw[show((J+1:Nat):Int)=(J:Int)+1 from by omega] at a0
            obtain⟨ae,-,-,-⟩:=rest_cons R;have A:=head_is b 45 r;rw[show(((45:UInt8).toNat:Nat):Int)=45 from rfl,a1] at A
            clear a1 R
            go_wp2_with fail
            go_meet
            exact⟨rfl,rfl⟩
          case rest=>
           obtain⟨rfl,rfl⟩:=hcut;clear e1
           go_upto_if 90 with fail
           go_cut [6] from 13 (fun v E=>E=wc∧ ∃k:Nat,v=yi k∧RestAt s k (if m=true then y.tail else y))
           case first=>
            cases m
            ·clear W o
             go_wp2_with fail
             go_meet
             exact⟨rfl,J+1,rfl,hy.out⟩
            ·have a1:=head_cons (of_decide_eq_true W.out)
             have R:=hy.out;rw[a1] at R;obtain⟨ae,-,ac,-⟩:=rest_cons R;replace ac:Hid _:=ac;have e1:IntKind.i64.wrap (((J+1:Nat):Int)+1)=((J+1+1:Nat):Int):=by rw[IntWalk.i64_in _ ⟨by omega,by omega⟩];omega
             clear W o a1 R
             go_wp2_with fail
             go_meet
             exact⟨rfl,J+1+1,by first|rfl|rw[←e1],ac.out⟩
           case rest=>
            obtain⟨rfl,k3,rfl,ab⟩:=hcut;generalize hz:(if m=true then y.tail else y)=z at ab o
            clear hy hz W;have aq:Hid _:=ab;clear ab
            go_wp2_with fail
            go_loopw [6,11,12] (fun C nv mv wr=> ∃(j n:Nat) (r v:List UInt8),C=yi j∧nv=yi n∧n<1000000∧Hid (n=lvD (v.take 6))∧mv=yi (v.length:Int)∧v.length≤j∧RestAt s j r∧Dgs z v r∧wr=wc) (fun C _ _ _=>s.size-(intOf C).toNat)
            case atStart=>exact⟨k3,0,z,[],rfl,rfl,by omega,rfl,rfl,by simp,aq.out,dgs_start z,rfl⟩
            case round=>
             obtain⟨j,n,r,v,rfl,rfl,ay,a2,rfl,ap,f,u,rfl⟩:=hrel;have a:=HI.out j r wr f;have hj:=f.1
             cases hh:hdDg r
             ·rw[hh] at a
              have A:=dgs_end u hh;have I:=o.out v r A;replace a:Hid _:=a;replace f:Hid _:=f;clear u hh A o
              by_cases c1:v.length<1
              ·rw[if_pos (.inl c1)] at I
               replace I:Hid _:=I;clear a2
               go_wp2_with fail
               refine Calls.mono a.out ?_;rintro z t ⟨rfl,rfl⟩;clear a
               go_wp2_with fail
               (try simp only[Exit.inBlock,Exit.then])
               refine bodyPost_ret (results_tmp4 rfl _ _ _) rfl ?_;exact⟨rfl,_,_,_,_,rfl,HQ.out _ _ _ _ (.inl ⟨I.out,rfl⟩)⟩
              by_cases c5:5<v.length
              ·rw[if_pos (.inr (.inl c5))] at I
               replace I:Hid _:=I;clear a2
               go_wp2_with fail
               refine Calls.mono a.out ?_;rintro z t ⟨rfl,rfl⟩;clear a
               go_wp2_with fail
               (try simp only[Exit.inBlock,Exit.then])
               refine bodyPost_ret (results_tmp4 rfl _ _ _) rfl ?_;exact⟨rfl,_,_,_,_,rfl,HQ.out _ _ _ _ (.inl ⟨I.out,rfl⟩)⟩
              have a6:lvD v=n:=by rw[a2.out,List.take_of_length_le (by omega)]
              rw[a6] at I;have N:nuL L=if r=[] then some (D,P+(if m=true then-(n:Int) else n)) else none:=by
               rw[I]
               by_cases c:r=[]
               ·rw[if_pos c,if_neg (fun h=>by rcases h with h|h|h;exact c1 h;exact c5 h;exact h c)]
               ·rw[if_neg c,if_pos (.inr (.inr c))]
              replace N:Hid _:=N;clear I a6 a2
              cases m
              ·have e2:IntKind.i64.wrap (P+(n:Int))=P+(n:Int):=IntWalk.i64_in _ ⟨by omega,by omega⟩
               go_wp2_with fail
               refine Calls.mono a.out ?_;rintro z t ⟨rfl,rfl⟩;clear a
               go_wp2_with fail
               go_meet
               exact⟨rfl,j,r,_,rfl,rfl,f.out,N⟩
              ·have e2:IntKind.i64.wrap (-(n:Int))= -(n:Int):=IntWalk.i64_in _ ⟨by omega,by omega⟩
               have e3:IntKind.i64.wrap (P+ -(n:Int))=P+ -(n:Int):=IntWalk.i64_in _ ⟨by omega,by omega⟩
               go_wp2_with fail
               refine Calls.mono a.out ?_;rintro z t ⟨rfl,rfl⟩;clear a
               go_wp2_with fail
               go_meet
               exact⟨rfl,j,r,_,rfl,rfl,f.out,N⟩
             ·rw[hh] at a
              cases r with
              |nil=>cases hh
              |cons b r=>
               obtain⟨H,-,i,-⟩:=rest_cons f;have a0:=at_is s j b r f;have F:=dgs_next u hh;have hb:=of_decide_eq_true (show isDg b=true from hh)
               have a3:(v++[b]).length=v.length+1:=by simp
               obtain⟨x,hx⟩: ∃x,b.toNat=x:=⟨_,rfl⟩;have ec:IntKind.i64.wrap (x:Int)=(x:Int):=IntWalk.i64_in _ ⟨by omega,by omega⟩;have eN:v.length<6→n*10+(x-48)<1000000∧n*10+(x-48)=lvD ((v++[b]).take 6):=fun c=>by
                have a6:n=lvD v:=by rw[a2.out,List.take_of_length_le (by omega)]
                have ax:=lvD_lt _ (v++[b]) rfl (by
                 have:=spD_dig z;unfold Dgs at F;rw[F] at this;exact fun c a=>this c (List.mem_append.2 (.inl a)))
                have h6:10^ (v++[b]).length≤10^6:=Nat.pow_le_pow_right (by omega) (by omega);rw[List.take_of_length_le (by omega),lvD_snoc,←a6,hx];rw[lvD_snoc,←a6,hx] at ax;exact⟨by omega,rfl⟩
               have eT: ¬v.length<6→n=lvD ((v++[b]).take 6):=fun c=>by
                rw[a2.out,List.take_append_of_le_length (by omega)]
               rw[hx] at a0 hb;replace hx:Hid _:=hx;replace F:Hid _:=F;replace a:Hid _:=a;replace i:Hid _:=i;replace a3:Hid _:=a3;replace eN:Hid _:=eN;replace eT:Hid _:=eT;clear f u hh o a2
               by_cases c6:v.length<6
               ·obtain⟨f1,f2⟩:=eN.out c6
                obtain⟨q,hq⟩: ∃q,n*10+(x-48)=q:=⟨_,rfl⟩;rw[hq] at f1 f2;have g1:10*(n:Int)+(x:Int)-48=(q:Int):=by omega
                have g2:IntKind.i64.wrap (10*(n:Int)+(x:Int))=10*(n:Int)+(x:Int):=IntWalk.i64_in _ ⟨by omega,by omega⟩;have g3:IntKind.i64.wrap (10*(n:Int))=10*(n:Int):=IntWalk.i64_in _ ⟨by omega,by omega⟩;have g4:IntKind.i64.wrap (q:Int)=(q:Int):=IntWalk.i64_in _ ⟨by omega,by omega⟩;replace f2:Hid _:=f2;clear hq eN eT
                go_wp2_with fail
                refine Calls.mono a.out ?_;rintro z t ⟨rfl,rfl⟩;clear a
                go_wp2
                go_roundw
                case rel=>exact⟨j+1,q,r,v++[b],by go_num,by go_num,f1,f2,by rw[a3.out];go_num,by rw[a3.out];omega,i.out,F.out,trivial⟩
                case measure=>simp[intOf];omega
               ·have f2:Hid _:=eT.out c6
                clear eN eT
                go_wp2_with fail
                refine Calls.mono a.out ?_;rintro z t ⟨rfl,rfl⟩;clear a
                go_wp2
                go_roundw
                case rel=>exact⟨j+1,n,r,v++[b],by go_num,rfl,ay,f2,by rw[a3.out];go_num,by rw[a3.out];omega,i.out,F.out,trivial⟩
                case measure=>simp[intOf];omega
        case rest=>
         obtain⟨rfl,k4,r4,Q,rfl,rfl,a8,N⟩:=hcut;clear l i
         cases r4 with
         |nil=>
          have H:=rest_nil a8;have O:=N.out;rw[if_pos rfl] at O;replace O:Hid _:=O;clear N a8;subst H
          go_wp2_with fail
          (try simp only[Exit.inBlock,Exit.then])
          refine bodyPost_ret (results_tmp4 rfl _ _ _) rfl ?_;exact⟨rfl,_,_,_,_,rfl,HQ.out _ _ _ _ (.inr ⟨D,Q,O.out,by rw[HG.out],rfl,rfl,by simp⟩)⟩
         |cons b r=>
          obtain⟨H,-,-,-⟩:=rest_cons a8;have O:=N.out;rw[if_neg (by simp)] at O;replace O:Hid _:=O;have hb:((k4:Int)==(s.size:Int))=false:=by rw[beq_eq_false_iff_ne];omega
          clear N a8
          go_wp2_with fail
          (try simp only[Exit.inBlock,Exit.then])
          refine bodyPost_ret (results_tmp4 rfl _ _ _) rfl ?_;exact⟨rfl,_,_,_,_,rfl,HQ.out _ _ _ _ (.inl ⟨O.out,by first|rfl|simp[hb]⟩)⟩
    ·rw[hh] at a
     cases r with
     |nil=>cases hh
     |cons b r=>
      obtain⟨H,-,i,-⟩:=rest_cons f;have F:=dgs_next u hh;have X:=slice_at s k b r d f;have az:(⟨d.toArray⟩:ByteArray).size≤400:=by rw[mk_size];omega
      have b0:(s.extract k (k+1)).size≤1:=by rw[(rest_cons f).2.2.2];exact Nat.le_refl _
      have Z:(d++[b]).length≤k+1:=by simp;omega
      replace Z:Hid _:=Z;replace F:Hid _:=F;replace a:Hid _:=a;replace i:Hid _:=i;replace X:Hid _:=X;clear f u hh
      go_wp2_with fail
      refine Calls.mono a.out ?_;rintro z t ⟨rfl,rfl⟩;clear a
      go_wp2
      go_roundw
      case rel=>exact⟨k+1,r,d++[b],by go_num,by rw[←X.out],i.out,F.out,Z.out,trivial⟩
      case measure=>simp[intOf];omega
end Go.Proofs.YtlhkndcmbpcpgaaGreatDoor
