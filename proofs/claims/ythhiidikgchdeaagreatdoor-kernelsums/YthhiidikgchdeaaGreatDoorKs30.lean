/- Texts laid together. -/
import Derived.Test.YthhiidikgchdeaaGreatDoorKs12
import Derived.Test.YthhiidikgchdeaaGreatDoorKs15
import Derived.Test.YthhiidikgchdeaaGreatDoorKs20
set_option maxRecDepth 100000
set_option maxHeartbeats 3200000
namespace Go.Proofs.YthhiidikgchdeaaGreatDoor
open _root_.Go.Proofs.Tryz
open Go.RowKit
theorem lA (v:Value)(t:ak)(w:World)(hv:Rv w v t)(S:(Dg.dg 65536 t.n).length≤100000)(a8: -1000000≤t.e)(a9:t.e≤1000000):
  yC 82 #[v] w (di w (bare t)):=by
 obtain⟨s0,rfl,o⟩:=hv;obtain⟨ao,g,rfl⟩:=o.shape;obtain⟨f,n,e⟩:=t;simp only at o S a8 a9⊢
 by_cases C:n=0
 ·subst C
  rw[show Dg.dg 65536 0=[] from rfl] at o⊢
  rw[show bare ⟨f,0,e⟩=⟨false,0,0⟩ from by unfold bare;rfl]
  go_enter func82,ntmps82
  go_wp2
  go_returns
  exact⟨_,rfl,aN _ _,(fun a n c h=>by cases h),((Below.refl _ _).alloc (Nat.le_refl _) _).alloc (by simp[World.size_alloc]) _⟩
 ·have h0:(((Dg.dg 65536 n).length:Int)==0)=false:=by simp[Dg.dg_nil_iff 65536 n (by omega)];exact C
  have J:=Dg.small_dg 65536 n (by omega);have Y:=Dg.norm_dg 65536 n (by omega);have L:=Dg.vl_dg 65536 n (by omega);have I:Dg.dg 65536 n≠[]:=by rw[Ne,Dg.dg_nil_iff 65536 n (by omega)];exact C
  obtain⟨xs,hx⟩: ∃xs,Dg.dg 65536 n=xs:=⟨_,rfl⟩;rw[hx] at o S h0 J Y L I⊢;have W:0<xs.length:=List.length_pos_iff.2 I;have a3:Hid (xs.getD (xs.length-1) 0≠0):=Y I;obtain⟨-,-,a6⟩:=iQ o;obtain⟨b,i,a5,a7⟩:=a6 W;subst a5;have Q:=aa (af w (.cells (ydA f (.slice (some ⟨b,i,none⟩) xs.length g) e) 59)) (af _ (.cells (ydA false yN 0) 59))
  go_enter func82,ntmps82
  go_wp2
  go_loop [3] (fun s=> ∃k:Nat,k<xs.length∧s=yi ((16*k:Nat):Int)∧Hid (∀j,j<k→xs.getD j 0=0)) (fun s=>xs.length-(intOf s).toNat/16)
  case atStart=>exact⟨0,W,rfl,fun j H=>absurd H (Nat.not_lt_zero j)⟩
  case round=>
   obtain⟨k,U,rfl,a1⟩:=hrel;have hq:((16*k:Nat):Int)/16=(k:Int):=by omega
   have hc:=cell_later Q (a7 k U);have hl:=J k;obtain⟨x,M⟩: ∃x,xs.getD k 0=x:=⟨_,rfl⟩;rw[M] at hc hl;have D:Hid (xs.getD k 0=x):=M;clear M
   by_cases a0:x=0
   ·subst a0
    have ae:k+1<xs.length:=by
     rcases Nat.lt_or_ge (k+1) xs.length with h|h
     ·exact h
     ·exfalso
      have:k=xs.length-1:=by omega
      exact a3.out (by rw[←this];exact D.out)
    go_wp2
    go_round
    case rel=>exact⟨k+1,ae,by go_num,fun j H=>by
     by_cases e:j=k
     ·rw[e];exact D.out
     ·exact a1.out j (by omega)⟩
    case measure=>simp[intOf];omega
   ·have h1:((x:Int)==0)=false:=by simp;exact a0
    go_wp2
    have p:Below (((w.alloc (.cells (ydA f (.slice (some ⟨b,i,none⟩) xs.length g) e) 59)).alloc (.cells (ydA false yN 0) 59))).heap.size ((w.alloc (.cells (ydA f (.slice (some ⟨b,i,none⟩) xs.length g) e) 59)).alloc (.cells (ydA false yN 0) 59)) ((w.alloc (.cells (ydA f (.slice (some ⟨b,i,none⟩) xs.length g) e) 59)).alloc (.cells (ydA false yN 0) 59)).drew:=(Below.refl _ _).drew;have l1:=((aA w (.bool f) (.slice (some ⟨b,i,none⟩) xs.length g) (yi e) 59).l (af _ (.cells (ydA false yN 0) 59))).l p;have l2:=(aA (w.alloc (.cells (ydA f (.slice (some ⟨b,i,none⟩) xs.length g) e) 59)) (.bool false) yN (yi 0) 59).l p;have z2:=(dI (w.alloc (.cells (ydA f (.slice (some ⟨b,i,none⟩) xs.length g) e) 59)) 59).l p;rw[World.size_alloc] at l2 z2;have E:=aa Q p;clear p
    go_loop [3,4] (fun s F=> ∃j d:Nat,s=yi (16*(k:Int)+(j:Int))∧F=yi (d:Int)∧0<d∧d≤x∧Hid (x=2^j*d)∧j≤16) (fun _ F=>(intOf F).toNat)
    case atStart=>exact⟨0,x,by simp,rfl,by omega,Nat.le_refl _,by show x=2^0*x;simp,by omega⟩
    case round=>
     obtain⟨j,d,rfl,rfl,aq,ar,r,H⟩:=hrel
     by_cases ac:d % 2=0
     ·have e1:((d:Int) % 2==0)=true:=by simp;omega
      have ad:j+1≤16:=by
       rcases Nat.lt_or_ge j 16 with h|h
       ·exact h
       ·exfalso
        have h2:2^16≤2^j:=Nat.pow_le_pow_right (by omega) h;have G:2^j*1≤2^j*d:=Nat.mul_le_mul_left _ (by omega);rw[←r.out] at G;omega
      go_wp2
      go_round
      case rel=>exact⟨j+1,d/2,by go_num,by go_num,by omega,by omega,by
       show x=2^ (j+1)*(d/2)
       rw[Nat.pow_succ,Nat.mul_assoc,show 2*(d/2)=d from by omega]
       exact r.out,ad⟩
      case measure=>simp[intOf];omega
     ·have e1:((d:Int) % 2==0)=false:=by simp;omega
      obtain⟨m,X⟩: ∃m,d=2*m+1:=⟨d/2,by omega⟩;have T:j<16:=by
       rcases Nat.lt_or_ge j 16 with h|h
       ·exact h
       ·exfalso
        have h2:2^16≤2^j:=Nat.pow_le_pow_right (by omega) h;have G:2^j*1≤2^j*d:=Nat.mul_le_mul_left _ (by omega);rw[←r.out] at G;omega
      have K:=QY xs k j m U a1.out (by rw[D.out,←X];exact r.out) T;rw[L] at K;have O:Hid (bare ⟨f,n,e⟩=⟨f,n/2^ (16*k+j),e+(16*(k:Int)+(j:Int))⟩):=by
       show bare ⟨f,n,e⟩=_
       unfold bare;rw[if_neg C];simp only[K];rw[show((16*k+j:Nat):Int)=16*(k:Int)+(j:Int) from by omega]
      have P:Hid (∀A,yB w A→yC 131 #[.slice (some ⟨b,i,none⟩) xs.length g,yi (16*(k:Int)+(j:Int))] A (Si A (n/2^ (16*k+j)))):=fun A b1=>by
       have:=MD _ xs (16*k+j) k j _ _ A (o.l b1) J (by omega) rfl T (by omega) rfl rfl
       rwa [L,show((16*k+j:Nat):Int)=16*(k:Int)+(j:Int) from by omega] at this
      obtain⟨q,Z⟩: ∃q,n/2^ (16*k+j)=q:=⟨_,rfl⟩;rw[Z] at O P;have e5:IntKind.i64.wrap (e+(16*(k:Int)+(j:Int)))=e+(16*(k:Int)+(j:Int)):=IntWalk.i64_in _ ⟨by omega,by omega⟩;obtain⟨-,⟨c0,c1,c2⟩,-⟩:=id l1;have ax:w.heap.size+1≠w.heap.size:=by omega
      clear Z K X r ac
      go_wp2
      go_region_held3 (fun N=>N.cell? ⟨w.heap.size,0,none⟩=some (.bool f)∧N.cell? ⟨w.heap.size,1,none⟩=some (.slice (some ⟨b,i,none⟩) xs.length g)∧N.cell? ⟨w.heap.size,2,none⟩=some (yi e)) (go_keep) (first
       | (go_at_call 131;refine(P.out _ E).mono ?_;rintro z w3 ⟨vs,rfl,r3,R,B⟩;have an:=l1.l B;have a2:=l2.l B;have ap:=z2.l B;have a4:=aa E B;obtain⟨y,u,al⟩:=r3.shape;subst al;have HF:Hid (Far w.heap.size (yS y q u)):=R.mono E.size;clear R;obtain⟨-,⟨p0,p1,p2⟩,-⟩:=id an;obtain⟨av,⟨d0,d1,d2⟩,f0,f1,f2⟩:=id a2))
      all_goals go_wp2
      obtain⟨-,⟨g0,g1,g2⟩,-⟩:=aD a2 (.bool f) (yS y q u) (yi (e+(16*(k:Int)+(j:Int))));have r7:=ap.rd r3 (Dg.norm_dg _ _ (by omega)) (.bool f) (yS y q u) (yi (e+(16*(k:Int)+(j:Int))));have b8:=am a4 (show w.heap.size≤w.heap.size+1 by omega) (.bool f) (yS y q u) (yi (e+(16*(k:Int)+(j:Int))))
      refine bodyPost_ret (v:=(ydV f (yS y q u) (e+(16*(k:Int)+(j:Int))))) (by simp[results,results82,go_sem,g0,g1,g2]) rfl ?_
      show di w (bare ⟨f,n,e⟩) _ _
      rw[O.out];exact⟨_,rfl,r7,HF.out,b8⟩
theorem Nt (s:Bool)(a:Option Addr)(c g:Nat)(e:Int)(t:Bool)(b:Option Addr)(d h:Nat)(f:Int)(n:Int)(x y:ak)(w:World)
  (P: ∀i,yB w i→yC 122 #[ydV s (.slice a g c) e,yi n,.bool false] i (Lx i x))
  (O: ∀i,yB w i→yC 122 #[ydV t (.slice b h d) f,yi n,.bool true] i (Lx i y)):
  yC 69 #[.agg #[.bool s,.slice a g c,yi e,.bool t,.slice b h d,yi f],yi n] w (aeT w x y):=by
 have Z:Hid _:=P;have H2:Hid _:=O;clear P O;obtain⟨xs,B,A⟩:=x;obtain⟨E,D,C⟩:=y;have M:=(aJ w (.bool s) (.slice a g c) (yi e) (.bool t) (.slice b h d) (yi f) 49).l (af _ (.cells #[.bool false,yN,yi 0,.bool false,yN,yi 0] 49));have H:=aJ (w.alloc (.cells #[.bool s,.slice a g c,yi e,.bool t,.slice b h d,yi f] 49)) (.bool false) yN (yi 0) (.bool false) yN (yi 0) 49;have I:=pM (w.alloc (.cells #[.bool s,.slice a g c,yi e,.bool t,.slice b h d,yi f] 49)) 49;have J:=aa (af w (.cells #[.bool s,.slice a g c,yi e,.bool t,.slice b h d,yi f] 49)) (af _ (.cells #[.bool false,yN,yi 0,.bool false,yN,yi 0] 49));simp only[World.size_alloc] at H I;obtain⟨W,K⟩: ∃W,((w.alloc (.cells #[.bool s,.slice a g c,yi e,.bool t,.slice b h d,yi f] 49)).alloc (.cells #[.bool false,yN,yi 0,.bool false,yN,yi 0] 49))=W:=⟨_,rfl⟩;rw[K] at M H I J;have o:yB W W.drew:=(Below.refl _ _).drew;have N:=M.l o;have Q:=H.l o;have X:=I.l o;have k:=aa J o;rw[←K] at N Q X k;clear M H I J o K;obtain⟨-,⟨c0,c1,c2,c3,c4,c5⟩,-⟩:=id N;have a2:w.heap.size+1≠w.heap.size:=by omega
 have a3:w.heap.size≠w.heap.size+1:=by omega
 go_enter func69,ntmps69
 go_wp2_with fail
 go_region_held3 (fun j=>j.cell? ⟨w.heap.size,0,none⟩=some (.bool s)∧j.cell? ⟨w.heap.size,1,none⟩=some (.slice a g c)∧j.cell? ⟨w.heap.size,2,none⟩=some (yi e)∧j.cell? ⟨w.heap.size,3,none⟩=some (.bool t)∧j.cell? ⟨w.heap.size,4,none⟩=some (.slice b h d)∧j.cell? ⟨w.heap.size,5,none⟩=some (yi f)) (go_keep) (first
  | (go_at_call 122;have L:=k;clear L;refine(Z.out _ k).mono ?_;rintro z w3 ⟨v3,rfl,T,G⟩;have S:=N.l G;have k3:=Q.l G;have z3:=X.l G;have F:=aa k G;obtain⟨q,p,hp⟩:=T.shape;subst hp;obtain⟨-,⟨d0,d1,d2,d3,d4,d5⟩,-⟩:=id S;clear k)
  | (go_at_call 122;have L:=F;clear L;refine(H2.out _ F).mono ?_;rintro z w4 ⟨v4,rfl,U,m⟩;have a1:=T.l m;have l4:=S.l m;have R:=k3.l m;have Y:=z3.l m;have a0:=aa F m;obtain⟨u,r,hq⟩:=U.shape;subst hq;obtain⟨-,⟨e0,e1,e2,e3,e4,e5⟩,-⟩:=id l4;obtain⟨hl,⟨v0,v1,v2,v3,v4,v5⟩,f0,f1,f2,f3,f4,f5⟩:=id R;clear F))
 all_goals go_wp2
 obtain⟨-,⟨u0,u1,u2,u3,u4,u5⟩,-⟩:=bP R (.bool xs) (yT q B p) (yi A) (.bool E) (yT u D r) (yi C);have bb:=aW a0 (show w.heap.size≤w.heap.size+1 by omega) (.bool xs) (yT q B p) (yi A) (.bool E) (yT u D r) (yi C)
 have r5:=Y.rd32 a1 (.bool xs) (yT q B p) (yi A) (.bool E) (yT u D r) (yi C);have r6:=Y.rd32 U (.bool xs) (yT q B p) (yi A) (.bool E) (yT u D r) (yi C);refine bodyPost_ret (v:= .agg #[.bool xs,yT q B p,yi A,.bool E,yT u D r,yi C]) (by simp[results,results69,go_sem,u0,u1,u2,u3,u4,u5]) rfl ?_;exact⟨_,_,rfl,r5,r6,bb⟩
theorem spanMinus_W (a b p q:ak)(u C f h:Option Addr)(t B d g:Nat)(x y:ak)(w:World)
  (E:yJ 102 #[.agg #[.bool p.s,yT f p.n d,yi p.e,.bool q.s,yT h q.n g,yi q.e]] (.agg #[.bool (!q.s),yT h q.n g,yi q.e,.bool (!p.s),yT f p.n d,yi p.e]))
  (F: ∀w1,yB w w1→yC 103 #[.agg #[.bool a.s,yT u a.n t,yi a.e,.bool b.s,yT C b.n B,yi b.e],.agg #[.bool (!q.s),yT h q.n g,yi q.e,.bool (!p.s),yT f p.n d,yi p.e]] w1 (aeT w1 x y)):
  yC 126 #[.agg #[.bool a.s,yT u a.n t,yi a.e,.bool b.s,yT C b.n B,yi b.e],.agg #[.bool p.s,yT f p.n d,yi p.e,.bool q.s,yT h q.n g,yi q.e]] w (aeT w x y):=by
 replace E:Hid _:=E;replace F:Hid _:=F;obtain⟨N,H,q1,q2,q3,b4⟩:=lG w [.bool a.s,yT u a.n t,yi a.e,.bool b.s,yT C b.n B,yi b.e] 49 [.bool p.s,yT f p.n d,yi p.e,.bool q.s,yT h q.n g,yi q.e] 49 [.bool false,yN,yi 0,.bool false,yN,yi 0] 49;replace H:Hid _:=H
 go_enter func126,ntmps126
 go_upto_region 1 with fail
 rw[H.out];clear H
 go_upto_region 1 with fail
 have v:yB N N.drew:=(Below.refl _ _).drew;have I:=q1.l v;have J:=q2.l v;have U:=q3.l v;have O:=aa b4 v;clear q1 q2 q3 b4 v;refine wp_region_held_drew (S:=fun wq=>au wq w.heap.size 49 [.bool a.s,yT u a.n t,yi a.e,.bool b.s,yT C b.n B,yi b.e]∧au wq (w.heap.size+1) 49 [.bool p.s,yT f p.n d,yi p.e,.bool q.s,yT h q.n g,yi q.e]) (by kernel_rfl) ⟨I,J⟩ (fun G=> ?_)
 generalize N.drew=an at I J U O G⊢;refine tq 0 (.agg #[.bool a.s,yT u a.n t,yi a.e,.bool b.s,yT C b.n B,yi b.e]) rfl (fun _ T=>fy 49 (.tmp 2) rfl w.heap.size 0 (by kernel_rfl) _ _ T.1.range underlying49 rfl (by kernel_rfl)) G ?_
 refine tq 1 (.agg #[.bool p.s,yT f p.n d,yi p.e,.bool q.s,yT h q.n g,yi q.e]) rfl (fun _ T=>fy 49 (.tmp 3) rfl (w.heap.size+1) 0 (by kernel_rfl) _ _ T.2.range underlying49 rfl (by kernel_rfl)) G ?_
 refine wpAnyH_ready (rs:=[2]) (by kernel_rfl) (by simp) ?_;refine AllReadyH.cons rfl (fun K c=> ?_) AllReadyH.nil
 go_simp
 refine(E.out _).mono ?_;rintro zz ar ⟨rfl,z⟩;have W:=I.l z;have X:=J.l z;have a3:=U.l z;have Q:=aa O z;clear I J U O z E;refine c.out _ _ ⟨W,X⟩ (fun a9=> ?_)
 clear c K;refine wpAnyH_ready (rs:=[3]) (by kernel_rfl) (by simp) ?_;refine AllReadyH.cons rfl (fun K c=> ?_) AllReadyH.nil
 go_simp
 refine(F.out _ Q).mono ?_;rintro zz r ⟨ap,aq,rfl,L,M,A⟩;have Y:=W.l A;have Z:=X.l A;have D:=a3.l A;have a0:=aa Q A;obtain⟨j,i,R⟩:=L.shape;subst R;obtain⟨m,k,R⟩:=M.shape;subst R;clear W X a3 Q A F;refine c.out _ _ ⟨Y,Z⟩ (fun ad=> ?_)
 clear c K;refine wpAnyH_ready (rs:=[4]) (by kernel_rfl) (by simp) ?_;refine AllReadyH.cons rfl (fun K c=> ?_) AllReadyH.nil
 have o:But (w.heap.size+1+1) r (r.setCells (w.heap.size+1+1) 0 [.bool x.s,yT j x.n i,yi x.e,.bool y.s,yT m y.n k,yi y.e]):=de _ _ _ _;have a2:r.there (w.heap.size+1+1) 0 6:=dD D;have a4:au (r.setCells (w.heap.size+1+1) 0 [.bool x.s,yT j x.n i,yi x.e,.bool y.s,yT m y.n k,yi y.e]) (w.heap.size+1+1) 49 [.bool x.s,yT j x.n i,yi x.e,.bool y.s,yT m y.n k,yi y.e]:=D.sets _ rfl;have a7:=o.rd L (aX L D (by simp));have a8:=o.rd M (aX M D (by simp));have a5:=o.loc Y (by omega);have a6:=o.loc Z (by omega);have a1:=o.below a0 (by omega);rw[if_pos (by kernel_rfl)];refine wp_store_mid 49 (.tmp 4) (.tmp 8) rfl (w.heap.size+1+1) 0 #[.bool x.s,yT j x.n i,yi x.e,.bool y.s,yT m y.n k,yi y.e] (by kernel_rfl) (by kernel_rfl) a2 (by kernel_rfl) (by simp[Value.oneCell']) ?_;refine c.out _ _ ⟨a5,a6⟩ (fun ae=> ?_)
 clear c K;clear D L M Y Z a0 o a2;refine wpAnyH_done (by kernel_rfl) ?_ _;clear G a9 ad ae;change Exit.then _ _ _ _ (World.setCells r (w.heap.size+1+1) 0 [.bool x.s,yT j x.n i,yi x.e,.bool y.s,yT m y.n k,yi y.e]);generalize World.setCells r (w.heap.size+1+1) 0 [.bool x.s,yT j x.n i,yi x.e,.bool y.s,yT m y.n k,yi y.e]=al at a5 a6 a4 a7 a8 a1⊢;simp only[Act.put,List.getElem_toArray,List.getElem_cons_succ,List.getElem_cons_zero];have hl:=run_loadVar_mid (P:=Tryz.prog) _ (w.heap.size+1+1) 0 49 [.bool x.s,yT j x.n i,yi x.e,.bool y.s,yT m y.n k,yi y.e] _ a4.range underlying49 rfl (by kernel_rfl)
 go_wp2
 exact bodyPost_ret (br results126 rfl hl) rfl ⟨_,_,rfl,a7,a8,a1⟩
theorem ent5 (w:World)(b:List Value)(f:TypeId)(c:List Value)(g:TypeId)(d:List Value)(h:TypeId)(e:List Value)(i:TypeId)(j:List Value)(k:TypeId): ∃W,((((w.alloc (.cells b.toArray f)).alloc (.cells c.toArray g)).alloc (.cells d.toArray h)).alloc (.cells e.toArray i)).alloc (.cells j.toArray k)=W∧au W w.heap.size f b∧au W (w.heap.size+1) g c∧au W (w.heap.size+1+1) h d∧au W (w.heap.size+1+1+1) i e∧au W (w.heap.size+1+1+1+1) k j∧yB w W:=by
 obtain⟨W,rfl,o,p,q,r,n⟩:=pi w b f c g d h e i;have m:=ah ((((w.alloc (.cells b.toArray f)).alloc (.cells c.toArray g)).alloc (.cells d.toArray h)).alloc (.cells e.toArray i)) j k;have a:=af ((((w.alloc (.cells b.toArray f)).alloc (.cells c.toArray g)).alloc (.cells d.toArray h)).alloc (.cells e.toArray i)) (.cells j.toArray k);rw[World.size_alloc,World.size_alloc,World.size_alloc,World.size_alloc] at m;exact⟨_,rfl,o.l a,p.l a,q.l a,r.l a,m,aa n a⟩
end Go.Proofs.YthhiidikgchdeaaGreatDoor
