/- Texts laid together. -/
import Derived.Test.YtlhkndcmbpcpgaaGreatDoorXs13
set_option maxRecDepth 100000
set_option maxHeartbeats 3200000
namespace Go.Proofs.YtlhkndcmbpcpgaaGreatDoor
open _root_.Go.Proofs.Tryz
open Go.RowKit
theorem lA (v:Value)(t:ak)(w:World)(hv:Rv w v t)(S:(Dg.dg 65536 t.n).length≤100000)(a8: -1000000≤t.e)(a9:t.e≤1000000):
  yC 20 #[v] w (di w (bare t)):=by
 obtain⟨s0,rfl,o⟩:=hv;obtain⟨ao,g,rfl⟩:=o.shape;obtain⟨f,n,e⟩:=t;simp only at o S a8 a9⊢
 by_cases C:n=0
 ·subst C
  rw[show Dg.dg 65536 0=[] from rfl] at o⊢
  rw[show bare ⟨f,0,e⟩=⟨false,0,0⟩ from by unfold bare;rfl]
  go_enter func20,ntmps20
  go_wp2
  go_returns
  exact⟨_,rfl,aN _ _,(fun a n c h=>by cases h),((Below.refl _ _).alloc (Nat.le_refl _) _).alloc (by simp[World.size_alloc]) _⟩
 ·have h0:(((Dg.dg 65536 n).length:Int)==0)=false:=by simp[Dg.dg_nil_iff 65536 n (by omega)];exact C
  have J:=Dg.small_dg 65536 n (by omega);have Y:=Dg.norm_dg 65536 n (by omega);have L:=Dg.vl_dg 65536 n (by omega);have I:Dg.dg 65536 n≠[]:=by rw[Ne,Dg.dg_nil_iff 65536 n (by omega)];exact C
  obtain⟨xs,hx⟩: ∃xs,Dg.dg 65536 n=xs:=⟨_,rfl⟩;rw[hx] at o S h0 J Y L I⊢;have W:0<xs.length:=List.length_pos_iff.2 I;have a3:Hid (xs.getD (xs.length-1) 0≠0):=Y I;obtain⟨-,-,a6⟩:=iQ o;obtain⟨b,i,a5,a7⟩:=a6 W;subst a5;have Q:=aa (af w (.cells (ydA f (.slice (some ⟨b,i,none⟩) xs.length g) e) 28)) (af _ (.cells (ydA false yN 0) 28))
  go_enter func20,ntmps20
  go_wp2
  go_loop [3] (fun s=> ∃k:Nat,k<xs.length∧s=yi ((16*k:Nat):Int)∧Hid (∀j,j<k→xs.getD j 0=0)) (fun s=>xs.length-(intOf s).toNat/16)
  case atStart=>exact⟨0,W,rfl,fun j H=>absurd H (Nat.not_lt_zero j)⟩
  case round=>
   obtain⟨k,U,rfl,a1⟩:=hrel;have hq:((16*k:Nat):Int)/16=(k:Int):=by omega
   have hc:=cell_later Q (a7 k U);have hl:=J k;obtain⟨x,M⟩: ∃x,xs.getD k 0=x:=⟨_,rfl⟩;rw[M] at hc hl;have D:Hid (xs.getD k 0=x):=M;clear M
   by_cases a0:x=0
   ·subst a0
    have ad:k+1<xs.length:=by
     rcases Nat.lt_or_ge (k+1) xs.length with h|h
     ·exact h
     ·exfalso
      have:k=xs.length-1:=by omega
      exact a3.out (by rw[←this];exact D.out)
    go_wp2
    go_round
    case rel=>exact⟨k+1,ad,by go_num,fun j H=>by
     by_cases e:j=k
     ·rw[e];exact D.out
     ·exact a1.out j (by omega)⟩
    case measure=>simp[intOf];omega
   ·have h1:((x:Int)==0)=false:=by simp;exact a0
    go_wp2
    have p:Below (((w.alloc (.cells (ydA f (.slice (some ⟨b,i,none⟩) xs.length g) e) 28)).alloc (.cells (ydA false yN 0) 28))).heap.size ((w.alloc (.cells (ydA f (.slice (some ⟨b,i,none⟩) xs.length g) e) 28)).alloc (.cells (ydA false yN 0) 28)) ((w.alloc (.cells (ydA f (.slice (some ⟨b,i,none⟩) xs.length g) e) 28)).alloc (.cells (ydA false yN 0) 28)).drew:=(Below.refl _ _).drew;have l1:=((aA w (.bool f) (.slice (some ⟨b,i,none⟩) xs.length g) (yi e) 28).l (af _ (.cells (ydA false yN 0) 28))).l p;have l2:=(aA (w.alloc (.cells (ydA f (.slice (some ⟨b,i,none⟩) xs.length g) e) 28)) (.bool false) yN (yi 0) 28).l p;have z2:=(dI (w.alloc (.cells (ydA f (.slice (some ⟨b,i,none⟩) xs.length g) e) 28)) 28).l p;rw[World.size_alloc] at l2 z2;have E:=aa Q p;clear p
    go_loop [3,4] (fun s F=> ∃j d:Nat,s=yi (16*(k:Int)+(j:Int))∧F=yi (d:Int)∧0<d∧d≤x∧Hid (x=2^j*d)∧j≤16) (fun _ F=>(intOf F).toNat)
    case atStart=>exact⟨0,x,by simp,rfl,by omega,Nat.le_refl _,by show x=2^0*x;simp,by omega⟩
    case round=>
     obtain⟨j,d,rfl,rfl,ap,aq,r,H⟩:=hrel
     by_cases ab:d % 2=0
     ·have e1:((d:Int) % 2==0)=true:=by simp;omega
      have ac:j+1≤16:=by
       rcases Nat.lt_or_ge j 16 with h|h
       ·exact h
       ·exfalso
        have h2:2^16≤2^j:=Nat.pow_le_pow_right (by omega) h;have G:2^j*1≤2^j*d:=Nat.mul_le_mul_left _ (by omega);rw[←r.out] at G;omega
      go_wp2
      go_round
      case rel=>exact⟨j+1,d/2,by go_num,by go_num,by omega,by omega,by
       show x=2^ (j+1)*(d/2)
       rw[Nat.pow_succ,Nat.mul_assoc,show 2*(d/2)=d from by omega]
       exact r.out,ac⟩
      case measure=>simp[intOf];omega
     ·have e1:((d:Int) % 2==0)=false:=by simp;omega
      obtain⟨m,X⟩: ∃m,d=2*m+1:=⟨d/2,by omega⟩;have T:j<16:=by
       rcases Nat.lt_or_ge j 16 with h|h
       ·exact h
       ·exfalso
        have h2:2^16≤2^j:=Nat.pow_le_pow_right (by omega) h;have G:2^j*1≤2^j*d:=Nat.mul_le_mul_left _ (by omega);rw[←r.out] at G;omega
      have K:=QY xs k j m U a1.out (by rw[D.out,←X];exact r.out) T;rw[L] at K;have O:Hid (bare ⟨f,n,e⟩=⟨f,n/2^ (16*k+j),e+(16*(k:Int)+(j:Int))⟩):=by
       show bare ⟨f,n,e⟩=_
       unfold bare;rw[if_neg C];simp only[K];rw[show((16*k+j:Nat):Int)=16*(k:Int)+(j:Int) from by omega]
      have P:Hid (∀A,yB w A→yC 53 #[.slice (some ⟨b,i,none⟩) xs.length g,yi (16*(k:Int)+(j:Int))] A (Si A (n/2^ (16*k+j)))):=fun A b1=>by
       have:=MD _ xs (16*k+j) k j _ _ A (o.l b1) J (by omega) rfl T (by omega) rfl rfl
       rwa [L,show((16*k+j:Nat):Int)=16*(k:Int)+(j:Int) from by omega] at this
      obtain⟨q,Z⟩: ∃q,n/2^ (16*k+j)=q:=⟨_,rfl⟩;rw[Z] at O P;have e5:IntKind.i64.wrap (e+(16*(k:Int)+(j:Int)))=e+(16*(k:Int)+(j:Int)):=IntWalk.i64_in _ ⟨by omega,by omega⟩;obtain⟨-,⟨c0,c1,c2⟩,-⟩:=id l1;have ne3:w.heap.size+1≠w.heap.size:=by omega
      clear Z K X r ab
      go_wp2
      go_region_held3 (fun N=>N.cell? ⟨w.heap.size,0,none⟩=some (.bool f)∧N.cell? ⟨w.heap.size,1,none⟩=some (.slice (some ⟨b,i,none⟩) xs.length g)∧N.cell? ⟨w.heap.size,2,none⟩=some (yi e)) (go_keep) (first
       | (go_at_call 53;refine(P.out _ E).mono ?_;rintro z w3 ⟨vs,rfl,r3,R,B⟩;have al:=l1.l B;have a2:=l2.l B;have an:=z2.l B;have a4:=aa E B;obtain⟨y,u,ae⟩:=r3.shape;subst ae;have HF:Hid (Far w.heap.size (yS y q u)):=R.mono E.size;clear R;obtain⟨-,⟨p0,p1,p2⟩,-⟩:=id al;obtain⟨ar,⟨d0,d1,d2⟩,f0,f1,f2⟩:=id a2))
      all_goals go_wp2
      obtain⟨-,⟨g0,g1,g2⟩,-⟩:=aD a2 (.bool f) (yS y q u) (yi (e+(16*(k:Int)+(j:Int))));have r7:=an.rd r3 (Dg.norm_dg _ _ (by omega)) (.bool f) (yS y q u) (yi (e+(16*(k:Int)+(j:Int))));have b8:=am a4 (show w.heap.size≤w.heap.size+1 by omega) (.bool f) (yS y q u) (yi (e+(16*(k:Int)+(j:Int))))
      refine bodyPost_ret (v:=(ydV f (yS y q u) (e+(16*(k:Int)+(j:Int))))) (by simp[results,results20,go_sem,g0,g1,g2]) rfl ?_
      show di w (bare ⟨f,n,e⟩) _ _
      rw[O.out];exact⟨_,rfl,r7,HF.out,b8⟩
theorem refDP_same (i p E da db ma mb:Int)(h:Bool)(z J:Option Addr)(g k y I:Nat)(X Y Z:Nat)(t:ak)(w:World)(hc:((g:Int)==0)=false∧((k:Int)==0)=false∧min i p=E∨((g:Int)==0)=true∧((k:Int)==0)=false∧p=E∨((g:Int)==0)=false∧((k:Int)==0)=true∧i=E∨((g:Int)==0)=true∧((k:Int)==0)=true∧i=E)(c2:IntKind.i64.wrap (i-E)=da)(c3:IntKind.i64.wrap (p-E)=db)(c4:max 0 da=ma)(c5:max 0 db=mb)
  (T: ∀b,yB w b→yC 93 #[.slice z g y,yi ma] b (cG b X))
  (U: ∀b,yB w b→yC 93 #[.slice J k I,yi mb] b (cG b Y))
  (R: ∀M L O N b,yB w b→Rd b .i64 (yS M X L) (Dg.dg 65536 X)→Rd b .i64 (yS O Y N) (Dg.dg 65536 Y)→yC 22 #[yS M X L,yS O Y N] b (cG b Z))
  (Q: ∀zo zc b,yB w b→Rd b .i64 (yS zo Z zc) (Dg.dg 65536 Z)→yC 20 #[ydV h (yS zo Z zc) E] b (Xi w.heap.size b t)):
  yC 62 #[ydV h (.slice z g y) i,ydV h (.slice J k I) p] w (di w t):=by
 replace T:Hid _:=T;replace U:Hid _:=U;replace R:Hid _:=R;replace Q:Hid _:=Q;obtain⟨W5,a1,q1,q2,q3,b4⟩:=lG w (ydL h (.slice z g y) i) 28 (ydL h (.slice J k I) p) 28 (ydL false yN 0) 28;replace a1:Hid _:=a1
 go_enter func62,ntmps62
 go_upto_region 1 with fail
 rw[a1.out];clear a1;have c7:=q1.c 1 rfl;have c8:=q1.c 2 rfl;have c9:=q2.c 1 rfl;have b9:=q2.c 2 rfl
 rcases hc with⟨al,an,D⟩| ⟨al,an,D⟩| ⟨al,an,D⟩| ⟨al,an,D⟩
 all_goals try rw[D] at c8
 all_goals try rw[D] at b9
 all_goals
  go_upto_region 6 with fail
  clear D;clear c7 c8 c9 b9;have G:yB W5 W5.drew:=(Below.refl _ _).drew;have a2:=q1.l G;have a3:=q2.l G;have ap:=q3.l G;have W:=aa b4 G;clear q1 q2 q3 b4 G;refine wp_region_held_drew (S:=fun wq=>au wq w.heap.size 28 (ydL h (.slice z g y) i)∧au wq (w.heap.size+1) 28 (ydL h (.slice J k I) p)) (by kernel_rfl) ⟨a2,a3⟩ (fun a=> ?_)
  generalize W5.drew=c0 at a2 a3 ap W a⊢;refine tq 0 (.pointer (some ⟨w.heap.size,1,none⟩)) rfl (fun _ _=>by kernel_rfl) a ?_
  refine tq 1 (.slice z g y) rfl (fun _ j=>gU 26 (.tmp 25) rfl w.heap.size 1 (by kernel_rfl) _ _ underlying26 rfl (j.1.c 1 rfl)) a ?_
  refine tq 2 (.pointer (some ⟨w.heap.size,2,none⟩)) rfl (fun _ _=>by kernel_rfl) a ?_
  refine tq 3 (yi i) rfl (fun _ j=>gU 3 (.tmp 27) rfl w.heap.size 2 (by kernel_rfl) _ _ underlying3 rfl (j.1.c 2 rfl)) a ?_
  refine tq 4 (yi E) rfl (fun _ _=>by kernel_rfl) a ?_
  refine tq 5 (yi da) rfl (fun _ _=>by go_simp) a ?_
  refine tq 6 (yi ma) rfl (fun _ _=>by go_simp) a ?_
  refine tq 8 (.pointer (some ⟨w.heap.size+1,1,none⟩)) rfl (fun _ _=>by kernel_rfl) a ?_
  refine tq 9 (.slice J k I) rfl (fun _ j=>gU 26 (.tmp 33) rfl (w.heap.size+1) 1 (by kernel_rfl) _ _ underlying26 rfl (j.2.c 1 rfl)) a ?_
  refine tq 10 (.pointer (some ⟨w.heap.size+1,2,none⟩)) rfl (fun _ _=>by kernel_rfl) a ?_
  refine tq 11 (yi p) rfl (fun _ j=>gU 3 (.tmp 35) rfl (w.heap.size+1) 2 (by kernel_rfl) _ _ underlying3 rfl (j.2.c 2 rfl)) a ?_
  refine tq 12 (yi E) rfl (fun _ _=>by kernel_rfl) a ?_
  refine tq 13 (yi db) rfl (fun _ _=>by go_simp) a ?_
  refine tq 14 (yi mb) rfl (fun _ _=>by go_simp) a ?_
  refine wpAnyH_ready (rs:=[7]) (by kernel_rfl) (by simp) ?_;refine AllReadyH.cons rfl (fun K d=> ?_) AllReadyH.nil
  go_simp
  refine(T.out _ W).mono ?_;rintro zz cd ⟨c6,rfl,az,H⟩;have aq:=a2.l H;have ar:=a3.l H;have bd:=ap.l H;have ab:=aa W H;obtain⟨M,L,q⟩:=az.shape;subst q;clear a2 a3 ap W H T;refine d.out _ _ ⟨aq,ar⟩ (fun bq=> ?_)
  clear d K;refine wpAnyH_ready (rs:=[15]) (by kernel_rfl) (by simp) ?_;refine AllReadyH.cons rfl (fun K d=> ?_) AllReadyH.nil
  go_simp
  refine(U.out _ ab).mono ?_;rintro zz b5 ⟨ca,rfl,b0,B⟩;have a4:=aq.l B;have av:=ar.l B;have be:=bd.l B;have bi:=az.l B;have b6:=aa ab B;obtain⟨O,N,q⟩:=b0.shape;subst q;clear aq ar bd az ab B U;refine d.out _ _ ⟨a4,av⟩ (fun ae=> ?_)
  clear d K;refine tq 16 (yS M X L) rfl (fun _ _=>by kernel_rfl) ae ?_
  refine tq 17 (yS O Y N) rfl (fun _ _=>by kernel_rfl) ae ?_
  refine wpAnyH_done (by kernel_rfl) ?_ _;clear a bq ae;simp only[Act.put,List.getElem_toArray,List.getElem_cons_succ,List.getElem_cons_zero,List.setIfInBounds_toArray,List.set_cons_zero,List.set_cons_succ];have bn:=a4.c 0 rfl;have bp:=av.c 0 rfl
  go_upto_region 8 with fail
  clear bn bp;have A:yB b5 b5.drew:=(Below.refl _ _).drew;have a5:=a4.l A;have aw:=be.l A;have a8:=bi.l A;have a9:=b0.l A;have a0:=aa b6 A;clear a4 av be bi b0 b6 A;refine wp_region_held_drew (S:=fun wq=>au wq w.heap.size 28 (ydL h (.slice z g y) i)) (by kernel_rfl) a5 (fun a=> ?_)
  generalize b5.drew=c1 at a5 aw a8 a9 a0 a⊢;refine tq 0 (.pointer (some ⟨w.heap.size,0,none⟩)) rfl (fun _ _=>by kernel_rfl) a ?_
  refine tq 1 (.bool h) rfl (fun _ j=>gU 4 (.tmp 46) rfl w.heap.size 0 (by kernel_rfl) _ _ underlying4 rfl (j.c 0 rfl)) a ?_
  refine tq 2 (yS M X L) rfl (fun _ _=>by kernel_rfl) a ?_
  refine tq 3 (yS O Y N) rfl (fun _ _=>by kernel_rfl) a ?_
  refine tq 5 (yi E) rfl (fun _ _=>by kernel_rfl) a ?_
  refine wpAnyH_ready (rs:=[4]) (by kernel_rfl) (by simp) ?_;refine AllReadyH.cons rfl (fun K d=> ?_) AllReadyH.nil
  go_simp
  refine(R.out _ _ _ _ _ a0 a8 a9).mono ?_;rintro zz ce ⟨cb,rfl,a6,C⟩;have ax:=a5.l C;have bf:=aw.l C;have bj:=a8.l C;have bl:=a9.l C;have ad:=aa a0 C;obtain⟨zo,zc,q⟩:=a6.shape;subst q;clear a5 aw a8 a9 a0 C R;refine d.out _ _ ax (fun ba=> ?_)
  clear d K;refine tq 6 (ydV h (yS zo Z zc) E) rfl (fun _ _=>by kernel_rfl) ba ?_
  refine wpAnyH_ready (rs:=[7]) (by kernel_rfl) (by simp) ?_;refine AllReadyH.cons rfl (fun K d=> ?_) AllReadyH.nil
  go_simp
  refine(Q.out _ _ _ ad a6).mono ?_;rintro zz F ⟨cc,rfl,a7,m,hF⟩;have ay:=ax.l m;have r:=bf.l m;have b1:=bj.l m;have b2:=bl.l m;have b3:=a6.l m;have b7:=aa ad m;obtain⟨v,u,q⟩:=a7.shape;subst q;clear ax bf bj bl a6 ad m Q;refine d.out _ _ ay (fun bs=> ?_)
  clear d K;refine wpAnyH_ready (rs:=[8]) (by kernel_rfl) (by simp) ?_;refine AllReadyH.cons rfl (fun K d=> ?_) AllReadyH.nil
  have o:But (w.heap.size+1+1) F (F.setCells (w.heap.size+1+1) 0 (ydL t.s (yS v t.n u) t.e)):=de _ _ _ _;have bb:F.there (w.heap.size+1+1) 0 3:=dD r;have bg:au (F.setCells (w.heap.size+1+1) 0 (ydL t.s (yS v t.n u) t.e)) (w.heap.size+1+1) 28 (ydL t.s (yS v t.n u) t.e):=r.sets _ rfl;have bv:=o.rd b1 (cq b1 (Dg.norm_dg _ _ (by omega)) r (fun x f n hn=>by simp at f;rcases f with rfl|rfl|rfl<;>simp;all_goals omega))
  have bw:=o.rd b2 (cq b2 (Dg.norm_dg _ _ (by omega)) r (fun x f n hn=>by simp at f;rcases f with rfl|rfl|rfl<;>simp;all_goals omega))
  have bx:=o.rd b3 (cq b3 (Dg.norm_dg _ _ (by omega)) r (fun x f n hn=>by simp at f;rcases f with rfl|rfl|rfl<;>simp;all_goals omega))
  have bm:=o.rd a7 (cq a7 (Dg.norm_dg _ _ (by omega)) r (fun x f n hn=>by simp at f;rcases f with rfl|rfl|rfl<;>simp;all_goals omega))
  have bh:=o.loc ay (by omega);have b8:=o.below b7 (by omega);rw[if_pos (by kernel_rfl)];refine wp_store_mid 28 (.tmp 4) (.tmp 53) rfl (w.heap.size+1+1) 0 (ydA t.s (yS v t.n u) t.e) (by kernel_rfl) (by kernel_rfl) bb (by kernel_rfl) (by simp[Value.oneCell']) ?_;refine d.out _ _ bh (fun bt=> ?_)
  clear d K;clear r b1 b2 b3 a7 ay b7 o bb;refine wpAnyH_done (by kernel_rfl) ?_ _;clear a ba bs bt;change Exit.then _ _ _ _ (World.setCells F (w.heap.size+1+1) 0 (ydL t.s (yS v t.n u) t.e));generalize World.setCells F (w.heap.size+1+1) 0 (ydL t.s (yS v t.n u) t.e)=bz at bh bg bv bw bx bm b8⊢;simp only[Act.put,List.getElem_toArray,List.getElem_cons_succ,List.getElem_cons_zero];have hl:=run_loadVar_mid (P:=Tryz.prog) _ (w.heap.size+1+1) 0 28 (ydL t.s (yS v t.n u) t.e) _ bg.range underlying28 rfl (by kernel_rfl)
  go_wp2
  exact bodyPost_ret (br results62 rfl hl) rfl ⟨_,rfl,bm,hF.out,b8⟩
end Go.Proofs.YtlhkndcmbpcpgaaGreatDoor
