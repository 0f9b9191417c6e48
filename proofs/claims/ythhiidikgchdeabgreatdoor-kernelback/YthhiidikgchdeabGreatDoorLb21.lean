/- Texts laid together. -/
import Derived.Test.YthhiidikgchdeabGreatDoorLb13
import Derived.Test.YthhiidikgchdeabGreatDoorLb14
import Derived.Test.YthhiidikgchdeabGreatDoorLb15
import Derived.Test.YthhiidikgchdeabGreatDoorLb16
set_option maxRecDepth 100000
set_option maxHeartbeats 1600000
namespace Go.Proofs.YthhiidikgchdeabGreatDoor
open _root_.Go.Proofs.Tryz
open Go.RowKit
theorem Gl (v:Value)(n:Nat)(w:World)(f:Rd w .u32 v (Dg.dg 4294967296 n))(G:(Dg.dg 4294967296 n).length≤1000000000)(H:Tab w):
  yC 107 #[v] w fun e w'=>e= .returned (yi ((if n=0 then 0 else tz n:Nat):Int))∧w'=w:=by
 have o:=Dg.small_dg 4294967296 n (by omega);have g:=Dg.vl_dg 4294967296 n (by omega);have p:(∀j,(Dg.dg 4294967296 n).getD j 0=0)→n=0:=fun h=>by rw[←g];exact Dg.vl_zeros _ _ h
 obtain⟨xs,a⟩: ∃xs,Dg.dg 4294967296 n=xs:=⟨_,rfl⟩;rw[a] at f o g p G;obtain⟨L,M,rfl⟩:=f.shape;obtain⟨O,P,y⟩:=iQ f;have F:Hid (∀k,xs.length≤k→(∀j,j<k→xs.getD j 0=0)→n=0):=fun k J h=>p (fun j=>by
  by_cases d:j<k
  ·exact h j d
  ·simp[List.getD_eq_getElem?_getD,show xs.length≤j from by omega])
 have s:Hid _:=g;clear a p g f
 go_enter func107,ntmps107
 go_wp2
 go_loop [7] (fun r=> ∃k:Nat,k≤xs.length∧r=yi k∧Hid (∀j,j<k→xs.getD j 0=0)) (fun r=>xs.length-(intOf r).toNat)
 case atStart=>exact⟨0,Nat.zero_le _,rfl,fun j d=>absurd d (Nat.not_lt_zero j)⟩
 case round=>
  obtain⟨k,J,rfl,q⟩:=hrel
  by_cases B:k<xs.length
  ·obtain⟨b,Q,rfl,z⟩:=y (by omega)
   have I:=z k B;have A:=o k;obtain⟨x,a⟩: ∃x,xs.getD k 0=x:=⟨_,rfl⟩;rw[a] at I A;have l:Hid _:=a;clear a z y
   by_cases i:x=0
   ·subst i
    go_wp2
    go_round
    case rel=>exact⟨k+1,by omega,by go_num,fun j d=>by
     by_cases e:j=k
     ·rw[e];exact l.out
     ·exact q.out j (by omega)⟩
    case measure=>simp[intOf];omega
   ·have D:=Zw x w A i H
    have N:((x:Int)==0)=false:=by simp;exact i
    go_wp2_with fail
    refine D.mono ?_;rintro e w' ⟨t,m,rfl,E,K,rfl⟩;have c:=Zx xs k t m B q.out (by rw[l.out];exact E) K;rw[s.out] at c;have C:n≠0:=by
     intro e;have u:=adl 4294967296 xs k (by omega) o (by rw[s.out];exact e);rw[l.out] at u;exact i u
    clear D E
    go_wp2
    go_ret
    refine⟨?_,rfl⟩
    first|rfl| (rw[c];rfl)| (simp only[c];rfl)| (show Ending.returned (Value.int IntKind.i64 (32*(k:Int)+(t:Int)))=_;rw[c];rfl)
  ·have C:=F.out k (by omega) q.out
   go_wp2
   go_ret
   subst C;exact⟨rfl,rfl⟩
theorem lA (v:Value)(t:ak)(w:World)(hv:Rv w v t)(S:(Dg.dg 65536 t.n).length≤100000)(a8: -1000000≤t.e)(a9:t.e≤1000000):
  yC 48 #[v] w (di w (bare t)):=by
 obtain⟨s0,rfl,o⟩:=hv;obtain⟨ao,g,rfl⟩:=o.shape;obtain⟨f,n,e⟩:=t;simp only at o S a8 a9⊢
 by_cases C:n=0
 ·subst C
  rw[show Dg.dg 65536 0=[] from rfl] at o⊢
  rw[show bare ⟨f,0,e⟩=⟨false,0,0⟩ from by unfold bare;rfl]
  go_enter func48,ntmps48
  go_wp2
  go_returns
  exact⟨_,rfl,aN _ _,(fun a n c h=>by cases h),((Below.refl _ _).alloc (Nat.le_refl _) _).alloc (by simp[World.size_alloc]) _⟩
 ·have h0:(((Dg.dg 65536 n).length:Int)==0)=false:=by simp[Dg.dg_nil_iff 65536 n (by omega)];exact C
  have J:=Dg.small_dg 65536 n (by omega);have Y:=Dg.norm_dg 65536 n (by omega);have L:=Dg.vl_dg 65536 n (by omega);have I:Dg.dg 65536 n≠[]:=by rw[Ne,Dg.dg_nil_iff 65536 n (by omega)];exact C
  obtain⟨xs,hx⟩: ∃xs,Dg.dg 65536 n=xs:=⟨_,rfl⟩;rw[hx] at o S h0 J Y L I⊢;have W:0<xs.length:=List.length_pos_iff.2 I;have a3:Hid (xs.getD (xs.length-1) 0≠0):=Y I;obtain⟨-,-,a6⟩:=iQ o;obtain⟨b,i,a5,a7⟩:=a6 W;subst a5;have Q:=aa (af w (.cells (ydA f (.slice (some ⟨b,i,none⟩) xs.length g) e) 43)) (af _ (.cells (ydA false yN 0) 43))
  go_enter func48,ntmps48
  go_wp2
  go_loop [3] (fun s=> ∃k:Nat,k<xs.length∧s=yi ((16*k:Nat):Int)∧Hid (∀j,j<k→xs.getD j 0=0)) (fun s=>xs.length-(intOf s).toNat/16)
  case atStart=>exact⟨0,W,rfl,fun j H=>absurd H (Nat.not_lt_zero j)⟩
  case round=>
   obtain⟨k,U,rfl,a1⟩:=hrel;have hq:((16*k:Nat):Int)/16=(k:Int):=by omega
   have hc:=cell_later Q (a7 k U);have hl:=J k;obtain⟨x,M⟩: ∃x,xs.getD k 0=x:=⟨_,rfl⟩;rw[M] at hc hl;have D:Hid (xs.getD k 0=x):=M;clear M
   by_cases a0:x=0
   ·subst a0
    have ae:k+1<xs.length:=by
     rcases Nat.lt_or_ge (k+1) xs.length with h|h
     ·exact h
     ·exfalso
      have:k=xs.length-1:=by omega
      exact a3.out (by rw[←this];exact D.out)
    go_wp2
    go_round
    case rel=>exact⟨k+1,ae,by go_num,fun j H=>by
     by_cases e:j=k
     ·rw[e];exact D.out
     ·exact a1.out j (by omega)⟩
    case measure=>simp[intOf];omega
   ·have h1:((x:Int)==0)=false:=by simp;exact a0
    go_wp2
    have p:Below (((w.alloc (.cells (ydA f (.slice (some ⟨b,i,none⟩) xs.length g) e) 43)).alloc (.cells (ydA false yN 0) 43))).heap.size ((w.alloc (.cells (ydA f (.slice (some ⟨b,i,none⟩) xs.length g) e) 43)).alloc (.cells (ydA false yN 0) 43)) ((w.alloc (.cells (ydA f (.slice (some ⟨b,i,none⟩) xs.length g) e) 43)).alloc (.cells (ydA false yN 0) 43)).drew:=(Below.refl _ _).drew;have l1:=((aA w (.bool f) (.slice (some ⟨b,i,none⟩) xs.length g) (yi e) 43).l (af _ (.cells (ydA false yN 0) 43))).l p;have l2:=(aA (w.alloc (.cells (ydA f (.slice (some ⟨b,i,none⟩) xs.length g) e) 43)) (.bool false) yN (yi 0) 43).l p;have z2:=(dI (w.alloc (.cells (ydA f (.slice (some ⟨b,i,none⟩) xs.length g) e) 43)) 43).l p;rw[World.size_alloc] at l2 z2;have E:=aa Q p;clear p
    go_loop [3,4] (fun s F=> ∃j d:Nat,s=yi (16*(k:Int)+(j:Int))∧F=yi (d:Int)∧0<d∧d≤x∧Hid (x=2^j*d)∧j≤16) (fun _ F=>(intOf F).toNat)
    case atStart=>exact⟨0,x,by simp,rfl,by omega,Nat.le_refl _,by show x=2^0*x;simp,by omega⟩
    case round=>
     obtain⟨j,d,rfl,rfl,aq,ar,r,H⟩:=hrel
     by_cases ac:d % 2=0
     ·have e1:((d:Int) % 2==0)=true:=by simp;omega
      have ad:j+1≤16:=by
       rcases Nat.lt_or_ge j 16 with h|h
       ·exact h
       ·exfalso
        have h2:2^16≤2^j:=Nat.pow_le_pow_right (by omega) h;have G:2^j*1≤2^j*d:=Nat.mul_le_mul_left _ (by omega);rw[←r.out] at G;omega
      go_wp2
      go_round
      case rel=>exact⟨j+1,d/2,by go_num,by go_num,by omega,by omega,by
       show x=2^ (j+1)*(d/2)
       rw[Nat.pow_succ,Nat.mul_assoc,show 2*(d/2)=d from by omega]
       exact r.out,ad⟩
      case measure=>simp[intOf];omega
     ·have e1:((d:Int) % 2==0)=false:=by simp;omega
      obtain⟨m,X⟩: ∃m,d=2*m+1:=⟨d/2,by omega⟩;have T:j<16:=by
       rcases Nat.lt_or_ge j 16 with h|h
       ·exact h
       ·exfalso
        have h2:2^16≤2^j:=Nat.pow_le_pow_right (by omega) h;have G:2^j*1≤2^j*d:=Nat.mul_le_mul_left _ (by omega);rw[←r.out] at G;omega
      have K:=QY xs k j m U a1.out (by rw[D.out,←X];exact r.out) T;rw[L] at K;have O:Hid (bare ⟨f,n,e⟩=⟨f,n/2^ (16*k+j),e+(16*(k:Int)+(j:Int))⟩):=by
       show bare ⟨f,n,e⟩=_
       unfold bare;rw[if_neg C];simp only[K];rw[show((16*k+j:Nat):Int)=16*(k:Int)+(j:Int) from by omega]
      have P:Hid (∀A,yB w A→yC 88 #[.slice (some ⟨b,i,none⟩) xs.length g,yi (16*(k:Int)+(j:Int))] A (Si A (n/2^ (16*k+j)))):=fun A b1=>by
       have:=MD _ xs (16*k+j) k j _ _ A (o.l b1) J (by omega) rfl T (by omega) rfl rfl
       rwa [L,show((16*k+j:Nat):Int)=16*(k:Int)+(j:Int) from by omega] at this
      obtain⟨q,Z⟩: ∃q,n/2^ (16*k+j)=q:=⟨_,rfl⟩;rw[Z] at O P;have e5:IntKind.i64.wrap (e+(16*(k:Int)+(j:Int)))=e+(16*(k:Int)+(j:Int)):=IntWalk.i64_in _ ⟨by omega,by omega⟩;obtain⟨-,⟨c0,c1,c2⟩,-⟩:=id l1;have ax:w.heap.size+1≠w.heap.size:=by omega
      clear Z K X r ac
      go_wp2
      go_region_held3 (fun N=>N.cell? ⟨w.heap.size,0,none⟩=some (.bool f)∧N.cell? ⟨w.heap.size,1,none⟩=some (.slice (some ⟨b,i,none⟩) xs.length g)∧N.cell? ⟨w.heap.size,2,none⟩=some (yi e)) (go_keep) (first
       | (go_at_call 88;refine(P.out _ E).mono ?_;rintro z w3 ⟨vs,rfl,r3,R,B⟩;have an:=l1.l B;have a2:=l2.l B;have ap:=z2.l B;have a4:=aa E B;obtain⟨y,u,al⟩:=r3.shape;subst al;have HF:Hid (Far w.heap.size (yS y q u)):=R.mono E.size;clear R;obtain⟨-,⟨p0,p1,p2⟩,-⟩:=id an;obtain⟨av,⟨d0,d1,d2⟩,f0,f1,f2⟩:=id a2))
      all_goals go_wp2
      obtain⟨-,⟨g0,g1,g2⟩,-⟩:=aD a2 (.bool f) (yS y q u) (yi (e+(16*(k:Int)+(j:Int))));have r7:=ap.rd r3 (Dg.norm_dg _ _ (by omega)) (.bool f) (yS y q u) (yi (e+(16*(k:Int)+(j:Int))));have b8:=am a4 (show w.heap.size≤w.heap.size+1 by omega) (.bool f) (yS y q u) (yi (e+(16*(k:Int)+(j:Int))))
      refine bodyPost_ret (v:=(ydV f (yS y q u) (e+(16*(k:Int)+(j:Int))))) (by simp[results,results48,go_sem,g0,g1,g2]) rfl ?_
      show di w (bare ⟨f,n,e⟩) _ _
      rw[O.out];exact⟨_,rfl,r7,HF.out,b8⟩
theorem Ac (v u:Value)(a b:ak)(w:World)(hv:Dv w v a)(hu:Dv w u b)(S:(Dg.dg 4294967296 a.n).length≤200000000)(T:(Dg.dg 4294967296 b.n).length≤200000000)
  (a8: -2000000000≤a.e) (a9:a.e≤2000000000) (ac: -2000000000≤b.e) (ad:b.e≤2000000000):
  Calls Tryz.prog 31 #[v,u] w (jN w (aK a b)):=by
 obtain⟨s0,rfl,H⟩:=hv;obtain⟨k,r,rfl⟩:=H.shape;obtain⟨s1,rfl,I⟩:=hu;obtain⟨q,s,rfl⟩:=I.shape;obtain⟨f,B,c⟩:=a;obtain⟨g,bn,d⟩:=b;simp only at H I S T a8 a9 ac ad⊢;have Q:Hid (∀A,Below w.heap.size w A→Calls Tryz.prog 66 #[.slice k (Dg.dg 4294967296 B).length r,.slice q (Dg.dg 4294967296 bn).length s] A (Num A (B*bn))):=fun A R=>by
  have:=qC _ _ _ _ A (H.l R) (I.l R) (Dg.small_dg _ _ (by omega)) (Dg.small_dg _ _ (by omega)) (by omega) (by omega);rw[Dg.vl_dg _ _ (by omega),Dg.vl_dg _ _ (by omega)] at this;exact this
 unfold aK;simp only;obtain⟨X,N⟩: ∃X,B*bn=X:=⟨_,rfl⟩;obtain⟨F,O⟩: ∃m,(Dg.dg 4294967296 B).length=m:=⟨_,rfl⟩;obtain⟨G,P⟩: ∃m,(Dg.dg 4294967296 bn).length=m:=⟨_,rfl⟩;rw[N,O,P] at Q;rw[N,O,P];clear N O P H I S T;obtain⟨h,i,t,J,sW⟩:=ju w (.bool f) (.slice k F r) (.int .i64 c) (.bool g) (.slice q G s) (.int .i64 d) (.bool false) (.slice none 0 0) (.int .i64 0) 48 48 48;clear sW;obtain⟨W,M⟩: ∃W,(((w.alloc (.cells #[.bool f,.slice k F r,.int .i64 c] 48)).alloc (.cells #[.bool g,.slice q G s,.int .i64 d] 48)).alloc (.cells #[.bool false,.slice none 0 0,.int .i64 0] 48))=W:=⟨_,rfl⟩;rw[M] at h i t J;have p:Below W.heap.size W W.drew:=(Below.refl _ _).drew;have h:=h.l p;have i:=i.l p;have t:=t.l p;have K:=aa J p;rw[←M] at h i t K;clear p J M;obtain⟨-,⟨ax,ay,az⟩,-⟩:=id h;obtain⟨-,⟨b0,b2,b7⟩,-⟩:=id i;have ba:w.heap.size+1+1≠w.heap.size:=by omega
 have bb:w.heap.size≠w.heap.size+1+1:=by omega
 have e4:IntKind.i64.wrap (c+d)=c+d:=IntWalk.i64_in _ ⟨by omega,by omega⟩
 go_enter func31,ntmps31
 go_wp2_with fail
 go_region_held3 (fun j=>(j.cell? ⟨w.heap.size,0,none⟩=some (.bool f)∧j.cell? ⟨w.heap.size,1,none⟩=some (.slice k F r)∧j.cell? ⟨w.heap.size,2,none⟩=some (.int .i64 c))∧j.cell? ⟨w.heap.size+1,0,none⟩=some (.bool g)∧j.cell? ⟨w.heap.size+1,1,none⟩=some (.slice q G s)∧j.cell? ⟨w.heap.size+1,2,none⟩=some (.int .i64 d)) (go_keep) (first
  | (go_at_call 65;refine(cN f k F r c _).mono ?_;rintro z w3 ⟨rfl,C⟩;have U:=h.l C;have a0:=i.l C;have ar:=t.l C;have a5:=aa K C;obtain⟨-,⟨p0,p1,p2⟩,-⟩:=id U;obtain⟨-,⟨p3,p4,p5⟩,-⟩:=id a0;clear K)
  | (go_at_call 65;refine(cN g q G s d w3).mono ?_;rintro z w4 ⟨rfl,D⟩;have Y:=U.l D;have a1:=a0.l D;have a3:=ar.l D;have L:=aa a5 D;obtain⟨-,⟨q0,q1,q2⟩,-⟩:=id Y;obtain⟨-,⟨q3,q4,q5⟩,-⟩:=id a1)
  | (go_at_call 66;refine(Q.out w4 L).mono ?_;rintro z w5 ⟨vs,rfl,o5,E⟩;have Z:=Y.l E;have a2:=a1.l E;have av:=a3.l E;have a6:=aa L E;obtain⟨-,⟨t0,t1,t2⟩,-⟩:=id Z;obtain⟨-,⟨t3,t4,t5⟩,-⟩:=id a2;obtain⟨y,x,al⟩:=o5.rd.shape;subst al)
  | (go_at_call 64;refine(l9 (f != g) y _ x _ w5).mono ?_;rintro z w6 ⟨rfl,o⟩;have ap:=Z.l o;have aq:=a2.l o;have a4:=av.l o;have a7:=aa a6 o;obtain⟨-,⟨u0,u1,u2⟩,-⟩:=id ap;obtain⟨-,⟨u3,u4,u5⟩,-⟩:=id aq;obtain⟨b9,⟨d0,d1,d2⟩,f0,f1,f2⟩:=id a4))
 all_goals go_wp2
 obtain⟨-,⟨g0,g1,g2⟩,-⟩:=aD a4 (.bool (f != g)) (.slice y (Dg.dg 4294967296 X).length x) (.int .i64 (c+d));have o7:=(o5.l o).apart3 (b:=w.heap.size+1+1) a3.1 (.bool (f != g)) (.slice y (Dg.dg 4294967296 X).length x) (.int .i64 (c+d));have b8:=am a7 (show w.heap.size≤w.heap.size+1+1 by omega) (.bool (f != g)) (.slice y (Dg.dg 4294967296 X).length x) (.int .i64 (c+d))
 refine bodyPost_ret (v:= .agg #[.bool (f != g),.slice y (Dg.dg 4294967296 X).length x,.int .i64 (c+d)]) (by simp[results,results31,go_sem,g0,g1,g2]) rfl ?_;exact⟨_,rfl,o7.lower L.size,b8⟩
theorem Ij (v:Value)(t:ak)(b:Int)(up:Bool)(w:World)(hv:Dv w v t)(X:(Dg.dg 4294967296 t.n).length≤200000000)(ae: -4000000000≤t.e)(al:t.e≤4000000000)(ap:1≤b)(aq:b≤20000)(hT:Tab w):
  yC 94 #[v,yi b,.bool up] w (Lx w (aY t b up)):=by
 obtain⟨U,rfl,O⟩:=hv;obtain⟨G,n,e⟩:=t;simp only at O X ae al⊢;have ad:=gf X;have P:Hid (∀r,yB w r→yC 74 #[U] r fun z w'=>z= .returned (yi (bitLen n:Nat))∧w'=r):=fun r g=>by
  have:=kE U _ r (O.l g) (Dg.small_dg _ _ (by omega)) (Dg.norm_dg _ _ (by omega)) (by omega)
  rwa [Dg.vl_dg _ _ (by omega)] at this
 have Q:Hid (∀r,yB w r→yC 107 #[U] r fun z w'=>z= .returned (yi ((if n=0 then 0 else tz n:Nat):Int))∧w'=r):=fun r g=>Gl U n r (O.l g) (by omega) (hT.l g)
 have an:(if n=0 then 0 else tz n:Nat)≤6400000000:=by
  split
  ·omega
  ·have:=gZ n 200000000 X;omega
 have W:Hid (∀(j:Nat) r,j≤40000000000→yB w r→yC 102 #[U,yi (-(j:Int))] r (Num r (n/2^j))):=fun j r Y g=>by
  have:=eO U _ (-(j:Int)) r (O.l g) (Dg.small_dg _ _ (by omega)) (by omega) (by omega) (by omega);rw[Dg.vl_dg _ _ (by omega)] at this;unfold shN at this
  rcases Nat.eq_zero_or_pos j with h|h
  ·subst h
   simpa using this
  ·rw[if_pos (by omega),Int.neg_neg,Int.toNat_natCast] at this
   exact this
 have a6:Hid (∀v1 v2 x r,(Dg.dg 4294967296 x).length≤200000000→Rd r .u32 v1 (Dg.dg 4294967296 x)→Rd r .u32 v2 [1]→yC 68 #[v1,v2] r (Num r (x+1))):=fun v1 v2 x r hl h1 h2=>by
  have:=rj v1 v2 _ _ r h1 h2 (Dg.small_dg _ _ (by omega)) (Dg.small_cons.2 ⟨by omega,Dg.small_nil _ (by omega)⟩) (by omega) (by simp)
  rwa [Dg.vl_dg _ _ (by omega),show Dg.vl 4294967296 [1]=1 from rfl] at this
 have a5:Hid (∀j,(Dg.dg 4294967296 (n/2^j)).length≤200000000):=fun j=>Nat.le_trans (aH 4294967296 _ n (by omega) (Nat.div_le_self _ _)) X
 have a0:Hid (∀(j:Nat),(bitLen n:Int)-b=(j:Int)→ ¬(j:Int)≤((if n=0 then 0 else tz n:Nat):Int)→aY ⟨G,n,e⟩ b up=⟨G,n/2^j+(if(up != G)=true then 1 else 0),e+(j:Int)⟩):=fun j Y R=>by
  unfold aY;simp only;rw[Y,if_neg R,Int.toNat_natCast]
 have a1:Hid ((bitLen n:Int)-b≤((if n=0 then 0 else tz n:Nat):Int)→aY ⟨G,n,e⟩ b up=⟨G,n,e⟩):=fun R=>if_pos R
 have a3:=Dg.norm_dg 4294967296 n (by omega);obtain⟨A,D,rfl⟩:=O.shape;obtain⟨L,a7⟩: ∃L,bitLen n=L:=⟨_,rfl⟩;obtain⟨k,hk⟩: ∃k,(if n=0 then 0 else tz n:Nat)=k:=⟨_,rfl⟩
 rw[a7] at P ad a0 a1;rw[hk] at Q an a0 a1;obtain⟨s,a4⟩: ∃s,Dg.dg 4294967296 n=s:=⟨_,rfl⟩;rw[a4] at O X P Q W a3⊢;have a8:Hid (Dg.dg 4294967296 n=s):=a4;have a9:Hid _:=a3;have ac:Hid (Rd w .u32 (.slice A s.length D) s):=O;have a:=aa (af w (.cells (ydA G (.slice A s.length D) e) 48)) (af _ (.cells (ydA false yN 0) 48));have c:=(aA w (.bool G) (.slice A s.length D) (yi e) 48).l (af _ (.cells (ydA false yN 0) 48));have d:=aA (w.alloc (.cells (ydA G (.slice A s.length D) e) 48)) (.bool false) yN (yi 0) 48;have f:=dI (w.alloc (.cells (ydA G (.slice A s.length D) e) 48)) 48;rw[World.size_alloc] at d f;clear O a7 hk a4 a3
 by_cases R:(L:Int)-b≤(k:Int)
 ·have hcut:=a1.out R
  rw[hcut]
  go_enter func94,ntmps94
  go_wp2_with fail
  refine(cN G A s.length D e _).mono ?_;rintro z r ⟨rfl,g⟩;replace c:=c.l g;replace d:=d.l g;replace f:=f.l g;replace a:=aa a g;clear g
  go_wp2_with fail
  refine(P.out _ a).mono ?_;rintro z w2 ⟨rfl,rfl⟩;obtain⟨-,⟨m,o,p⟩,-⟩:=id c
  go_wp2_with fail
  refine(cN G A s.length D e _).mono ?_;rintro z w3 ⟨rfl,q⟩;replace c:=c.l q;replace d:=d.l q;replace f:=f.l q;replace a:=aa a q;clear q m o p
  go_wp2_with fail
  refine(Q.out _ a).mono ?_;rintro z w4 ⟨rfl,rfl⟩;obtain⟨-,⟨m,o,p⟩,-⟩:=id c;obtain⟨a2,⟨d0,d1,d2⟩,f0,f1,f2⟩:=id d;have M:=aD d (.bool G) (.slice A s.length D) (yi (e));obtain⟨-,⟨I,J,K⟩,-⟩:=M;have N:=gu (ac.out.l a) f a9.out (.bool G) (.slice A s.length D) (yi (e));have i:=am a (show w.heap.size≤w.heap.size+1 by omega) (.bool G) (.slice A s.length D) (yi (e))
  go_wp2
  refine bodyPost_ret (v:=(ydV G (.slice A s.length D) (e))) (by simp[results,results94,go_sem,I,J,K]) rfl ?_;exact⟨_,rfl,by rw[a8.out];exact N,i⟩
 ·obtain⟨j,Y⟩: ∃j:Nat,(L:Int)-b=(j:Int):=⟨((L:Int)-b).toNat,by omega⟩
  rw[Y] at R;have hcut:=a0.out j Y R;have av:j≤6400000000:=by omega
  have ar:IntKind.i64.wrap (e+(j:Int))=e+(j:Int):=IntWalk.i64_in _ ⟨by omega,by omega⟩;clear a0 a1
  cases up
  ·cases G
   ·rw[if_neg (by decide),Nat.add_zero] at hcut
    rw[hcut]
    go_enter func94,ntmps94
    go_wp2_with fail
    refine(cN false A s.length D e _).mono ?_;rintro z r ⟨rfl,g⟩;replace c:=c.l g;replace d:=d.l g;replace f:=f.l g;replace a:=aa a g;clear g
    go_wp2_with fail
    refine(P.out _ a).mono ?_;rintro z w2 ⟨rfl,rfl⟩;obtain⟨-,⟨m,o,p⟩,-⟩:=id c
    go_wp2_with fail
    refine(cN false A s.length D e _).mono ?_;rintro z w3 ⟨rfl,q⟩;replace c:=c.l q;replace d:=d.l q;replace f:=f.l q;replace a:=aa a q;clear q m o p
    go_wp2_with fail
    refine(Q.out _ a).mono ?_;rintro z w4 ⟨rfl,rfl⟩;obtain⟨-,⟨m,o,p⟩,-⟩:=id c
    go_wp2_with fail
    refine(cN false A s.length D e _).mono ?_;rintro z w5 ⟨rfl,B⟩;replace c:=c.l B;replace d:=d.l B;replace f:=f.l B;replace a:=aa a B;clear B m o p
    go_wp2_with fail
    refine(W.out j _ (by omega) a).mono ?_;rintro z T ⟨v6,rfl,H,C⟩;replace c:=c.l C;replace d:=d.l C;replace f:=f.l C;replace a:=aa a C;have y:=H.rd;clear C H;obtain⟨-,⟨m,o,p⟩,-⟩:=id c;obtain⟨F,E,S⟩:=y.shape;subst S
    go_wp2_with fail
    refine(l9 false F (Dg.dg 4294967296 (n/2^j)).length E (e+(j:Int)) _).mono ?_;rintro z w8 ⟨rfl,i⟩;replace d:=d.l i;replace f:=f.l i;replace a:=aa a i;replace y:=y.l i;clear i m o p c;obtain⟨a2,⟨d0,d1,d2⟩,f0,f1,f2⟩:=id d;have M:=aD d (.bool false) (.slice F (Dg.dg 4294967296 (n/2^j)).length E) (yi (e+(j:Int)));obtain⟨-,⟨I,J,K⟩,-⟩:=M;have N:=gu y f (Dg.norm_dg _ _ (by omega)) (.bool false) (.slice F (Dg.dg 4294967296 (n/2^j)).length E) (yi (e+(j:Int)));have i:=am a (show w.heap.size≤w.heap.size+1 by omega) (.bool false) (.slice F (Dg.dg 4294967296 (n/2^j)).length E) (yi (e+(j:Int)))
    go_wp2
    refine bodyPost_ret (v:=(ydV false (.slice F (Dg.dg 4294967296 (n/2^j)).length E) (e+(j:Int)))) (by simp[results,results94,go_sem,I,J,K]) rfl ?_;exact⟨_,rfl,N,i⟩
   ·rw[if_pos (by decide)] at hcut
    rw[hcut]
    go_enter func94,ntmps94
    go_wp2_with fail
    refine(cN true A s.length D e _).mono ?_;rintro z r ⟨rfl,g⟩;replace c:=c.l g;replace d:=d.l g;replace f:=f.l g;replace a:=aa a g;clear g
    go_wp2_with fail
    refine(P.out _ a).mono ?_;rintro z w2 ⟨rfl,rfl⟩;obtain⟨-,⟨m,o,p⟩,-⟩:=id c
    go_wp2_with fail
    refine(cN true A s.length D e _).mono ?_;rintro z w3 ⟨rfl,q⟩;replace c:=c.l q;replace d:=d.l q;replace f:=f.l q;replace a:=aa a q;clear q m o p
    go_wp2_with fail
    refine(Q.out _ a).mono ?_;rintro z w4 ⟨rfl,rfl⟩;obtain⟨-,⟨m,o,p⟩,-⟩:=id c
    go_wp2_with fail
    refine(cN true A s.length D e _).mono ?_;rintro z w5 ⟨rfl,B⟩;replace c:=c.l B;replace d:=d.l B;replace f:=f.l B;replace a:=aa a B;clear B m o p
    go_wp2_with fail
    refine(W.out j _ (by omega) a).mono ?_;rintro z T ⟨v6,rfl,H,C⟩;replace c:=c.l C;replace d:=d.l C;replace f:=f.l C;replace a:=aa a C;have y:=H.rd;clear C H;obtain⟨-,⟨m,o,p⟩,-⟩:=id c;have u:=af T (.cells #[.int .u32 ((1:Nat):Int)] 36);have rn:=cE (w:=T) (k:= .u32) (e:=36) [1] #[.int .u32 ((1:Nat):Int)] rfl (by unfold maxLen;simp);have Z:=a6.out _ _ (n/2^j) _ (a5.out j) (y.l u) rn;replace c:=c.l u;replace d:=d.l u;replace f:=f.l u;replace a:=aa a u;clear u rn y
    go_wp2_with fail
    refine Z.mono ?_;rintro z w7 ⟨v7,rfl,o7,u⟩;replace c:=c.l u;replace d:=d.l u;replace f:=f.l u;replace a:=aa a u;have y:=o7.rd;clear u o7 Z m o p;obtain⟨-,⟨m,o,p⟩,-⟩:=id c;obtain⟨F,E,S⟩:=y.shape;subst S
    go_wp2_with fail
    refine(l9 true F (Dg.dg 4294967296 (n/2^j+1)).length E (e+(j:Int)) _).mono ?_;rintro z w8 ⟨rfl,i⟩;replace d:=d.l i;replace f:=f.l i;replace a:=aa a i;replace y:=y.l i;clear i m o p c;obtain⟨a2,⟨d0,d1,d2⟩,f0,f1,f2⟩:=id d;have M:=aD d (.bool true) (.slice F (Dg.dg 4294967296 (n/2^j+1)).length E) (yi (e+(j:Int)));obtain⟨-,⟨I,J,K⟩,-⟩:=M;have N:=gu y f (Dg.norm_dg _ _ (by omega)) (.bool true) (.slice F (Dg.dg 4294967296 (n/2^j+1)).length E) (yi (e+(j:Int)));have i:=am a (show w.heap.size≤w.heap.size+1 by omega) (.bool true) (.slice F (Dg.dg 4294967296 (n/2^j+1)).length E) (yi (e+(j:Int)))
    go_wp2
    refine bodyPost_ret (v:=(ydV true (.slice F (Dg.dg 4294967296 (n/2^j+1)).length E) (e+(j:Int)))) (by simp[results,results94,go_sem,I,J,K]) rfl ?_;exact⟨_,rfl,N,i⟩
  ·cases G
   ·rw[if_pos (by decide)] at hcut
    rw[hcut]
    go_enter func94,ntmps94
    go_wp2_with fail
    refine(cN false A s.length D e _).mono ?_;rintro z r ⟨rfl,g⟩;replace c:=c.l g;replace d:=d.l g;replace f:=f.l g;replace a:=aa a g;clear g
    go_wp2_with fail
    refine(P.out _ a).mono ?_;rintro z w2 ⟨rfl,rfl⟩;obtain⟨-,⟨m,o,p⟩,-⟩:=id c
    go_wp2_with fail
    refine(cN false A s.length D e _).mono ?_;rintro z w3 ⟨rfl,q⟩;replace c:=c.l q;replace d:=d.l q;replace f:=f.l q;replace a:=aa a q;clear q m o p
    go_wp2_with fail
    refine(Q.out _ a).mono ?_;rintro z w4 ⟨rfl,rfl⟩;obtain⟨-,⟨m,o,p⟩,-⟩:=id c
    go_wp2_with fail
    refine(cN false A s.length D e _).mono ?_;rintro z w5 ⟨rfl,B⟩;replace c:=c.l B;replace d:=d.l B;replace f:=f.l B;replace a:=aa a B;clear B m o p
    go_wp2_with fail
    refine(W.out j _ (by omega) a).mono ?_;rintro z T ⟨v6,rfl,H,C⟩;replace c:=c.l C;replace d:=d.l C;replace f:=f.l C;replace a:=aa a C;have y:=H.rd;clear C H;obtain⟨-,⟨m,o,p⟩,-⟩:=id c;have u:=af T (.cells #[.int .u32 ((1:Nat):Int)] 36);have rn:=cE (w:=T) (k:= .u32) (e:=36) [1] #[.int .u32 ((1:Nat):Int)] rfl (by unfold maxLen;simp);have Z:=a6.out _ _ (n/2^j) _ (a5.out j) (y.l u) rn;replace c:=c.l u;replace d:=d.l u;replace f:=f.l u;replace a:=aa a u;clear u rn y
    go_wp2_with fail
    refine Z.mono ?_;rintro z w7 ⟨v7,rfl,o7,u⟩;replace c:=c.l u;replace d:=d.l u;replace f:=f.l u;replace a:=aa a u;have y:=o7.rd;clear u o7 Z m o p;obtain⟨-,⟨m,o,p⟩,-⟩:=id c;obtain⟨F,E,S⟩:=y.shape;subst S
    go_wp2_with fail
    refine(l9 false F (Dg.dg 4294967296 (n/2^j+1)).length E (e+(j:Int)) _).mono ?_;rintro z w8 ⟨rfl,i⟩;replace d:=d.l i;replace f:=f.l i;replace a:=aa a i;replace y:=y.l i;clear i m o p c;obtain⟨a2,⟨d0,d1,d2⟩,f0,f1,f2⟩:=id d;have M:=aD d (.bool false) (.slice F (Dg.dg 4294967296 (n/2^j+1)).length E) (yi (e+(j:Int)));obtain⟨-,⟨I,J,K⟩,-⟩:=M;have N:=gu y f (Dg.norm_dg _ _ (by omega)) (.bool false) (.slice F (Dg.dg 4294967296 (n/2^j+1)).length E) (yi (e+(j:Int)));have i:=am a (show w.heap.size≤w.heap.size+1 by omega) (.bool false) (.slice F (Dg.dg 4294967296 (n/2^j+1)).length E) (yi (e+(j:Int)))
    go_wp2
    refine bodyPost_ret (v:=(ydV false (.slice F (Dg.dg 4294967296 (n/2^j+1)).length E) (e+(j:Int)))) (by simp[results,results94,go_sem,I,J,K]) rfl ?_;exact⟨_,rfl,N,i⟩
   ·rw[if_neg (by decide),Nat.add_zero] at hcut
    rw[hcut]
    go_enter func94,ntmps94
    go_wp2_with fail
    refine(cN true A s.length D e _).mono ?_;rintro z r ⟨rfl,g⟩;replace c:=c.l g;replace d:=d.l g;replace f:=f.l g;replace a:=aa a g;clear g
    go_wp2_with fail
    refine(P.out _ a).mono ?_;rintro z w2 ⟨rfl,rfl⟩;obtain⟨-,⟨m,o,p⟩,-⟩:=id c
    go_wp2_with fail
    refine(cN true A s.length D e _).mono ?_;rintro z w3 ⟨rfl,q⟩;replace c:=c.l q;replace d:=d.l q;replace f:=f.l q;replace a:=aa a q;clear q m o p
    go_wp2_with fail
    refine(Q.out _ a).mono ?_;rintro z w4 ⟨rfl,rfl⟩;obtain⟨-,⟨m,o,p⟩,-⟩:=id c
    go_wp2_with fail
    refine(cN true A s.length D e _).mono ?_;rintro z w5 ⟨rfl,B⟩;replace c:=c.l B;replace d:=d.l B;replace f:=f.l B;replace a:=aa a B;clear B m o p
    go_wp2_with fail
    refine(W.out j _ (by omega) a).mono ?_;rintro z T ⟨v6,rfl,H,C⟩;replace c:=c.l C;replace d:=d.l C;replace f:=f.l C;replace a:=aa a C;have y:=H.rd;clear C H;obtain⟨-,⟨m,o,p⟩,-⟩:=id c;obtain⟨F,E,S⟩:=y.shape;subst S
    go_wp2_with fail
    refine(l9 true F (Dg.dg 4294967296 (n/2^j)).length E (e+(j:Int)) _).mono ?_;rintro z w8 ⟨rfl,i⟩;replace d:=d.l i;replace f:=f.l i;replace a:=aa a i;replace y:=y.l i;clear i m o p c;obtain⟨a2,⟨d0,d1,d2⟩,f0,f1,f2⟩:=id d;have M:=aD d (.bool true) (.slice F (Dg.dg 4294967296 (n/2^j)).length E) (yi (e+(j:Int)));obtain⟨-,⟨I,J,K⟩,-⟩:=M;have N:=gu y f (Dg.norm_dg _ _ (by omega)) (.bool true) (.slice F (Dg.dg 4294967296 (n/2^j)).length E) (yi (e+(j:Int)));have i:=am a (show w.heap.size≤w.heap.size+1 by omega) (.bool true) (.slice F (Dg.dg 4294967296 (n/2^j)).length E) (yi (e+(j:Int)))
    go_wp2
    refine bodyPost_ret (v:=(ydV true (.slice F (Dg.dg 4294967296 (n/2^j)).length E) (e+(j:Int)))) (by simp[results,results94,go_sem,I,J,K]) rfl ?_;exact⟨_,rfl,N,i⟩
theorem xG (s:Bool)(v:Value)(m:Nat)(e:Int)(left:Bool)(w:World)(B:Rd w .u32 v (Dg.dg 4294967296 m))(E:(Dg.dg 4294967296 m).length≤900000000)(W: -20000000000≤e)(X:e≤20000000000):
  yC 127 #[.bool s,v,yi e,.bool left] w (jN w (d8 s m e left)):=by
 have q:Hid (∀f,yB w f→yC 102 #[v,yi 1] f (Num f (m*2))):=fun f i=>by
  have:=eO v _ 1 f (B.l i) (Dg.small_dg _ _ (by omega)) (by omega) (by omega) (by omega);rw[Dg.vl_dg _ _ (by omega)] at this;exact this
 have A:(Dg.dg 4294967296 (m*2)).length≤900000001:=by
  have:=CF m 1 900000000 1 E (by omega)
  rwa [Nat.pow_one] at this
 have I:Hid (∀n p f,Rd f .u32 n (Dg.dg 4294967296 (m*2))→Rd f .u32 p [1]→yC 68 #[n,p] f (Num f (m*2+1))):=fun n p f P Q=>by
  have:=rj n p _ _ f P Q (Dg.small_dg _ _ (by omega)) (Dg.small_cons.2 ⟨by omega,Dg.small_nil _ (by omega)⟩) (by omega) (by simp)
  rwa [Dg.vl_dg _ _ (by omega),show Dg.vl 4294967296 [1]=1 from rfl] at this
 obtain⟨T,U,rfl⟩:=B.shape;obtain⟨l,F⟩: ∃l,(Dg.dg 4294967296 m).length=l:=⟨_,rfl⟩;rw[F] at q⊢;have c:=af w (.cells (ydA false yN 0) 48);have a:=aA w (.bool false) yN (yi 0) 48;have Y:IntKind.i64.wrap (e-1)=e-1:=IntWalk.i64_in _ ⟨by omega,by omega⟩;unfold d8;clear B E F A
 cases left
 ·rw[if_neg (by decide),Nat.add_zero]
  go_enter func127,ntmps127
  go_wp2_with fail
  refine(q.out _ c).mono ?_;rintro z f ⟨n,rfl,d,i⟩;have d:=d.lower (show w.heap.size+1≤_ by simp[World.size_alloc])
  replace a:=a.l i;replace c:=aa c i;obtain⟨h,g,C⟩:=d.rd.shape;subst C;clear i
  go_wp2_with fail
  refine(l9 s h (Dg.dg 4294967296 (m*2)).length g (e-1) _).mono ?_;rintro z S ⟨rfl,j⟩;replace a:=a.l j;replace c:=aa c j;replace d:=d.l j;clear j;obtain⟨A,⟨J,K,L⟩,M,N,O⟩:=id a;obtain⟨-,⟨u,x,y⟩,-⟩:=aD a (.bool s) (.slice h (Dg.dg 4294967296 (m*2)).length g) (yi (e-1));have D:=d.apart3 (b:=w.heap.size) (by omega) (.bool s) (.slice h (Dg.dg 4294967296 (m*2)).length g) (yi (e-1));have t:=am c (Nat.le_refl _) (.bool s) (.slice h (Dg.dg 4294967296 (m*2)).length g) (yi (e-1))
  go_wp2
  refine bodyPost_ret (v:=(ydV s (.slice h (Dg.dg 4294967296 (m*2)).length g) (e-1))) (by simp[results,results127,go_sem,u,x,y]) rfl ?_;exact⟨_,rfl,D.lower (by omega),t⟩
 ·rw[if_pos rfl]
  go_enter func127,ntmps127
  go_wp2_with fail
  refine(q.out _ c).mono ?_;rintro z f ⟨n,rfl,d,i⟩;replace a:=a.l i;replace c:=aa c i;have o:=af f (.cells #[.int .u32 ((1:Nat):Int)] 36);have H:=cE (w:=f) (k:= .u32) (e:=36) [1] #[.int .u32 ((1:Nat):Int)] rfl (by unfold maxLen;simp);have G:=I.out _ _ _ (d.rd.l o) H;replace a:=a.l o;replace c:=aa c o;have R:=a.1;clear i o H d
  go_wp2_with fail
  refine G.mono ?_;rintro z w3 ⟨Z,rfl,d,r⟩;have d:=d.lower (show w.heap.size+1≤_ from R)
  replace a:=a.l r;replace c:=aa c r;obtain⟨h,g,C⟩:=d.rd.shape;subst C;clear r G
  go_wp2_with fail
  refine(l9 s h (Dg.dg 4294967296 (m*2+1)).length g (e-1) _).mono ?_;rintro z S ⟨rfl,j⟩;replace a:=a.l j;replace c:=aa c j;replace d:=d.l j;clear j;obtain⟨A,⟨J,K,L⟩,M,N,O⟩:=id a;obtain⟨-,⟨u,x,y⟩,-⟩:=aD a (.bool s) (.slice h (Dg.dg 4294967296 (m*2+1)).length g) (yi (e-1));have D:=d.apart3 (b:=w.heap.size) (by omega) (.bool s) (.slice h (Dg.dg 4294967296 (m*2+1)).length g) (yi (e-1));have t:=am c (Nat.le_refl _) (.bool s) (.slice h (Dg.dg 4294967296 (m*2+1)).length g) (yi (e-1))
  go_wp2
  refine bodyPost_ret (v:=(ydV s (.slice h (Dg.dg 4294967296 (m*2+1)).length g) (e-1))) (by simp[results,results127,go_sem,u,x,y]) rfl ?_;exact⟨_,rfl,D.lower (by omega),t⟩
end Go.Proofs.YthhiidikgchdeabGreatDoor
