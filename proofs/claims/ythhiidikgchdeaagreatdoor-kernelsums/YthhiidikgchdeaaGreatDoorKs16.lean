/- Texts laid together. -/
import Derived.Test.YthhiidikgchdeaaGreatDoorKs09
import Derived.Test.YthhiidikgchdeaaGreatDoorKs10
import Derived.Test.YthhiidikgchdeaaGreatDoorKs11
import Derived.Test.YthhiidikgchdeaaGreatDoorKs12
set_option maxRecDepth 100000
set_option maxHeartbeats 3200000
namespace Go.Proofs.YthhiidikgchdeaaGreatDoor
open _root_.Go.Proofs.Tryz
open Go.RowKit
theorem Qj {xs a b:List Nat}{i k c:Nat}(h:M5 xs a b i k c)(v:Dg.Small 65536 xs)(w:Dg.Small 65536 a)(B:i<xs.length)(C:k<a.length∨0<c)(t:Nat)(l:t=b.getD (i+k) 0+c+xs.getD i 0*a.getD k 0):
  M5 xs a (b.set (i+k) (t % 65536)) i (k+1) (t/65536):=by
 obtain⟨m,f,x,n,g,o,y,z⟩:=h;have D:k≤a.length:=by
  rcases Nat.lt_or_ge a.length k with e|e
  ·have:=o e;omega
  ·exact e
 have d:i+k<b.length:=by omega
 have F:=f (i+k);have H:=C8 (v i) (w k);refine⟨by simpa using m,Dg.small_set f _ _ (Nat.mod_lt _ (by omega)),by omega,fun j q=> ?_,fun r=> ?_,fun r=> ?_,by omega, ?_⟩
 ·rw[Dg.getD_set _ _ _ _ d,if_neg (by omega)];exact n j q
 ·rw[Dg.getD_set _ _ _ _ d,if_neg (by omega)];exact g (by omega)
 ·have s:k=a.length:=by omega
  subst s;rw[g (Nat.le_refl _),Dg.getD_of_le a _ (Nat.le_refl _)] at l;omega
 ·have G:=Dg.vl_set 65536 b (i+k) (t % 65536) d
  rw[iV];have u:65536^ (i+(k+1))*(t/65536)=65536^ (i+k)*(65536*(t/65536)):=by
   rw[show i+(k+1)=(i+k)+1 from by omega,Nat.pow_succ,Nat.mul_assoc]
  have E:65536^ (i+k)*t=65536^ (i+k)*(t % 65536)+65536^ (i+k)*(65536*(t/65536)):=by
   rw[←Nat.mul_add,Nat.mod_add_div]
  have A:65536^ (i+k)*t=65536^ (i+k)*b.getD (i+k) 0+65536^ (i+k)*c+65536^ (i+k)*(xs.getD i 0*a.getD k 0):=by
   rw[l,Nat.mul_add,Nat.mul_add]
  have p:65536^i*(xs.getD i 0*(Dg.vl 65536 (a.take k)+65536^k*a.getD k 0))=65536^i*(xs.getD i 0*Dg.vl 65536 (a.take k))+65536^ (i+k)*(xs.getD i 0*a.getD k 0):=by
   rw[Nat.mul_add,Nat.mul_add,Nat.pow_add]
   congr 1
   rw[Nat.mul_assoc,Nat.mul_left_comm (xs.getD i 0)]
  rw[u,p];omega
theorem fN (Y Z:Value)(xs a:List Nat)(w:World)(ha:Rd w .i64 Y xs)(hb:Rd w .i64 Z a)(W:Dg.Small 65536 xs)(X:Dg.Small 65536 a)(ae:xs.length≤1000000)(al:a.length≤1000000):
  yC 133 #[Y,Z] w (cG w (Dg.vl 65536 xs*Dg.vl 65536 a)):=by
 obtain⟨i0,hi,a2,a3,a4⟩:=info_parts Tryz.infoI64;obtain⟨ao,ca,rfl,-,-,I⟩:=ha;obtain⟨bo,cb,rfl,-,-,J⟩:=hb
 go_enter func133,ntmps133
 go_wp2_with (at_make;refine wpList_make_full _ rfl _ _ 57 rfl w.heap.size 3 i0 (yi 0) 1 underlying57 hi a2 a3 _ _ _ _ (xs.length+a.length) rfl rfl (by omega) (by omega) ?E ?b3 (Nat.le_refl _) ?_)
 case E=>rw[a4];omega
 case b3=>unfold maxLen;omega
 intro w0 P M;have U:=gL P;have F:yB w w0:=(Below.refl _ _).grown M (Nat.le_refl _) (fun k h=>by cases h)
 clear P M
 go_wp2
 go_loopw [6] (fun C wr=> ∃(i:Nat) (d:List Nat),i≤xs.length∧C=yi i∧Own wr w.heap.size 3 .i64 (.slice (some ⟨w.heap.size,0,none⟩) (xs.length+a.length) (xs.length+a.length)) d∧Sv xs a d i∧yB w wr)
  (fun C _=>xs.length-(intOf C).toNat)
 case atStart=>exact⟨0,_,Nat.zero_le _,rfl,U,M6 xs a,F⟩
 case round=>
  obtain⟨i,d,a9,rfl,own,o,g⟩:=hrel
  by_cases z:i<xs.length
  ·obtain⟨b,r,rfl,L⟩:=I (by omega)
   have K:=L i z;have S:=W i;obtain⟨x,u⟩: ∃x,xs.getD i 0=x:=⟨_,rfl⟩;rw[u] at K S;have Hx:Hid _:=u;clear u L I U F
   go_wp2
   go_loopw [7,8] (fun cv D wr=> ∃(k c:Nat) (d:List Nat),D=yi k∧cv=yi c∧Own wr w.heap.size 3 .i64 (.slice (some ⟨w.heap.size,0,none⟩) (xs.length+a.length) (xs.length+a.length)) d∧M5 xs a d i k c∧yB w wr)
    (fun _ D _=>a.length+2-(intOf D).toNat)
   case atStart=>exact⟨0,0,d,rfl,rfl,own,M7 o,g⟩
   case round=>
    clear own o g d;obtain⟨k,c,d,rfl,rfl,own,n,g⟩:=hrel;have Q:=n.1;have a7:=n.2.2.1;have N:=n.2.2.2.2.2.1;have ac:=n.2.2.2.2.2.2.1
    by_cases q:k<a.length∨0<c
    ·have ad:k≤a.length:=by
      rcases Nat.lt_or_ge a.length k with e|e
      ·have:=N e;omega
      ·exact e
     have hp:=own.c (i+k) (by omega);have A:=n.2.1 (i+k);have a8:=own.f (i+k);have j:=Qj n W X z q _ rfl;have T:=X k;have t: ¬k<a.length→a.getD k 0=0:=fun h=>Dg.getD_of_le _ _ (by omega)
     have an:=cell_later g K;have s:k<a.length→ ∃b r,bo=some ⟨b,r,none⟩∧wr.cell? ⟨b,r+k,none⟩=some (yi ((a.getD k 0:Nat):Int)):=fun h=>by
      obtain⟨b,r,e,a0⟩:=J (by omega);exact⟨b,r,e,cell_later g (a0 k h)⟩
     rw[Hx.out] at j;obtain⟨y,H⟩: ∃y,a.getD k 0=y:=⟨_,rfl⟩;obtain⟨p,G⟩: ∃p,d.getD (i+k) 0=p:=⟨_,rfl⟩;rw[H] at T t s j;rw[G] at hp A j;clear H G N J
     by_cases v:k<a.length
     ·obtain⟨E,av,rfl,a6⟩:=s v
      have ap:=C8 S T;have ar:(x:Int)*(y:Int)≤4294836225:=by rw[←Int.natCast_mul];omega
      have aq:0≤(x:Int)*(y:Int):=by rw[←Int.natCast_mul];omega
      clear s t q
      go_wp2
      go_quiet (fail)
      go_wp2
      go_roundw
      case rel=>
       rw[Ql,Qm];exact⟨k+1,_,_,by go_num,rfl,Own.store (Own.l own (aL (Below.refl _ _) _)) (i+k) _,j,(aL g _).setCell (by exact Nat.le_refl _) _⟩
      case measure=>simp[intOf];omega
     ·have hy:=t v
      subst hy;have a5:0<c:=by omega
      simp only[Nat.mul_zero,Nat.add_zero] at j;clear s t q
      go_wp2
      go_roundw
      case rel=>
       have e1:((p:Int)+(c:Int)) % 65536=(((p+c) % 65536:Nat):Int):=by omega
       have e2:((p:Int)+(c:Int))/65536=(((p+c)/65536:Nat):Int):=by omega
       rw[e1,e2];exact⟨k+1,_,_,by go_num,rfl,own.store (i+k) _,j,g.setCell (by exact Nat.le_refl _) _⟩
      case measure=>simp[intOf];omega
    ·have h1: ¬k<a.length:=by omega
     have v: ¬0<c:=by omega
     have j:=Qk n z q;clear q
     go_wp2
     go_roundw
     case rel=>exact⟨i+1,d,by omega,by go_num,own,j,g⟩
     case measure=>simp[intOf];omega
  ·have a1:i=xs.length:=by omega
   subst a1;have Q:=o.1;have A:=o.2.1;have B:=o.2.2.2;rw[List.take_of_length_le (Nat.le_refl _)] at B;have HV:Hid _:=B;have hl:d.length≤3000000:=by omega
   clear Q B
   go_wp2_with fail
   refine(i9 _ _ _ d _ own.rd).mono ?_;rintro e w' ⟨m,rfl,O,rfl⟩;have R:=xh own A O hl;rw[HV.out] at R;clear O
   go_wp2
   go_ret
   exact⟨_,rfl,R,g⟩
theorem Ac (v u:Value)(a b:ak)(w:World)(hv:Dv w v a)(hu:Dv w u b)(S:(Dg.dg 4294967296 a.n).length≤200000000)(T:(Dg.dg 4294967296 b.n).length≤200000000)
  (a8: -2000000000≤a.e) (a9:a.e≤2000000000) (ac: -2000000000≤b.e) (ad:b.e≤2000000000):
  Calls Tryz.prog 57 #[v,u] w (jN w (aK a b)):=by
 obtain⟨s0,rfl,H⟩:=hv;obtain⟨k,r,rfl⟩:=H.shape;obtain⟨s1,rfl,I⟩:=hu;obtain⟨q,s,rfl⟩:=I.shape;obtain⟨f,B,c⟩:=a;obtain⟨g,bn,d⟩:=b;simp only at H I S T a8 a9 ac ad⊢;have Q:Hid (∀A,Below w.heap.size w A→Calls Tryz.prog 114 #[.slice k (Dg.dg 4294967296 B).length r,.slice q (Dg.dg 4294967296 bn).length s] A (Num A (B*bn))):=fun A R=>by
  have:=qC _ _ _ _ A (H.l R) (I.l R) (Dg.small_dg _ _ (by omega)) (Dg.small_dg _ _ (by omega)) (by omega) (by omega);rw[Dg.vl_dg _ _ (by omega),Dg.vl_dg _ _ (by omega)] at this;exact this
 unfold aK;simp only;obtain⟨X,N⟩: ∃X,B*bn=X:=⟨_,rfl⟩;obtain⟨F,O⟩: ∃m,(Dg.dg 4294967296 B).length=m:=⟨_,rfl⟩;obtain⟨G,P⟩: ∃m,(Dg.dg 4294967296 bn).length=m:=⟨_,rfl⟩;rw[N,O,P] at Q;rw[N,O,P];clear N O P H I S T;obtain⟨h,i,t,J,sW⟩:=ju w (.bool f) (.slice k F r) (.int .i64 c) (.bool g) (.slice q G s) (.int .i64 d) (.bool false) (.slice none 0 0) (.int .i64 0) 41 41 41;clear sW;obtain⟨W,M⟩: ∃W,(((w.alloc (.cells #[.bool f,.slice k F r,.int .i64 c] 41)).alloc (.cells #[.bool g,.slice q G s,.int .i64 d] 41)).alloc (.cells #[.bool false,.slice none 0 0,.int .i64 0] 41))=W:=⟨_,rfl⟩;rw[M] at h i t J;have p:Below W.heap.size W W.drew:=(Below.refl _ _).drew;have h:=h.l p;have i:=i.l p;have t:=t.l p;have K:=aa J p;rw[←M] at h i t K;clear p J M;obtain⟨-,⟨ax,ay,az⟩,-⟩:=id h;obtain⟨-,⟨b0,b2,b7⟩,-⟩:=id i;have ba:w.heap.size+1+1≠w.heap.size:=by omega
 have bb:w.heap.size≠w.heap.size+1+1:=by omega
 have e4:IntKind.i64.wrap (c+d)=c+d:=IntWalk.i64_in _ ⟨by omega,by omega⟩
 go_enter func57,ntmps57
 go_wp2_with fail
 go_region_held3 (fun j=>(j.cell? ⟨w.heap.size,0,none⟩=some (.bool f)∧j.cell? ⟨w.heap.size,1,none⟩=some (.slice k F r)∧j.cell? ⟨w.heap.size,2,none⟩=some (.int .i64 c))∧j.cell? ⟨w.heap.size+1,0,none⟩=some (.bool g)∧j.cell? ⟨w.heap.size+1,1,none⟩=some (.slice q G s)∧j.cell? ⟨w.heap.size+1,2,none⟩=some (.int .i64 d)) (go_keep) (first
  | (go_at_call 61;refine(cN f k F r c _).mono ?_;rintro z w3 ⟨rfl,C⟩;have U:=h.l C;have a0:=i.l C;have ar:=t.l C;have a5:=aa K C;obtain⟨-,⟨p0,p1,p2⟩,-⟩:=id U;obtain⟨-,⟨p3,p4,p5⟩,-⟩:=id a0;clear K)
  | (go_at_call 61;refine(cN g q G s d w3).mono ?_;rintro z w4 ⟨rfl,D⟩;have Y:=U.l D;have a1:=a0.l D;have a3:=ar.l D;have L:=aa a5 D;obtain⟨-,⟨q0,q1,q2⟩,-⟩:=id Y;obtain⟨-,⟨q3,q4,q5⟩,-⟩:=id a1)
  | (go_at_call 114;refine(Q.out w4 L).mono ?_;rintro z w5 ⟨vs,rfl,o5,E⟩;have Z:=Y.l E;have a2:=a1.l E;have av:=a3.l E;have a6:=aa L E;obtain⟨-,⟨t0,t1,t2⟩,-⟩:=id Z;obtain⟨-,⟨t3,t4,t5⟩,-⟩:=id a2;obtain⟨y,x,al⟩:=o5.rd.shape;subst al)
  | (go_at_call 64;refine(l9 (f != g) y _ x _ w5).mono ?_;rintro z w6 ⟨rfl,o⟩;have ap:=Z.l o;have aq:=a2.l o;have a4:=av.l o;have a7:=aa a6 o;obtain⟨-,⟨u0,u1,u2⟩,-⟩:=id ap;obtain⟨-,⟨u3,u4,u5⟩,-⟩:=id aq;obtain⟨b9,⟨d0,d1,d2⟩,f0,f1,f2⟩:=id a4))
 all_goals go_wp2
 obtain⟨-,⟨g0,g1,g2⟩,-⟩:=aD a4 (.bool (f != g)) (.slice y (Dg.dg 4294967296 X).length x) (.int .i64 (c+d));have o7:=(o5.l o).apart3 (b:=w.heap.size+1+1) a3.1 (.bool (f != g)) (.slice y (Dg.dg 4294967296 X).length x) (.int .i64 (c+d));have b8:=am a7 (show w.heap.size≤w.heap.size+1+1 by omega) (.bool (f != g)) (.slice y (Dg.dg 4294967296 X).length x) (.int .i64 (c+d))
 refine bodyPost_ret (v:= .agg #[.bool (f != g),.slice y (Dg.dg 4294967296 X).length x,.int .i64 (c+d)]) (by simp[results,results57,go_sem,g0,g1,g2]) rfl ?_;exact⟨_,rfl,o7.lower L.size,b8⟩
theorem lE {K:Nat}(A:ak)(b:Int)(f:1≤b)(i: -(K:Int)≤A.e):V K (aY A b false)≤V K A∧V K A≤V K (aY A b true)∧ -(K:Int)≤(aY A b false).e∧ -(K:Int)≤(aY A b true).e:=by
 have one: ∀up,-(K:Int)≤(aY A b up).e:=fun up=>by
  rcases mX A b up f with⟨_,a⟩| ⟨j,q,_,_,_,_,_,_,_,_,_,a⟩
  ·rw[a];exact i
  ·rw[a];show _≤A.e+(j:Int);omega
 have two: ∀up,(up=false→V K (aY A b up)≤V K A)∧(up=true→V K A≤V K (aY A b up)):=fun up=>by
  rcases mX A b up f with⟨_,a⟩| ⟨j,q,_,_,_,_,c,d,_,_,_,a⟩
  ·rw[a];exact⟨fun _=>Int.le_refl _,fun _=>Int.le_refl _⟩
  ·have g:(A.e+(j:Int)+(K:Int)).toNat=j+(A.e+(K:Int)).toNat:=by omega
   rw[a,eV,eV];simp only;rw[g,Nat.pow_add,←Nat.mul_assoc];generalize 2^ (A.e+(K:Int)).toNat=P;generalize 2^j=J at c d;have k:q*J*P≤A.n*P:=Nat.mul_le_mul_right _ c;have l:A.n*P≤(q+1)*J*P:=Nat.mul_le_mul_right _ (Nat.le_of_lt d)
   cases hs:A.s
   ·refine⟨fun h=> ?_,fun h=> ?_⟩
    ·subst h
     simp only[sz,bne_self_eq_false,Bool.false_eq_true,if_false,Nat.add_zero];omega
    ·subst h
     simp only[sz,Bool.true_bne,Bool.not_false,Bool.false_eq_true,if_false,if_true];omega
   ·refine⟨fun h=> ?_,fun h=> ?_⟩
    ·subst h
     simp only[sz,Bool.false_bne,if_true];omega
    ·subst h
     simp only[sz,bne_self_eq_false,Bool.false_eq_true,if_false,Nat.add_zero,if_true];omega
 exact⟨(two false).1 rfl,(two true).2 rfl,one false,one true⟩
theorem lp_sum {n k:Nat}(j:2≤n)(tn:Nat){w:Rat}(d:w*(n:Rat)=1)(m:Nat)(i:(lp (n*n) tn (k+1) 0 (2^k/n) 0 0).1≤m):
  ab (((2^k:Nat):Rat)*awg tn w m-(((lp (n*n) tn (k+1) 0 (2^k/n) 0 0).2.1:Rat)-((lp (n*n) tn (k+1) 0 (2^k/n) 0 0).2.2:Rat)))≤3*((lp (n*n) tn (k+1) 0 (2^k/n) 0 0).1:Rat)+3:=by
 have p:(0:Rat)< (n:Rat):=nat_pos' (by omega);have q:(1:Rat)≤(n:Rat):=by
  have:((1:Nat):Rat)≤(n:Rat):=Rat.natCast_le_natCast.2 (by omega)
  simpa using this
 have f:0≤w:=by
  by_cases c:0≤w
  ·exact c
  ·have:=Rat.mul_nonneg (show 0≤ -w by grind) (show 0≤(n:Rat) by grind)
   grind
 obtain⟨g,h⟩:=div_rat (a:=2^k) (b:=n) (by omega);have e:rp w (2*0+1)=w:=by simp only[rp];grind
 refine lp_near j tn d (nat_nn _) (k+1) 0 (2^k/n) 0 0 ?_ ?_ ?_ ?_ m i
 ·have l:2^k/n≤2^k:=Nat.div_le_self _ _
  have o:2^k<4^ (k+1):=by
   have a:2^k≤4^k:=Nat.pow_le_pow_left (by omega) k;have b:0<4^k:=Nat.pow_pos (by omega);rw[Nat.pow_succ];omega
  omega
 ·rw[e]
  have a:=Rat.mul_le_mul_of_nonneg_right g f;generalize((2^k/n:Nat):Rat)=T at*;have:T*(n:Rat)*w=T*(w*(n:Rat)):=by grind
  rw[this,d] at a
  grind
 ·rw[e]
  have a:=Rat.mul_le_mul_of_nonneg_right h f;generalize((2^k/n:Nat):Rat)=T at*;have:(T*(n:Rat)+((n:Rat)-1))*w=T*(w*(n:Rat))+(w*(n:Rat)-w):=by grind
  rw[this,d] at a
  grind
 ·have:awg tn w 0=0:=rfl
  rw[this];unfold ab;simp
  grind
theorem aw_neg (w:Rat)(n:Nat):aw (-w) n= -aw w n:=by
 have h: ∀n,rs (awt (-w)) n= -rs (awt w) n:=by
  intro n
  induction n with
  |zero=>simp only[rs];grind
  |succ n ih=>
   rw[rs,rs,ih];unfold awt;rw[(rp_neg w n).2]
   grind
 exact h n
theorem p2_mono {a b:Int}(h:a≤b):p2 a≤p2 b:=by
 obtain⟨k,d⟩: ∃k:Nat,b=a+(k:Int):=⟨(b-a).toNat,by omega⟩;rw[d,p2_add,p2_nat];have e:=p2_pos a;have c:(1:Rat)≤((2^k:Nat):Rat):=by
  have:((1:Nat):Rat)≤((2^k:Nat):Rat):=Rat.natCast_le_natCast.2 (Nat.pow_pos (by omega))
  simpa using this
 have:=Rat.mul_le_mul_of_nonneg_left c (show 0≤p2 a by grind)
 grind
theorem qT_V {K:Nat}{t:ak}(h: -(K:Int)≤t.e):((V K t:Int):Rat)=qT t*((2^K:Nat):Rat):=by
 unfold V qT;rw[Rat.intCast_mul,Rat.mul_assoc,p2_at h];rfl
theorem le_V {K:Nat}{a b:ak}(d: -(K:Int)≤a.e)(f: -(K:Int)≤b.e):V K a≤V K b↔qT a≤qT b:=by
 rw[←Rat.intCast_le_intCast,qT_V d,qT_V f];have g:=two_posR K;generalize((2^K:Nat):Rat)=z at*
 constructor
 ·intro h
  by_cases c:qT a≤qT b
  ·exact c
  ·have:=Rat.mul_pos (show 0<qT a-qT b by grind) g
   grind
 ·intro h
  exact Rat.mul_le_mul_of_nonneg_right h (by grind)
theorem qT_ab (t:ak):ab (qT t)=(t.n:Rat)*p2 t.e:=by
 have d:=p2_pos t.e;unfold qT;rw[ab_mul];have a:ab (p2 t.e)=p2 t.e:=by unfold ab;grind
 have b:ab ((sz t.s t.n:Int):Rat)=(t.n:Rat):=by
  have c:=nat_nn t.n;unfold sz
  cases t.s
  ·rw[if_neg (by decide),Rat.intCast_natCast]
   unfold ab
   grind
  ·rw[if_pos rfl,Rat.intCast_neg,Rat.intCast_natCast]
   unfold ab
   grind
 rw[a,b]
theorem qT_top {t:ak}(h:t.n≠0):p2 (t.e+(bitLen t.n:Int)-1)≤ab (qT t)∧ab (qT t)<p2 (t.e+(bitLen t.n:Int)):=by
 obtain⟨g,b,c⟩:=uB t.n h;rw[qT_ab,show t.e+(bitLen t.n:Int)-1=((bitLen t.n-1:Nat):Int)+t.e by omega,p2_add,p2_nat,show t.e+(bitLen t.n:Int)=((bitLen t.n:Nat):Int)+t.e by omega,p2_add,p2_nat]
 have d:=p2_pos t.e;have a:((2^ (bitLen t.n-1):Nat):Rat)≤(t.n:Rat):=Rat.natCast_le_natCast.2 b;have f:(t.n:Rat)< ((2^bitLen t.n:Nat):Rat):=Rat.natCast_lt_natCast.2 c;refine⟨Rat.mul_le_mul_of_nonneg_right a (by grind), ?_⟩;have:=Rat.mul_pos (show 0< ((2^bitLen t.n:Nat):Rat)-(t.n:Rat) by grind) d
 grind
theorem cut_near (t:ak)(b:Int)(up:Bool)(_hb:1≤b):ab (qT (aY t b up)-qT t)≤p2 (1-b)*ab (qT t):=by
 unfold aY;have p:0≤p2 (1-b)*ab (qT t):=Rat.mul_nonneg (by have:=p2_pos (1-b);grind) (ab_nonneg _)
 by_cases c:(bitLen t.n:Int)-b≤((if t.n=0 then 0 else tz t.n:Nat):Int)
 ·rw[if_pos c]
  have:qT t-qT t=0:=by grind
  rw[this];have:ab 0=0:=by unfold ab;grind
  rw[this];exact p
 ·rw[if_neg c]
  have l:t.n≠0:=fun e=>by
   rw[e,gP] at c;omega
  obtain⟨k,j⟩: ∃k:Nat,(bitLen t.n:Int)-b=(k:Int):=⟨((bitLen t.n:Int)-b).toNat,by omega⟩;rw[j,Int.toNat_natCast];obtain⟨q,-⟩:=qT_top l;have f:qT ⟨t.s,t.n/2^k+(if(up != t.s)=true then 1 else 0),t.e+(k:Int)⟩=(sz t.s ((t.n/2^k+(if(up != t.s)=true then 1 else 0))*2^k):Rat)*p2 t.e:=by
   unfold qT;simp only;rw[p2_add,p2_nat];have:((sz t.s ((t.n/2^k+(if(up != t.s)=true then 1 else 0))*2^k):Int):Rat)=((sz t.s (t.n/2^k+(if(up != t.s)=true then 1 else 0)):Int):Rat)*((2^k:Nat):Rat):=by
    unfold sz
    cases t.s<;>simp<;>grind
   rw[this]
   grind
  rw[f];unfold qT;have v:=Nat.div_add_mod t.n (2^k);have w:=Nat.mod_lt t.n (show 0<2^k from Nat.pow_pos (by omega))
  obtain⟨m,d⟩: ∃m,(t.n/2^k+(if(up != t.s)=true then 1 else 0))*2^k=m:=⟨_,rfl⟩
  have a:m≤t.n+2^k∧t.n≤m+2^k:=by
   rw[←d,Nat.add_mul,Nat.mul_comm (t.n/2^k)]
   split<;>omega
  rw[d];have o:ab (((sz t.s m:Int):Rat)*p2 t.e-((sz t.s t.n:Int):Rat)*p2 t.e)≤((2^k:Nat):Rat)*p2 t.e:=by
   have x:=p2_pos t.e;have h:(m:Rat)≤(t.n:Rat)+((2^k:Nat):Rat):=by rw[←Rat.natCast_add];exact Rat.natCast_le_natCast.2 a.1
   have i:(t.n:Rat)≤(m:Rat)+((2^k:Nat):Rat):=by rw[←Rat.natCast_add];exact Rat.natCast_le_natCast.2 a.2
   have r:=Rat.mul_le_mul_of_nonneg_right h (show 0≤p2 t.e by grind)
   have u:=Rat.mul_le_mul_of_nonneg_right i (show 0≤p2 t.e by grind)
   rw[ab_le];unfold sz
   cases t.s
   ·simp only[Bool.false_eq_true,if_false,Rat.intCast_natCast]
    constructor<;>grind
   ·simp only[if_true,Rat.intCast_natCast,Rat.intCast_neg]
    constructor<;>grind
  refine Rat.le_trans o ?_;have g:((2^k:Nat):Rat)*p2 t.e=p2 (1-b)*p2 (t.e+(bitLen t.n:Int)-1):=by
   rw[←p2_nat,←p2_add,←p2_add]
   congr 1
   omega
  rw[g];exact Rat.mul_le_mul_of_nonneg_left q (by have:=p2_pos (1-b);grind)
theorem cut_lo (t:ak)(b:Int)(g:1≤b):qT (aY t b false)≤qT t∧qT t≤qT (aY t b true):=by
 obtain⟨K,h,-⟩:=low2 t.e 0;obtain⟨a,c,d,f⟩:=lE t b g h;exact⟨(le_V d h).1 a,(le_V h f).1 c⟩
theorem cut_pow (t:ak)(b:Int)(up:Bool)(_hb:1≤b)(k:Int)(h:ab (qT t)≤p2 k):ab (qT (aY t b up))≤p2 k:=by
 unfold aY
 by_cases c:(bitLen t.n:Int)-b≤((if t.n=0 then 0 else tz t.n:Nat):Int)
 ·rw[if_pos c]
  exact h
 ·rw[if_neg c]
  have a:t.n≠0:=fun e=>by
   rw[e,gP] at c;omega
  obtain⟨j,z⟩: ∃j:Nat,(bitLen t.n:Int)-b=(j:Int):=⟨((bitLen t.n:Int)-b).toNat,by omega⟩;rw[z,Int.toNat_natCast];obtain⟨B,C,D⟩:=uB t.n a;rw[qT_ab] at h;rw[qT_ab];simp only;have A:=p2_pos t.e
  by_cases g:k<t.e+(bitLen t.n:Int)-1
  ·exfalso
   have u:=(qT_top a).1;rw[qT_ab] at u;have v:=p2_mono (show k+1≤t.e+(bitLen t.n:Int)-1 by omega)
   rw[p2_add,p2_one] at v;have:=p2_pos k
   grind
  ·have I:t.e≤k:=by omega
   obtain⟨i,o⟩: ∃i:Nat,k=(i:Int)+t.e:=⟨(k-t.e).toNat,by omega⟩;rw[o,p2_add,p2_nat] at h;have E:t.n≤2^i:=by
    by_cases d:t.n≤2^i
    ·exact d
    ·exfalso
     have:((2^i:Nat):Rat)< (t.n:Rat):=Rat.natCast_lt_natCast.2 (by omega);have:=Rat.mul_pos (show 0< (t.n:Rat)-((2^i:Nat):Rat) by grind) A
     grind
   have H:j≤i:=by omega
   have w:t.n/2^j+(if(up != t.s)=true then 1 else 0)≤2^ (i-j):=by
    have e:2^i=2^ (i-j)*2^j:=by rw[←Nat.pow_add];congr 1;omega
    by_cases f:t.n=2^i
    ·exfalso
     obtain⟨m,l⟩:=fO a;rw[if_neg a] at c;have J:tz t.n<i:=by omega
     have p:2^i=2^tz t.n*2^ (i-tz t.n):=by rw[←Nat.pow_add];congr 1;omega
     have l:2^tz t.n*2^ (i-tz t.n)=2^tz t.n*(2*m+1):=by rw[←p,←f];exact l
     have x:=Nat.eq_of_mul_eq_mul_left (Nat.pow_pos (by omega)) l;have q:2^ (i-tz t.n)=2*2^ (i-tz t.n-1):=by rw[Nat.mul_comm,←Nat.pow_succ];congr 1;omega
     rw[q] at x;omega
    ·have G:t.n/2^j<2^ (i-j):=by
      rw[Nat.div_lt_iff_lt_mul (Nat.pow_pos (by omega)),←e];omega
     split<;>omega
   rw[o,p2_add,p2_nat,p2_add,p2_nat];have r:((2^i:Nat):Rat)=((2^ (i-j):Nat):Rat)*((2^j:Nat):Rat):=by rw[←two_addR];congr 2;omega
   rw[r];have y:((t.n/2^j+(if(up != t.s)=true then 1 else 0):Nat):Rat)≤((2^ (i-j):Nat):Rat):=Rat.natCast_le_natCast.2 w
   have F:=Rat.mul_le_mul_of_nonneg_right y (show 0≤p2 t.e*((2^j:Nat):Rat) from Rat.mul_nonneg (by grind) (by have:=two_posR j;grind))
   grind
theorem over_parts (a b:ak)(B:Nat)(P:1≤B)(v:a.n≠0)(w:b.n≠0){X:Rat}(t:X*qT b=qT a): ∃(m:Nat) (e:Int) (l:Bool),
  cK a b B=⟨a.s != b.s,m*2+(if l=true then 1 else 0),e-1⟩∧2^ (B-1)≤m∧(m:Rat)*p2 e≤ab X∧ab X< ((m+1:Nat):Rat)*p2 e∧(l=false→(m:Rat)*p2 e=ab X)∧(l=true→(m:Rat)*p2 e<ab X)∧X=sqT (a.s != b.s)*ab X:=by
 obtain⟨s,C⟩: ∃s,gV a b B=s:=⟨_,rfl⟩;have j:0<b.n:=Nat.pos_of_ne_zero w;have x:=Nat.div_add_mod (a.n*2^s) b.n;have y:=Nat.mod_lt (a.n*2^s) j;obtain⟨m,o⟩: ∃m,a.n*2^s/b.n=m:=⟨_,rfl⟩;obtain⟨r,p⟩: ∃r,a.n*2^s % b.n=r:=⟨_,rfl⟩;rw[o,p] at x;rw[p] at y;have G:(0:Rat)< (b.n:Rat):=nat_pos' j;have F:(0:Rat)< (a.n:Rat):=nat_pos' (Nat.pos_of_ne_zero v);have D:=p2_pos b.e;have I:=p2_pos a.e;have c:=Rat.mul_pos G D;have Q:=Rat.mul_pos F I;have u:ab X*((b.n:Rat)*p2 b.e)=(a.n:Rat)*p2 a.e:=by rw[←qT_ab,←qT_ab,←ab_mul,t]
 have H:p2 (a.e-b.e-(s:Int))*p2 b.e*((2^s:Nat):Rat)=p2 a.e:=by
  rw[←p2_nat,←p2_add,←p2_add]
  congr 1
  omega
 have g:(b.n:Rat)*(m:Rat)+(r:Rat)=(a.n:Rat)*((2^s:Nat):Rat):=by
  rw[←Rat.natCast_mul,←Rat.natCast_mul,←Rat.natCast_add,x]
 have S:(r:Rat)< (b.n:Rat):=nat_lt y;have R:=nat_nn r;have J:=p2_pos (a.e-b.e-(s:Int));have A:=Rat.mul_pos J D;have d: ∀z:Rat,z*p2 (a.e-b.e-(s:Int))*((b.n:Rat)*p2 b.e)=z*(b.n:Rat)*(p2 (a.e-b.e-(s:Int))*p2 b.e):=fun z=>by grind
 have f:ab X*((b.n:Rat)*p2 b.e)=(a.n:Rat)*((2^s:Nat):Rat)*(p2 (a.e-b.e-(s:Int))*p2 b.e):=by rw[u,←H];grind
 refine⟨m,a.e-b.e-(s:Int),decide (0<r), ?_, ?_, ?_, ?_, ?_, ?_, ?_⟩
 ·unfold cK d8
  rw[C,o,p]
 ·obtain⟨K,E,L⟩:=uB a.n v
  obtain⟨M,N,O⟩:=uB b.n w;have i:2^ (B-1)*2^bitLen b.n≤a.n*2^s:=by
   have:2^ (bitLen a.n-1)*2^s≤a.n*2^s:=Nat.mul_le_mul_right _ E;refine Nat.le_trans ?_ this;rw[←Nat.pow_add,←Nat.pow_add];refine Nat.pow_le_pow_right (by omega) ?_;unfold gV at C;omega
  have q:2^ (B-1)*b.n≤a.n*2^s:=Nat.le_trans (Nat.mul_le_mul_left _ (by omega)) i;rw[←o];exact(Nat.le_div_iff_mul_le j).2 q
 ·refine cancel_le c ?_
  rw[d,f];exact Rat.mul_le_mul_of_nonneg_right (by grind) (by grind)
 ·refine cancel_lt c ?_
  rw[d,f,Rat.natCast_add];have:=Rat.mul_pos (show 0< ((m:Rat)+((1:Nat):Rat))*(b.n:Rat)-(a.n:Rat)*((2^s:Nat):Rat) by rw[←g];grind) A
  grind
 ·intro k
  have h:r=0:=by simpa using k
  rw[h] at g;refine cancel_eq c ?_;rw[d,f,←g]
  grind
 ·intro k
  have h:(0:Rat)< (r:Rat):=nat_pos' (by simpa using k);refine cancel_lt c ?_;rw[d,f,←g];have:=Rat.mul_pos h A
  grind
 ·have i:X*qT b=sqT b.s*X*((b.n:Rat)*p2 b.e):=by rw[qT_sq];grind
  have q:sqT b.s*X=sqT a.s*ab X:=by
   refine cancel_eq c ?_;rw[←i,t,qT_sq,Rat.mul_assoc,u]
  rw[sq_ne];have:=sq_sq b.s
  grind
theorem over_cut (a b:ak)(B:Nat)(k:1≤B)(v:b.n≠0){X:Rat}(o:X*qT b=qT a):qT (aY (cK a b B) B false)≤X∧X≤qT (aY (cK a b B) B true):=by
 by_cases d:a.n=0
 ·have F:qT b≠0:=fun c=>by
   have:=qT_ab b;rw[c] at this;have u:=Rat.mul_pos (nat_pos' (Nat.pos_of_ne_zero v)) (p2_pos b.e);have C:ab 0=0:=by unfold ab;grind
   grind
  have E:X=0:=by
   rw[qT_zero d] at o
   rcases Rat.mul_eq_zero.1 o with h|h
   ·exact h
   ·exact absurd h F
  rw[cut_zero _ _ _ (over_zero a b B d),cut_zero _ _ _ (over_zero a b B d),qT_zero (over_zero a b B d),E];exact⟨Rat.le_refl,Rat.le_refl⟩
 obtain⟨m,e,l,u,C,M,N,D,O,f⟩:=over_parts a b B k d v o;rw[u]
 cases l with
 |false=>
  have G:=D rfl;have I:qT ⟨a.s != b.s,m*2+(if false=true then 1 else 0),e-1⟩=X:=by
   rw[qT_sq,f,←G];simp only[Bool.false_eq_true,if_false,Nat.add_zero];rw[Rat.natCast_mul];have:p2 e=((2:Nat):Rat)*p2 (e-1):=by
    have:=p2_add 1 (e-1);rw[show 1+(e-1)=e by omega,p2_one] at this
    exact this
   rw[this,Rat.mul_assoc]
  have:=cut_lo ⟨a.s != b.s,m*2+(if false=true then 1 else 0),e-1⟩ B (by omega)
  rw[I] at this;exact this
 |true=>
  obtain⟨g,H⟩: ∃g,(a.s != b.s)=g:=⟨_,rfl⟩;rw[H] at f⊢;obtain⟨t,y⟩: ∃t:ak,⟨g,m*2+1,e-1⟩=t:=⟨_,rfl⟩;have p:t.n=m*2+1∧t.s=g∧t.e=e-1:=by subst y;exact⟨rfl,rfl,rfl⟩
  simp only[if_true,y];have w:B<bitLen t.n:=by
   obtain⟨-,-,z⟩:=uB t.n (by omega);have:2^B<2^bitLen t.n:=by
    refine Nat.lt_of_le_of_lt ?_ z;have:2^B=2*2^ (B-1):=by rw[←Nat.pow_succ'];congr 1;omega
    omega
   exact(Nat.pow_lt_pow_iff_right (by omega)).1 this
  have x:p2 e=2*p2 t.e:=by
   have:=p2_add 1 (e-1);rw[show 1+(e-1)=e by omega,p2_one] at this
   rw[this,p.2.2]
  have K:((t.n-1:Nat):Rat)*p2 t.e=(m:Rat)*p2 e:=by
   rw[x,show t.n-1=m*2 by omega,Rat.natCast_mul]
   have:((2:Nat):Rat)=2:=rfl
   grind
  have L:((t.n+1:Nat):Rat)*p2 t.e=((m+1:Nat):Rat)*p2 e:=by
   rw[x,show t.n+1=(m+1)*2 by omega,Rat.natCast_mul]
   have:((2:Nat):Rat)=2:=rfl
   grind
  obtain⟨A,i,j⟩:=cut_odd t B k false (by omega) w;obtain⟨J,q,r⟩:=cut_odd t B k true (by omega) w;rw[K] at i q;rw[L] at j r;rw[qT_sq (aY t B false),qT_sq (aY t B true),A,J,p.2.1];rw[p.2.1] at i j q r
  cases g with
  |false=>
   have:=i rfl;have:=r (by decide);simp only[sqT,Bool.false_eq_true,if_false] at f⊢
   constructor<;>grind
  |true=>
   have:=j (by decide);have:=q rfl;simp only[sqT,if_true] at f⊢
   constructor<;>grind
theorem RgT.times {E T E' T':Int}{a b:ak}(h:RgT E T a)(g:RgT E' T' b):RgT (E+E') (T+T') (aK a b):=by
 unfold RgT at*;have:=bits_mul a.n b.n
 show _≤a.e+b.e∧a.e+b.e+(bitLen (a.n*b.n):Int)≤_
 omega
theorem rg_four {E T E' T':Int}{s t:ak×ak}(h:RgS E T s)(g:RgS E' T' t)(j:Nat):RgT (E+E') (T+T') (fourT s.1 s.2 t.1 t.2 j):=by
 match j with
 |0=>exact h.1.times g.1
 |1=>exact h.1.times g.2
 |2=>exact h.2.times g.1
 |j+3=>exact h.2.times g.2
theorem Fit9.all {t:ak}(h:Fit9 t):(Dg.dg 4294967296 t.n).length≤100000000∧ -1000000000≤t.e∧t.e≤1000000000:=by
 obtain⟨a,b⟩:=h;exact⟨jq (bits_lt t.n) (by omega),by omega,by omega⟩
theorem xa_near {n k tn:Nat}(a:2≤n)(c:tn≤1){w:Rat}(d:w*(n:Rat)=1)(m:Nat)(b:NA n tn k≤m):
  ab (((2^k:Nat):Rat)*awg tn w m-(XA n tn k:Rat))≤3*(NA n tn k:Rat)+3:=by
 have h:=lp_sum (k:=k) a tn d m b;have f:=xa_ord (n:=n) (k:=k) a c;have e:(XA n tn k:Rat)=((lp (n*n) tn (k+1) 0 (2^k/n) 0 0).2.1:Rat)-((lp (n*n) tn (k+1) 0 (2^k/n) 0 0).2.2:Rat):=by
  have:(((XA n tn k+(lp (n*n) tn (k+1) 0 (2^k/n) 0 0).2.2:Nat):Rat))=((lp (n*n) tn (k+1) 0 (2^k/n) 0 0).2.1:Rat):=by
   congr 1
   unfold XA;omega
  rw[Rat.natCast_add] at this
  grind
 rw[e];exact h
end Go.Proofs.YthhiidikgchdeaaGreatDoor
