/- Texts laid together. -/
import Derived.Test.YthhiidikgchdeabGreatDoorLb18
import Derived.Test.YthhiidikgchdeabGreatDoorLb21
import Derived.Test.YthhiidikgchdeabGreatDoorLb24
set_option maxRecDepth 100000
set_option maxHeartbeats 3200000
namespace Go.Proofs.YthhiidikgchdeabGreatDoor
open _root_.Go.Proofs.Tryz
open Go.RowKit
theorem fN (Y Z:Value)(xs a:List Nat)(w:World)(ha:Rd w .i64 Y xs)(hb:Rd w .i64 Z a)(W:Dg.Small 65536 xs)(X:Dg.Small 65536 a)(ae:xs.length≤1000000)(al:a.length≤1000000):
  yC 116 #[Y,Z] w (cG w (Dg.vl 65536 xs*Dg.vl 65536 a)):=by
 obtain⟨i0,hi,a2,a3,a4⟩:=info_parts Tryz.infoI64;obtain⟨ao,ca,rfl,-,-,I⟩:=ha;obtain⟨bo,cb,rfl,-,-,J⟩:=hb
 go_enter func116,ntmps116
 go_wp2_with (at_make;refine wpList_make_full _ rfl _ _ 41 rfl w.heap.size 3 i0 (yi 0) 1 underlying41 hi a2 a3 _ _ _ _ (xs.length+a.length) rfl rfl (by omega) (by omega) ?E ?b3 (Nat.le_refl _) ?_)
 case E=>rw[a4];omega
 case b3=>unfold maxLen;omega
 intro w0 P M;have U:=gL P;have F:yB w w0:=(Below.refl _ _).grown M (Nat.le_refl _) (fun k h=>by cases h)
 clear P M
 go_wp2
 go_loopw [6] (fun C wr=> ∃(i:Nat) (d:List Nat),i≤xs.length∧C=yi i∧Own wr w.heap.size 3 .i64 (.slice (some ⟨w.heap.size,0,none⟩) (xs.length+a.length) (xs.length+a.length)) d∧Sv xs a d i∧yB w wr)
  (fun C _=>xs.length-(intOf C).toNat)
 case atStart=>exact⟨0,_,Nat.zero_le _,rfl,U,M6 xs a,F⟩
 case round=>
  obtain⟨i,d,a9,rfl,own,o,g⟩:=hrel
  by_cases z:i<xs.length
  ·obtain⟨b,r,rfl,L⟩:=I (by omega)
   have K:=L i z;have S:=W i;obtain⟨x,u⟩: ∃x,xs.getD i 0=x:=⟨_,rfl⟩;rw[u] at K S;have Hx:Hid _:=u;clear u L I U F
   go_wp2
   go_loopw [7,8] (fun cv D wr=> ∃(k c:Nat) (d:List Nat),D=yi k∧cv=yi c∧Own wr w.heap.size 3 .i64 (.slice (some ⟨w.heap.size,0,none⟩) (xs.length+a.length) (xs.length+a.length)) d∧M5 xs a d i k c∧yB w wr)
    (fun _ D _=>a.length+2-(intOf D).toNat)
   case atStart=>exact⟨0,0,d,rfl,rfl,own,M7 o,g⟩
   case round=>
    clear own o g d;obtain⟨k,c,d,rfl,rfl,own,n,g⟩:=hrel;have Q:=n.1;have a7:=n.2.2.1;have N:=n.2.2.2.2.2.1;have ac:=n.2.2.2.2.2.2.1
    by_cases q:k<a.length∨0<c
    ·have ad:k≤a.length:=by
      rcases Nat.lt_or_ge a.length k with e|e
      ·have:=N e;omega
      ·exact e
     have hp:=own.c (i+k) (by omega);have A:=n.2.1 (i+k);have a8:=own.f (i+k);have j:=Qj n W X z q _ rfl;have T:=X k;have t: ¬k<a.length→a.getD k 0=0:=fun h=>Dg.getD_of_le _ _ (by omega)
     have an:=cell_later g K;have s:k<a.length→ ∃b r,bo=some ⟨b,r,none⟩∧wr.cell? ⟨b,r+k,none⟩=some (yi ((a.getD k 0:Nat):Int)):=fun h=>by
      obtain⟨b,r,e,a0⟩:=J (by omega);exact⟨b,r,e,cell_later g (a0 k h)⟩
     rw[Hx.out] at j;obtain⟨y,H⟩: ∃y,a.getD k 0=y:=⟨_,rfl⟩;obtain⟨p,G⟩: ∃p,d.getD (i+k) 0=p:=⟨_,rfl⟩;rw[H] at T t s j;rw[G] at hp A j;clear H G N J
     by_cases v:k<a.length
     ·obtain⟨E,av,rfl,a6⟩:=s v
      have ap:=C8 S T;have ar:(x:Int)*(y:Int)≤4294836225:=by rw[←Int.natCast_mul];omega
      have aq:0≤(x:Int)*(y:Int):=by rw[←Int.natCast_mul];omega
      clear s t q
      go_wp2
      go_quiet (fail)
      go_wp2
      go_roundw
      case rel=>
       rw[Ql,Qm];exact⟨k+1,_,_,by go_num,rfl,Own.store (Own.l own (aL (Below.refl _ _) _)) (i+k) _,j,(aL g _).setCell (by exact Nat.le_refl _) _⟩
      case measure=>simp[intOf];omega
     ·have hy:=t v
      subst hy;have a5:0<c:=by omega
      simp only[Nat.mul_zero,Nat.add_zero] at j;clear s t q
      go_wp2
      go_roundw
      case rel=>
       have e1:((p:Int)+(c:Int)) % 65536=(((p+c) % 65536:Nat):Int):=by omega
       have e2:((p:Int)+(c:Int))/65536=(((p+c)/65536:Nat):Int):=by omega
       rw[e1,e2];exact⟨k+1,_,_,by go_num,rfl,own.store (i+k) _,j,g.setCell (by exact Nat.le_refl _) _⟩
      case measure=>simp[intOf];omega
    ·have h1: ¬k<a.length:=by omega
     have v: ¬0<c:=by omega
     have j:=Qk n z q;clear q
     go_wp2
     go_roundw
     case rel=>exact⟨i+1,d,by omega,by go_num,own,j,g⟩
     case measure=>simp[intOf];omega
  ·have a1:i=xs.length:=by omega
   subst a1;have Q:=o.1;have A:=o.2.1;have B:=o.2.2.2;rw[List.take_of_length_le (Nat.le_refl _)] at B;have HV:Hid _:=B;have hl:d.length≤3000000:=by omega
   clear Q B
   go_wp2_with fail
   refine(i9 _ _ _ d _ own.rd).mono ?_;rintro e w' ⟨m,rfl,O,rfl⟩;have R:=xh own A O hl;rw[HV.out] at R;clear O
   go_wp2
   go_ret
   exact⟨_,rfl,R,g⟩
theorem kD (g:Value)(xs:List Nat)(n:Nat)(w:World)(c:Rd w .i64 g xs)(q:Dg.Small 65536 xs)(j:xs.length≤1000000)(k:n≤1000000):
  yC 90 #[g,yi n] w (cG w (Dg.vl 65536 xs*2^n)):=by
 obtain⟨t,u,rfl⟩:=c.shape
 by_cases d:xs=[]
 ·subst d
  have m:Dg.vl 65536 []*2^n=0:=by simp[Dg.vl]
  rw[m]
  go_enter func90,ntmps90
  go_wp2
  go_ret
  exact⟨_,rfl,(aQ _ 0 0 _).rd,Below.refl _ _⟩
 ·have v:((xs.length:Int)==0)=false:=by simp;exact d
  have f:=pf n (n/16) (n % 16) w (by omega) (by omega) k;have x:=Fr n
  go_enter func90,ntmps90
  go_wp2_with fail
  refine f.mono ?_;rintro e s ⟨r,rfl,o,b⟩;have a:=fN _ r xs _ s (c.l b) o q (Dg.small_dg _ _ (by omega)) j (by omega);rw[Dg.vl_dg _ _ (by omega)] at a
  go_wp2_with fail
  refine a.mono ?_;rintro e z ⟨y,rfl,p,i⟩;have h:=aa b i;clear a f
  go_wp2
  go_ret
  exact⟨_,rfl,p,h⟩
theorem II (v:Value)(t:ak)(w:World)(hv:Dv w v t)(Q:(Dg.dg 4294967296 t.n).length≤200000000)(S: -4000000000≤t.e∧t.e≤4000000000)(R:Tab w)(U:tz t.n≤6400000000):
  Calls Tryz.prog 73 #[v] w (jN w (bare t)):=by
 obtain⟨s,rfl,h⟩:=hv;obtain⟨a,n,e⟩:=t;simp only at h Q S U⊢;obtain⟨f,g,rfl⟩:=h.shape;obtain⟨e1,e2⟩:=S
 by_cases u:n=0
 ·subst u
  rw[show Dg.dg 4294967296 0=[] from rfl] at h⊢
  go_enter func73,ntmps73
  rw[show bare ⟨a,0,e⟩=⟨false,0,0⟩ from by unfold bare;rfl]
  go_wp2
  go_returns
  exact⟨_,rfl,aQ _ _ _ _,((Below.refl _ _).alloc (Nat.le_refl _) _).alloc (by simp[World.size_alloc]) _⟩
 ·have H:(((Dg.dg 4294967296 n).length:Int)==0)=false:=by simp[Dg.dg_nil_iff 4294967296 n (by omega)];exact u
  have C:Hid (bare ⟨a,n,e⟩=⟨a,n/2^tz n,e+tz n⟩):=by show bare ⟨a,n,e⟩=_;unfold bare;rw[if_neg u]
  have T:=Dg.small_dg 4294967296 n (by omega);have W:=Dg.vl_dg 4294967296 n (by omega);have O:Hid (∀c,Below w.heap.size w c→Calls Tryz.prog 107 #[.slice f (Dg.dg 4294967296 n).length g] c fun e w'=>e= .returned (.int .i64 ((tz n:Nat):Int))∧w'=c):=fun c d=>by
   have:=Gl _ n c (h.l d) (by omega) (R.l d)
   rwa [if_neg u] at this
  have N:Hid (∀c,Below w.heap.size w c→Calls Tryz.prog 102 #[.slice f (Dg.dg 4294967296 n).length g,.int .i64 (-((tz n:Nat):Int))] c (Num c (n/2^tz n))):=fun c d=>by
   have:=eO _ _ (-((tz n:Nat):Int)) c (h.l d) T (by omega) (by omega) (by omega);rw[W] at this;have e:shN n (-((tz n:Nat):Int))=n/2^tz n:=by
    unfold shN
    by_cases X: -((tz n:Nat):Int)<0
    ·rw[if_pos X];congr 2;omega
    ·rw[if_neg X]
     have H:tz n=0:=by omega
     rw[H];simp
   rwa [e] at this
  obtain⟨m,B⟩: ∃m,(Dg.dg 4294967296 n).length=m:=⟨_,rfl⟩;obtain⟨k,r⟩: ∃k,tz n=k:=⟨_,rfl⟩;obtain⟨q,J⟩: ∃q,n/2^tz n=q:=⟨_,rfl⟩;rw[J,r] at C;rw[J,r,B] at N;rw[r,B] at O;rw[B] at H Q⊢;rw[r] at U;rw[C.out];clear B r J h T W C u R;have i:=(aA w (.bool a) (.slice f m g) (.int .i64 e) 48).l (af _ (.cells #[.bool false,.slice none 0 0,.int .i64 0] 48));have j:=aA (w.alloc (.cells #[.bool a,.slice f m g,.int .i64 e] 48)) (.bool false) (.slice none 0 0) (.int .i64 0) 48;have P:=aa (af w (.cells #[.bool a,.slice f m g,.int .i64 e] 48)) (af _ (.cells #[.bool false,.slice none 0 0,.int .i64 0] 48));rw[World.size_alloc] at j
  go_enter func73,ntmps73
  go_wp2_with fail
  refine(cN a f m g e _).mono ?_;rintro x c ⟨rfl,d⟩;have i:=i.l d;have j:=j.l d;have D:=aa P d;clear P d
  go_wp2_with fail
  refine(O.out c D).mono ?_;rintro x L ⟨rfl,rfl⟩;have A:Below L.heap.size L L.drew:=(Below.refl _ _).drew;have i:=i.l A;have j:=j.l A;have a2:=aa D A;obtain⟨-,⟨c0,c1,c2⟩,-⟩:=id i;clear D A;have e3:IntKind.i64.wrap (-(k:Int))= -(k:Int):=IntWalk.i64_in _ ⟨by omega,by omega⟩;have e4:IntKind.i64.wrap (e+(k:Int))=e+(k:Int):=IntWalk.i64_in _ ⟨by omega,by omega⟩
  go_wp2_with fail
  go_region_held3 (fun M=>M.cell? ⟨w.heap.size,0,none⟩=some (.bool a)∧M.cell? ⟨w.heap.size,1,none⟩=some (.slice f m g)∧M.cell? ⟨w.heap.size,2,none⟩=some (.int .i64 e)) (go_keep) (first
   | (go_at_call 65;refine(cN a f m g e _).mono ?_;rintro x w3 ⟨rfl,F⟩;have Y:=i.l F;have a0:=j.l F;have E:=aa a2 F;obtain⟨-,⟨p0,p1,p2⟩,-⟩:=id Y)
   | (go_at_call 102;refine(N.out _ E).mono ?_;rintro x w4 ⟨vs,rfl,K,G⟩;have Z:=Y.l G;have a8:=a0.l G;have a3:=aa E G;obtain⟨z,y,a6⟩:=K.rd.shape;subst a6;obtain⟨-,⟨q0,q1,q2⟩,-⟩:=id Z)
   | (go_at_call 64;refine(l9 a z _ y _ _).mono ?_;rintro x w5 ⟨rfl,o⟩;have a1:=a8.l o;have a7:=Z.l o;obtain⟨-,⟨r0,r1,r2⟩,-⟩:=id a7;have a4:=aa a3 o;have ad:=K.rd.l o;obtain⟨ac,⟨d0,d1,d2⟩,f0,f1,f2⟩:=id a1))
  all_goals go_wp2
  have l5:=aD a1 (.bool a) (.slice z (Dg.dg 4294967296 q).length y) (.int .i64 (e+(k:Int)));have I:w.heap.size≤w.heap.size+1:=by omega
  have a5:=((a4.setCell (p:=⟨w.heap.size+1,0,none⟩) I (.bool a)).setCell (p:=⟨w.heap.size+1,1,none⟩) I (.slice z (Dg.dg 4294967296 q).length y)).setCell (p:=⟨w.heap.size+1,2,none⟩) I (.int .i64 (e+(k:Int)));have a9:=(K.l o).apart3 (b:=w.heap.size+1) a0.1 (.bool a) (.slice z (Dg.dg 4294967296 q).length y) (.int .i64 (e+(k:Int)));obtain⟨-,⟨g0,g1,g2⟩,-⟩:=l5;refine bodyPost_ret (v:= .agg #[.bool a,.slice z (Dg.dg 4294967296 q).length y,.int .i64 (e+(k:Int))]) (by simp[results,results73,go_sem,g0,g1,g2]) rfl ?_;exact⟨_,rfl,a9.lower E.size,a5⟩
theorem narrow_W (a b:ak)(f o:Option Addr)(d j:Nat)(x:ak)(n k m c:Int)(w:World)(ra:Rd w .u32 (yT f a.n d) (Dg.dg 4294967296 a.n))(hk:IntKind.i64.wrap (-n)=k)(hc:c≤0)
  (y:yH w 95 #[.agg #[.bool false,yT f a.n d,yi a.e,.bool false,yT o b.n j,yi b.e]] (.bool true))
  (A: ∀i,yB w i→yC 75 #[ydV false (yT o b.n j) b.e,ydV false (yT f a.n d) a.e] i (Lx i x))
  (B:yJ 29 #[ydV false (yT f a.n d) a.e] (ydV false (yT f a.n d) a.e))
  (z:yJ 84 #[ydV false (yT f a.n d) a.e,yi k] (ydV false (yT f a.n d) m))
  (v: ∀xo xc i,yB w i→Rd i .u32 (yT xo x.n xc) (Dg.dg 4294967296 x.n)→Rd i .u32 (yT f a.n d) (Dg.dg 4294967296 a.n)→yC 42 #[yDV x xo xc,ydV false (yT f a.n d) m] i (yR i (yi c))):
  yC 58 #[.agg #[.bool false,yT f a.n d,yi a.e,.bool false,yT o b.n j,yi b.e],yi n] w (yR w (.bool true)):=by
 replace y:Hid _:=y;replace A:Hid _:=A;replace B:Hid _:=B;replace z:Hid _:=z;replace v:Hid _:=v;obtain⟨C,I,q1,E⟩:=cA w [.bool false,yT f a.n d,yi a.e,.bool false,yT o b.n j,yi b.e] 54;replace I:Hid _:=I;have r5:=ra.l E;clear ra
 go_enter func58,ntmps58
 go_upto_region 1 with fail
 rw[I.out];clear I;obtain⟨O,J,q9,D⟩:=cA C (ydL false (yT f a.n d) a.e) 48;replace J:Hid _:=J;have b6:w.heap.size≤C.heap.size:=E.size;have b7:=q1.lt;have ar:=q1.c 0 rfl;have av:=q1.c 1 rfl;have ax:=q1.c 2 rfl;have T:=q1.l D;have a8:=r5.l D;have a5:=aa E D;clear q1 r5 E D
 go_upto_region 2 with fail
 rw[J.out];clear ar av ax J;have ay:=T.c 0 rfl
 go_upto_region 4 with fail
 clear ay;have s:yB O O.drew:=(Below.refl _ _).drew;have L:=T.l s;have M:=q9.l s;have a4:=a8.l s;have F:=aa a5 s;clear T q9 a8 a5 s;refine wp_region_held_drew (S:=fun wq=>au wq w.heap.size 54 [.bool false,yT f a.n d,yi a.e,.bool false,yT o b.n j,yi b.e]∧au wq C.heap.size 48 (ydL false (yT f a.n d) a.e)) (by kernel_rfl) ⟨L,M⟩ (fun R=> ?_)
 generalize O.drew=b5 at L M a4 F R⊢;refine tq 0 (.agg #[.bool false,yT f a.n d,yi a.e,.bool false,yT o b.n j,yi b.e]) rfl (fun _ p=>fy 54 (.tmp 2) rfl w.heap.size 0 (by kernel_rfl) _ _ p.1.range underlying54 rfl (by kernel_rfl)) R ?_
 refine wpAnyH_ready (rs:=[1]) (by kernel_rfl) (by simp) ?_;refine AllReadyH.cons rfl (fun K g=> ?_) AllReadyH.nil
 go_simp
 refine(y.out _ F).mono ?_;rintro N b9 ⟨rfl,t⟩;have U:=L.l t;have W:=M.l t;have a9:=a4.l t;have P:=aa F t;clear L M a4 F t y;refine g.out _ _ ⟨U,W⟩ (fun h=> ?_)
 clear g K;refine tq 2 (.bool true) rfl (fun _ _=>by kernel_rfl) h ?_
 refine tq 3 (.pointer (some ⟨w.heap.size,3,none⟩)) rfl (fun _ _=>by kernel_rfl) h ?_
 refine tq 4 (ydV false (yT o b.n j) b.e) rfl (fun _ p=>fy 48 (.tmp 17) rfl w.heap.size 3 (by kernel_rfl) _ _ (kY p.1 3 3 rfl) underlying48 rfl (by kernel_rfl)) h ?_
 refine tq 5 (.pointer (some ⟨w.heap.size,0,none⟩)) rfl (fun _ _=>by kernel_rfl) h ?_
 refine tq 6 (ydV false (yT f a.n d) a.e) rfl (fun _ p=>fy 48 (.tmp 19) rfl w.heap.size 0 (by kernel_rfl) _ _ (kY p.1 0 3 rfl) underlying48 rfl (by kernel_rfl)) h ?_
 refine tq 8 (ydV false (yT f a.n d) a.e) rfl (fun _ p=>fy 48 (.tmp 5) rfl C.heap.size 0 (by kernel_rfl) _ _ p.2.range underlying48 rfl (by kernel_rfl)) h ?_
 refine tq 10 (yi n) rfl (fun _ _=>by kernel_rfl) h ?_
 refine tq 11 (yi k) rfl (fun _ _=>by go_simp) h ?_
 refine wpAnyH_ready (rs:=[7]) (by kernel_rfl) (by simp) ?_;refine AllReadyH.cons rfl (fun K g=> ?_) AllReadyH.nil
 go_simp
 refine(A.out _ P).mono ?_;rintro N ba ⟨b8,rfl,a3,u⟩;have X:=U.l u;have Y:=W.l u;have ad:=a9.l u;have a6:=aa P u;obtain⟨xo,xc,hv⟩:=a3.shape;subst hv;clear U W a9 P u A;refine g.out _ _ ⟨X,Y⟩ (fun az=> ?_)
 clear g K;refine wpAnyH_ready (rs:=[9]) (by kernel_rfl) (by simp) ?_;refine AllReadyH.cons rfl (fun K g=> ?_) AllReadyH.nil
 go_simp
 refine(B.out _).mono ?_;rintro N bb ⟨rfl,q⟩;have Z:=X.l q;have a0:=Y.l q;have ae:=ad.l q;have al:=a3.l q;have a7:=aa a6 q;clear X Y ad a3 a6 q B;refine g.out _ _ ⟨Z,a0⟩ (fun b0=> ?_)
 clear g K;refine wpAnyH_ready (rs:=[12]) (by kernel_rfl) (by simp) ?_;refine AllReadyH.cons rfl (fun K g=> ?_) AllReadyH.nil
 go_simp
 refine(z.out _).mono ?_;rintro N bd ⟨rfl,r⟩;have a1:=Z.l r;have a2:=a0.l r;have an:=ae.l r;have ap:=al.l r;have Q:=aa a7 r;clear Z a0 ae al a7 r z;refine g.out _ _ ⟨a1,a2⟩ (fun b1=> ?_)
 clear g K;refine wpAnyH_ready (rs:=[13]) (by kernel_rfl) (by simp) ?_;refine AllReadyH.cons rfl (fun K g=> ?_) AllReadyH.nil
 go_simp
 refine(v.out _ _ _ Q ap an).mono ?_;rintro N be ⟨rfl,G⟩;have b3:=a1.l G;have b4:=a2.l G;have aq:=aa Q G;clear a1 a2 an ap Q G v;refine g.out _ _ ⟨b3,b4⟩ (fun H=> ?_)
 clear g K;refine tq 14 (.bool true) rfl (fun _ _=>by go_simp) H ?_
 refine tq 15 (.bool true) rfl (fun _ _=>by kernel_rfl) H ?_
 refine tq 16 (.bool true) rfl (fun _ _=>by kernel_rfl) H ?_
 refine wpAnyH_done (by kernel_rfl) ?_ _;clear R h az b0 b1 H;simp only[Act.put,List.getElem_toArray,List.getElem_cons_succ,List.getElem_cons_zero,List.setIfInBounds_toArray,List.set_cons_zero,List.set_cons_succ]
 go_wp2
 go_ret
 exact⟨by simp,aq⟩
theorem exp_neg (a:ak)(H:Option Addr)(G:Nat)(x y p q c u v:ak)(n:Nat)(k e f:Int)(w:World)(ra:Rd w .u32 (yT H a.n G) (Dg.dg 4294967296 a.n))(hn:IntKind.i64.wrap n=(n:Int))
  (T:yJ 29 #[ydV true (yT H a.n G) a.e] (ydV false (yT H a.n G) a.e))
  (U: ∀b,yB w b→Rd b .u32 (yT H a.n G) (Dg.dg 4294967296 a.n)→yC 77 #[ydV false (yT H a.n G) a.e,yi k,.func (.func 78) #[] #[]] b (KRd b n x y))
  (W: ∀xo xc yo yc b,yB w b→Rd b .u32 (yT xo x.n xc) (Dg.dg 4294967296 x.n)→Rd b .u32 (yT yo y.n yc) (Dg.dg 4294967296 y.n)→yC 79 #[.agg #[.bool x.s,yT xo x.n xc,yi x.e,.bool y.s,yT yo y.n yc,yi y.e],yi k,.func (.func 80) #[] #[]] b (aeT b p q))
  (X: ∀no nc b,yB w b→Rd b .u32 (yT no n nc) (Dg.dg 4294967296 n)→yC 82 #[yT no n nc] b (yR b (.int .u64 n)))
  (Y: ∀A z C B b,yC 81 #[.agg #[.bool p.s,yT A p.n z,yi p.e,.bool q.s,yT C q.n B,yi q.e],yi n] b (yR b (.agg #[.bool p.s,yT A p.n z,yi e,.bool q.s,yT C q.n B,yi f])))
  (H6: ∀b,yB w b→yC 25 #[yi 1] b (aeT b c c))
  (H7: ∀co cc zo zc A z C B b,yB w b→Rd b .u32 (yT co c.n cc) (Dg.dg 4294967296 c.n)→Rd b .u32 (yT zo c.n zc) (Dg.dg 4294967296 c.n)→Rd b .u32 (yT A p.n z) (Dg.dg 4294967296 p.n)→Rd b .u32 (yT C q.n B) (Dg.dg 4294967296 q.n)→yC 83 #[.agg #[.bool c.s,yT co c.n cc,yi c.e,.bool c.s,yT zo c.n zc,yi c.e],.agg #[.bool p.s,yT A p.n z,yi e,.bool q.s,yT C q.n B,yi f],yi k] b (aeT b u v)):
  yC 45 #[ydV true (yT H a.n G) a.e,yi k] w (aeT w u v):=by
 replace T:Hid _:=T;replace U:Hid _:=U;replace W:Hid _:=W;replace X:Hid _:=X;replace Y:Hid _:=Y;replace H6:Hid _:=H6;replace H7:Hid _:=H7;obtain⟨W4,a2,q1,q2,b3⟩:=iG w (ydL true (yT H a.n G) a.e) 48 [.bool false,yN,yi 0,.bool false,yN,yi 0] 54;replace a2:Hid _:=a2;have r6:=ra.l b3;clear ra
 go_enter func45,ntmps45
 go_upto_region 1 with fail
 rw[a2.out];clear a2;obtain⟨c7,c8,c9⟩:=q1.cs3
 go_wp2_with fail
 refine(T.out _).mono ?_;rintro O f4 ⟨rfl,Q⟩;have c3:=q1.l Q;have c4:=q2.l Q;have bh:=r6.l Q;have al:=aa b3 Q;clear q1 q2 r6 b3 Q T c7 c8 c9
 go_wp2_with fail
 refine(U.out _ al bh).mono ?_;rintro O dv ⟨ev,f1,f3,rfl,bm,bo,bs,R⟩;have az:=c3.l R;have b0:=c4.l R;have cv:=bh.l R;have an:=aa al R;obtain⟨no,nc,d⟩:=bm.shape;subst d;obtain⟨xo,xc,d⟩:=bo.shape;subst d;obtain⟨yo,yc,d⟩:=bs.shape;subst d;clear c3 c4 bh al R U;obtain⟨ej,a1,ca,D⟩:=cA dv [.bool x.s,yT xo x.n xc,yi x.e,.bool y.s,yT yo y.n yc,yi y.e] 54;replace a1:Hid _:=a1;have el:w.heap.size≤dv.heap.size:=an.size;have em:=az.lt;have en:=b0.lt;have cb:=az.l D;have cd:=b0.l D;have cw:=cv.l D;have cx:=bm.l D;have bq:=bo.l D;have bt:=bs.l D;have ap:=aa an D;clear az b0 cv bm bo bs an D
 go_upto_region 2 with fail
 rw[a1.out];clear a1;obtain⟨dy,e0,e1,e2,e3,e4⟩:=ca.cs6
 go_wp2_with fail
 refine(W.out _ _ _ _ _ ap bq bt).mono ?_;rintro O f6 ⟨ex,f2,rfl,bn,bp,E⟩;have ce:=cb.l E;have cg:=cd.l E;have cy:=cw.l E;have bv:=cx.l E;have cz:=bq.l E;have d0:=bt.l E;have aq:=aa ap E;obtain⟨A,z,d⟩:=bn.shape;subst d;obtain⟨C,B,d⟩:=bp.shape;subst d;clear cb cd ca cw cx bq bt ap E W dy e0 e1 e2 e3 e4
 go_wp2_with fail
 refine(X.out _ _ _ aq bv).mono ?_;rintro O f7 ⟨rfl,r⟩;have ch:=ce.l r;have ci:=cg.l r;have d1:=cy.l r;have d2:=bv.l r;have d3:=cz.l r;have d4:=d0.l r;have d5:=bn.l r;have d6:=bp.l r;have bz:=aa aq r;clear ce cg cy bv cz d0 bn bp aq r X
 go_wp2_with fail
 refine(Y.out _ _ _ _ _).mono ?_;rintro O a9 ⟨rfl,t⟩;have b1:=ch.l t;have b2:=ci.l t;have d7:=d1.l t;have d9:=d2.l t;have da:=d3.l t;have db:=d4.l t;have dc:=d5.l t;have dd:=d6.l t;have ar:=aa bz t;clear ch ci d1 d2 d3 d4 d5 d6 bz t Y;obtain⟨ad,a3,cj,j⟩:=cA a9 [.bool p.s,yT A p.n z,yi e,.bool q.s,yT C q.n B,yi f] 54;replace a3:Hid _:=a3;have eo:w.heap.size≤a9.heap.size:=ar.size;have ep:=b1.lt;have es:=b2.lt;have ck:=b1.l j;have cl:=b2.l j;have dl:=d7.l j;have dn:=d9.l j;have dp:=da.l j;have dq:=db.l j;have ds:=dc.l j;have dt:=dd.l j;have c0:=aa ar j;clear b1 b2 d7 d9 da db dc dd ar j
 go_upto_region 3 with fail
 rw[a3.out];clear a3;have e5:=ck.c 0 rfl
 go_upto_region 4 with fail
 clear e5;have m:yB ad ad.drew:=(Below.refl _ _).drew;have av:=cl.l m;have a4:=cj.l m;have b4:=dl.l m;have b5:=dn.l m;have b6:=dp.l m;have b7:=dq.l m;have b8:=ds.l m;have b9:=dt.l m;have Z:=aa c0 m;clear ck cl cj dl dn dp dq ds dt c0 m;refine wp_region_held_drew (S:=fun wq=>au wq a9.heap.size 54 [.bool p.s,yT A p.n z,yi e,.bool q.s,yT C q.n B,yi f]) (by kernel_rfl) a4 (fun a0=> ?_)
 generalize ad.drew=ek at av a4 b4 b5 b6 b7 b8 b9 Z a0⊢;refine tq 1 (.agg #[.bool p.s,yT A p.n z,yi e,.bool q.s,yT C q.n B,yi f]) rfl (fun _ e9=>fy 54 (.tmp 7) rfl a9.heap.size 0 (by kernel_rfl) _ _ e9.range underlying54 rfl (by kernel_rfl)) a0 ?_
 refine tq 2 (yi k) rfl (fun _ _=>by kernel_rfl) a0 ?_
 refine wpAnyH_ready (rs:=[0]) (by kernel_rfl) (by simp) ?_;refine AllReadyH.cons rfl (fun K F=> ?_) AllReadyH.nil
 go_simp
 refine(H6.out _ Z).mono ?_;rintro O f5 ⟨et,ey,rfl,a5,a7,o⟩;have c2:=av.l o;have ax:=a4.l o;have cm:=b4.l o;have cn:=b5.l o;have cp:=b6.l o;have cr:=b7.l o;have ba:=b8.l o;have bb:=b9.l o;have ae:=aa Z o;obtain⟨co,cc,d⟩:=a5.shape;subst d;obtain⟨zo,zc,d⟩:=a7.shape;subst d;clear av a4 b4 b5 b6 b7 b8 b9 Z o H6;refine F.out _ _ ax (fun e6=> ?_)
 clear F K;refine wpAnyH_ready (rs:=[3]) (by kernel_rfl) (by simp) ?_;refine AllReadyH.cons rfl (fun K F=> ?_) AllReadyH.nil
 go_simp
 refine(H7.out _ _ _ _ _ _ _ _ _ ae a5 a7 ba bb).mono ?_;rintro O N ⟨eu,f0,rfl,a6,a8,i⟩;have h:=c2.l i;have ay:=ax.l i;have bc:=cm.l i;have bd:=cn.l i;have be:=cp.l i;have bf:=cr.l i;have bg:=ba.l i;have bi:=bb.l i;have bj:=a5.l i;have bl:=a7.l i;have bw:=aa ae i;obtain⟨J,I,d⟩:=a6.shape;subst d;obtain⟨M,L,d⟩:=a8.shape;subst d;clear c2 ax cm cn cp cr ba bb a5 a7 ae i H7;refine F.out _ _ ay (fun e7=> ?_)
 clear F K;refine wpAnyH_ready (rs:=[4]) (by kernel_rfl) (by simp) ?_;refine AllReadyH.cons rfl (fun K F=> ?_) AllReadyH.nil
 have g:But (w.heap.size+1) N (N.setCells (w.heap.size+1) 0 [.bool u.s,yT J u.n I,yi u.e,.bool v.s,yT M v.n L,yi v.e]):=de _ _ _ _;have c1:N.there (w.heap.size+1) 0 6:=dD h;have c5:au (N.setCells (w.heap.size+1) 0 [.bool u.s,yT J u.n I,yi u.e,.bool v.s,yT M v.n L,yi v.e]) (w.heap.size+1) 54 [.bool u.s,yT J u.n I,yi u.e,.bool v.s,yT M v.n L,yi v.e]:=h.sets _ rfl;have ea:=g.rd bc (aX bc h (by simp));have eb:=g.rd bd (aX bd h (by simp));have ec:=g.rd be (aX be h (by simp));have ed:=g.rd bf (aX bf h (by simp));have ee:=g.rd bg (aX bg h (by simp));have ef:=g.rd bi (aX bi h (by simp));have eg:=g.rd bj (aX bj h (by simp));have eh:=g.rd bl (aX bl h (by simp));have cs:=g.rd a6 (aX a6 h (by simp));have ct:=g.rd a8 (aX a8 h (by simp));have c6:=g.loc ay (by omega);have bx:=g.below bw (by omega);rw[if_pos (by kernel_rfl)];refine wp_store_mid 54 (.tmp 4) (.tmp 28) rfl (w.heap.size+1) 0 #[.bool u.s,yT J u.n I,yi u.e,.bool v.s,yT M v.n L,yi v.e] (by kernel_rfl) (by kernel_rfl) c1 (by kernel_rfl) (by simp[Value.oneCell']) ?_;refine F.out _ _ c6 (fun e8=> ?_)
 clear F K;clear h bc bd be bf bg bi bj bl a6 a8 ay bw g c1;refine wpAnyH_done (by kernel_rfl) ?_ _;clear a0 e6 e7 e8;change Exit.then _ _ _ _ (World.setCells N (w.heap.size+1) 0 [.bool u.s,yT J u.n I,yi u.e,.bool v.s,yT M v.n L,yi v.e]);generalize World.setCells N (w.heap.size+1) 0 [.bool u.s,yT J u.n I,yi u.e,.bool v.s,yT M v.n L,yi v.e]=ei at c5 c6 ea eb ec ed ee ef eg eh cs ct bx⊢;simp only[Act.put,List.getElem_toArray,List.getElem_cons_succ,List.getElem_cons_zero];have hl:=run_loadVar_mid (P:=Tryz.prog) _ (w.heap.size+1) 0 54 [.bool u.s,yT J u.n I,yi u.e,.bool v.s,yT M v.n L,yi v.e] _ c5.range underlying54 rfl (by kernel_rfl)
 go_wp2
 exact bodyPost_ret (br results45 rfl hl) rfl ⟨_,_,rfl,cs,ct,bx⟩
theorem taken_none_ln (a:ak)(c:Option Addr)(b:Nat)(x y:ak)(k g:Int)(w:World)(I:Rd w .u32 (yT c a.n b) (Dg.dg 4294967296 a.n))(hg:g<0)
  (m: ∀d,yB w d→Rd d .u32 (yT c a.n b) (Dg.dg 4294967296 a.n)→yC 53 #[yDV a c b] d (yR d (yi g)))
  (j:yJ 61 #[yDV a c b] (.agg #[.bool a.s,yT c a.n b,yi a.e,.bool a.s,yT c a.n b,yi a.e]))
  (i: ∀d,yB w d→Rd d .u32 (yT c a.n b) (Dg.dg 4294967296 a.n)→yC 55 #[.agg #[.bool a.s,yT c a.n b,yi a.e,.bool a.s,yT c a.n b,yi a.e],yi k] d (aeT d x y)):
  yC 77 #[yDV a c b,yi k,.func (.func 78) #[] #[]] w (KRd w 0 x y):=by
 replace m:Hid _:=m;replace j:Hid _:=j;replace i:Hid _:=i;obtain⟨W4,r,q1,q2,o⟩:=iG w (yDL a c b) 48 [.bool false,yN,yi 0,.bool false,yN,yi 0] 54;replace r:Hid _:=r;have B:=I.l o;clear I
 go_enter func77,ntmps77
 go_upto_region 1 with fail
 rw[r.out];clear r;obtain⟨Q,R,S⟩:=q1.cs3
 go_wp2_with fail
 refine(m.out _ o B).mono ?_;rintro J a2 ⟨rfl,f⟩;have E:=q1.l f;have F:=q2.l f;have H:=B.l f;have C:=aa o f;clear q1 q2 B o f m Q R S;obtain⟨M,N,O⟩:=E.cs3
 go_wp2_with fail
 refine(j.out _).mono ?_;rintro J a3 ⟨rfl,p⟩;have G:=F.l p;have A:=H.l p;have v:=aa C p;clear E F H C p j M N O
 go_wp2_with fail
 refine(i.out _ v A).mono ?_;rintro J a4 ⟨a0,a1,rfl,t,u,q⟩;have h:=G.l q;have U:=A.l q;have D:=aa v q;obtain⟨Z,Y,z⟩:=t.shape;subst z;obtain⟨yo,yc,z⟩:=u.shape;subst z;clear G A v q i;have hf:=fin6 (P:=Tryz.prog) h D (by omega) underlying54 rfl (by kernel_rfl) (.bool x.s) (yT Z x.n Y) (yi x.e) (.bool y.s) (yT yo y.n yc) (yi y.e);have K:Hid (_∧_∧_∧_):=⟨hf.1,hf.2.2.rd t (aX t h (by simp)),hf.2.2.rd u (aX u h (by simp)),hf.2.1⟩;obtain⟨⟨z0,z1,z2,z3,z4,z5⟩,y0,y1,y2,y3,y4,y5⟩:=csf6 h;clear hf h U t u D
 go_wp2
 obtain⟨T,W,X,L⟩:=K.out;exact bodyPost_ret (results_tc results77 rfl rfl T) rfl ⟨_,_,_,rfl,aN _ _,W,X,L⟩
theorem qT_neg (a:ak):qT (dV a)= -qT a:=by
 obtain⟨K,b,-⟩:=low2 a.e 0;refine qT_inj (K:=K) ?_;rw[←qT_V (show-(K:Int)≤(dV a).e from b),pC,Rat.intCast_neg,qT_V b]
 grind
theorem lt_V {K:Nat}{a b:ak}(d: -(K:Int)≤a.e)(f: -(K:Int)≤b.e):V K a<V K b↔qT a<qT b:=by
 have:=le_V f d
 constructor
 ·intro h
  by_cases c:qT a<qT b
  ·exact c
  ·have:=this.2 (by grind)
   omega
 ·intro h
  by_cases c:V K a<V K b
  ·exact c
  ·have:=this.1 (by omega)
   grind
theorem cmp_lt (a b:ak):bJ a b<0↔qT a<qT b:=by
 obtain⟨K,c,d⟩:=low2 a.e b.e;rw[uO c d,lt_V c d]
theorem neg_iv (a b:ak):ivT (dV b) (dV a)=IvN.neg (ivT a b):=by
 unfold ivT IvN.neg;rw[qT_neg,qT_neg]
theorem neg_ivS (s:ak×ak):ivS (negS s)=IvN.neg (ivS s):=neg_iv _ _
def restE (x:ak)(B:Nat)(one:ak×ak):Nat×(ak×ak):=
 if x.e+(bitLen x.n:Int)<0 then(0,cutSp (x,x) B)
 else
  let N:=nearT (cK x one.1 ((x.e+(bitLen x.n:Int)).toNat+32))
  (N,cutSp (plusS (x,x) (negS (timesS one (wTr N,wTr N)))) B)
def overS4 (s t:ak×ak)(B:Nat):ak×ak:=cutSp (loT (fourO s.1 s.2 t.1 t.2 B) 3,hiT (fourO s.1 s.2 t.1 t.2 B) 3) B
theorem la_win (n:Nat)(h:1≤n):69/100+1/1000≤CxN.la n∧CxN.la n≤695/1000:=by
 have one: ∀w:Rat,0≤w→w≤1/2→ab (aw w n-w)≤w*(w*w)*(4/3):=fun w a i=>by
  have:=awg_rest 0 a i 1 (n-1);rw[show 1+(n-1)=n by omega,awg_aw,awg_aw] at this
  have f:aw w 1=w:=by
   simp only[aw,rs,awt,rp];have:((2*0+1:Nat):Rat)=1:=rfl;rw[this]
   grind
  have g:rp w (2*1+1)=w*(w*w):=by simp only[rp];grind
  rw[f,g] at this;have b:=hf_pos (n-1);have l:=Rat.mul_nonneg (Rat.le_of_lt b) (Rat.le_of_lt b);have k:=Rat.mul_nonneg a (Rat.mul_nonneg a a);have:=Rat.mul_le_mul_of_nonneg_left (show 4/3-4/3*(hf (n-1)*hf (n-1))≤4/3 by grind) k
  grind
 have c:=one (1/26) (by grind) (by grind);have d:=one (1/4801) (by grind) (by grind);have e:=one (1/8749) (by grind) (by grind);have j:CxN.la n=18*aw (1/26) n-2*aw (1/4801) n+8*aw (1/8749) n:=by
  unfold CxN.la;have:(-1/4801:Rat)= -(1/4801):=by grind
  rw[this,aw_neg]
  grind
 rw[j];rw[ab_le] at c d e;generalize aw (1/26) n=A at*;generalize aw (1/4801) n=B at*;generalize aw (1/8749) n=C at*
 constructor<;>grind
theorem dminus9 (v u:Value)(a b:ak)(w:World)(f:Dv w v a)(e:Dv w u b)(c:Fit9 a)(d:Fit9 b):yC 75 #[v,u] w (Lx w (aG a (dV b))):=by
 obtain⟨l,g,i⟩:=c.all;obtain⟨m,j,k⟩:=d.all;exact(FT _ _ a b w f e (by omega) (by omega) (by omega) (by omega) (by omega) (by omega)).mono fun _ _ h=>h.vres
def lgZ (x:ak)(B:Nat):ak×ak:=overS4 (aG (lgY x) (dV (wTr 1)),aG (lgY x) (dV (wTr 1))) (aG (lgY x) (wTr 1),aG (lgY x) (wTr 1)) B
theorem lg_y {x:ak}(A:x.s=false)(y:x.n≠0):3/4≤qT (lgY x)∧qT (lgY x)≤3/2∧qT x=p2 (lgP x)*qT (lgY x):=by
 have B:ab (qT x)=qT x:=by
  rw[qT_ab,qT_sq,A];simp only[sqT,Bool.false_eq_true,if_false]
  grind
 obtain⟨b,d⟩:=qT_top y;rw[B] at b d;obtain⟨a,z⟩: ∃a,x.e+(bitLen x.n:Int)=a:=⟨_,rfl⟩;have l:qT (lgY x)=p2 (-lgP x)*qT x:=by unfold lgY;rw[qT_up]
 have k:qT x=p2 (lgP x)*qT (lgY x):=by
  rw[l];have:p2 (lgP x)*(p2 (-lgP x)*qT x)=p2 (lgP x)*p2 (-lgP x)*qT x:=by grind
  rw[this,←p2_add,show lgP x+ -lgP x=0 by omega,p2_zero]
  grind
 have m:3/4≤p2 (-lgP x)*qT x∧p2 (-lgP x)*qT x≤3/2:=by
  unfold lgP;rw[z] at b d⊢;have h:qT (upT (wTr 3) (a-2))=3*p2 (a-2):=by
   rw[qT_up,qT_w];have:((3:Nat):Rat)=3:=rfl;rw[this]
   grind
  have C:=p2_pos (a-2);have p:p2 (a-1)=2*p2 (a-2):=by rw[show a-1=1+(a-2) by omega,p2_add,p2_one]
  have t:p2 a=4*p2 (a-2):=by
   have:p2 a=p2 2*p2 (a-2):=by rw[←p2_add];congr 1;omega
   rw[this];have:p2 2=4:=by decide+kernel
   rw[this]
  have u:p2 (-a)*p2 (a-2)=1/4:=by
   rw[←p2_add,show-a+(a-2)= -2 by omega]
   have:=p2_neg 2;have w:p2 2=4:=by decide+kernel
   rw[w] at this
   grind
  have v:p2 (-(a-1))*p2 (a-2)=1/2:=by
   rw[←p2_add,show-(a-1)+(a-2)= -1 by omega,p2_mhalf]
  have i:=p2_pos (-a);have j:=p2_pos (-(a-1));rw[p] at b;rw[t] at d;have o: ∀r q c:Rat,r*(c*q)=c*(r*q):=fun r q c=>by grind
  by_cases c:bJ x (upT (wTr 3) (a-2))<0
  ·rw[if_pos c]
   rw[cmp_lt,h] at c;have f:=Rat.mul_le_mul_of_nonneg_left b (Rat.le_of_lt j);have g:=Rat.mul_le_mul_of_nonneg_left (Rat.le_of_lt c) (Rat.le_of_lt j);rw[o,v] at f g
   constructor<;>grind
  ·rw[if_neg c]
   rw[cmp_lt,h] at c;have f:=Rat.mul_le_mul_of_nonneg_left (show 3*p2 (a-2)≤qT x by grind) (Rat.le_of_lt i)
   have g:=Rat.mul_le_mul_of_nonneg_left (Rat.le_of_lt d) (Rat.le_of_lt i);rw[o,u] at f g
   constructor<;>grind
 rw[l] at k⊢;exact⟨m.1,m.2,k⟩
theorem oddNext_any (k:Nat)(w:World)(d:k≤100000):yC 115 #[yi ((k+1:Nat):Int)] w (yR w (.tuple #[yi ((nxA (k+1)).1:Int),yi ((nxA (k+1)).2:Int)])):=by
 have a:((nxA (k+1)).1:Int)=2*((k+1:Nat):Int)-1:=by show((2*(k+1)-1:Nat):Int)=_;omega
 have b:((nxA (k+1)).2:Int)=2*((k+1:Nat):Int)+1:=by show((2*(k+1)+1:Nat):Int)=_;omega
 rw[a,b];obtain⟨j,c⟩: ∃j:Int,((k+1:Nat):Int)=j:=⟨_,rfl⟩;rw[c];have e:IntKind.i64.wrap (2*j)=2*j:=IntWalk.i64_in _ ⟨by omega,by omega⟩;have f:IntKind.i64.wrap (2*j-1)=2*j-1:=IntWalk.i64_in _ ⟨by omega,by omega⟩;have g:IntKind.i64.wrap (2*j+1)=2*j+1:=IntWalk.i64_in _ ⟨by omega,by omega⟩;clear c a b
 go_enter func115,ntmps115
 go_wp2
 go_ret2
 exact⟨rfl,Below.refl _ _⟩
theorem dplus9 (v u:Value)(a b:ak)(w:World)(f:Dv w v a)(e:Dv w u b)(c:Fit9 a)(d:Fit9 b):yC 32 #[v,u] w (Lx w (aG a b)):=by
 obtain⟨l,g,i⟩:=c.all;obtain⟨m,j,k⟩:=d.all;exact(uj _ _ a b w f e (by omega) (by omega) (by omega) (by omega) (by omega) (by omega)).mono fun _ _ h=>h.vres
end Go.Proofs.YthhiidikgchdeabGreatDoor
