/- Texts laid together. -/
import Derived.Test.YthhiidikgchdeaaGreatDoorKs15
import Derived.Test.YthhiidikgchdeaaGreatDoorKs16
import Derived.Test.YthhiidikgchdeaaGreatDoorKs26
set_option maxRecDepth 100000
set_option maxHeartbeats 3200000
namespace Go.Proofs.YthhiidikgchdeaaGreatDoor
open _root_.Go.Proofs.Tryz
open Go.RowKit
theorem ew (va vb:Value)(xs a:List Nat)(w:World)(ha:Rd w .i64 va xs)(hb:Rd w .i64 vb a)(Y:Dg.Small 65536 xs)(Z:Dg.Small 65536 a)(na:Dg.Norm xs)(nb:Dg.Norm a)(a9:xs.length≤2000000)(ac:a.length≤2000000):
  yC 86 #[va,vb] w (cG w (Dg.vl 65536 xs+Dg.vl 65536 a)):=by
 obtain⟨ao,ca,rfl,-,-,Q⟩:=ha;obtain⟨bo,cb,rfl,-,-,S⟩:=hb;obtain⟨L,G,I,J,K⟩:=info_parts Tryz.infoI64
 go_enter func86,ntmps86
 go_wp2
 go_loopw [5,6,7] (fun ov cv N wr=> ∃(k c:Nat) (s:List Nat),k≤2000001∧(2000000<k→c=0)∧N=yi k∧cv=yi c∧Own wr w.heap.size 3 .i64 ov s∧abk xs a s k c∧yB w wr) (fun _ _ N _=>2000002-(intOf N).toNat)
 case atStart=>exact⟨0,0,[],by omega,fun _=>rfl,rfl,rfl,aQ _ _ _ _,⟨rfl,Dg.small_nil _ (by omega),by omega,by simp[Dg.vl],fun h=>by omega⟩,Below.refl _ _⟩
 case round=>
  obtain⟨k,c,s,hk,W,rfl,rfl,own,C,B⟩:=hrel;have a7:=C.2.2.1;have X:=C.1;have a5:=B.size
  by_cases p:k<xs.length∨k<a.length∨0<c
  ·have a8:k≤2000000:=by
    rcases Nat.lt_or_ge 2000000 k with h|h
    ·have:=W h;omega
    ·exact h
   have a1:=Y k;have a2:=Z k;have r: ¬k<xs.length→xs.getD k 0=0:=fun h=>Dg.getD_of_le _ _ (by omega)
   have o: ¬k<a.length→a.getD k 0=0:=fun h=>Dg.getD_of_le _ _ (by omega)
   have A:=fun t ht=>UL C na nb Y Z p t ht
   have H:2000000<k+1→(c+xs.getD k 0+a.getD k 0)/65536=0:=fun h=>by
    rw[r (by omega),o (by omega)];omega
   have z:k<xs.length→ ∃b j,ao=some ⟨b,j,none⟩∧wr.cell? ⟨b,j+k,none⟩=some (yi ((xs.getD k 0:Nat):Int)):=fun h=>by
    obtain⟨b,j,e,F⟩:=Q (by omega);exact⟨b,j,e,cell_later B (F k h)⟩
   have q:k<a.length→ ∃b j,bo=some ⟨b,j,none⟩∧wr.cell? ⟨b,j+k,none⟩=some (yi ((a.getD k 0:Nat):Int)):=fun h=>by
    obtain⟨b,j,e,F⟩:=S (by omega);exact⟨b,j,e,cell_later B (F k h)⟩
   obtain⟨x,O⟩: ∃x,xs.getD k 0=x:=⟨_,rfl⟩;obtain⟨y,P⟩: ∃y,a.getD k 0=y:=⟨_,rfl⟩;rw[O] at a1 r A H z;rw[P] at a2 o A H q;have A:=A _ rfl;have E:Hid _:=A;have a4:Hid _:=X;have D:Hid _:=H;have ad:s.length≤2000000:=by omega
   clear O P Q S C A W X H;have m: ∀(T:Int),T=((c+x+y:Nat):Int)→ ∀v' d,d.ownsRow w.heap.size 3 1 v' (s.length+1) ((s.map (fun n:Nat=>Value.int .i64 (n:Int)))++[yi (T % 65536)])→(wr.alloc (.cells #[yi (T % 65536)] 3)).grownBy d (Value.ownBlock u5)→
     Own d w.heap.size 3 .i64 v' (s++[(c+x+y) % 65536])∧yB w d:=by
    intro T hT v' d v l;have e0:T % 65536=(((c+x+y) % 65536:Nat):Int):=by omega
    rw[e0] at v l;exact iW B own v l
   by_cases v:k<xs.length
   ·obtain⟨b,j,rfl,F⟩:=z v
    by_cases l:k<a.length
    ·obtain⟨b2,a3,rfl,a0⟩:=q l
     clear z q r o p
     go_wp2_with (at_builtin;refine wpList_append_own _ rfl _ _ 57 rfl w.heap.size 3 L (yi 0) 1 8 underlying57 G I J K rfl (by decide) _ _ _ rfl (World.ownsRow.alloc own _) ⟨wr.heap.size,0,none⟩ 1 1 [yi (((c:Int)+(x:Int)+(y:Int)) % 65536)] rfl rfl ?c1 ?c2 ?c3 ?c4 ?c5 ?_)
     case c1=>exact cell_one_new _ _ _
     case c2=>intro u i;simp at i;subst i;rfl
     case c3=>unfold maxLen;omega
     case c4=>omega
     case c5=>simp;omega
     intro v' d g f _;have R:=m _ (by omega) v' d g f;clear g f own m
     go_wp2
     go_roundw
     case rel=>exact⟨k+1,(c+x+y)/65536,_,by omega,fun h=>D.out (by omega),by go_num,by go_num,R.1,E.out,R.2⟩
     case measure=>simp[intOf];omega
    ·have M:=o l
     subst M;clear z q r o p
     go_wp2_with (at_builtin;refine wpList_append_own _ rfl _ _ 57 rfl w.heap.size 3 L (yi 0) 1 8 underlying57 G I J K rfl (by decide) _ _ _ rfl (World.ownsRow.alloc own _) ⟨wr.heap.size,0,none⟩ 1 1 [yi (((c:Int)+(x:Int)) % 65536)] rfl rfl ?d1 ?d2 ?d3 ?d4 ?d5 ?_)
     case d1=>exact cell_one_new _ _ _
     case d2=>intro u i;simp at i;subst i;rfl
     case d3=>unfold maxLen;omega
     case d4=>omega
     case d5=>simp;omega
     intro v' d g f _;have R:=m _ (by omega) v' d g f;clear g f own m
     go_wp2
     go_roundw
     case rel=>exact⟨k+1,_,_,by omega,fun h=>D.out (by omega),by go_num,by go_num,R.1,E.out,R.2⟩
     case measure=>simp[intOf];omega
   ·have hx:=r v
    subst hx
    by_cases l:k<a.length
    ·obtain⟨b2,a3,rfl,a0⟩:=q l
     clear z q r o p
     go_wp2_with (at_builtin;refine wpList_append_own _ rfl _ _ 57 rfl w.heap.size 3 L (yi 0) 1 8 underlying57 G I J K rfl (by decide) _ _ _ rfl (World.ownsRow.alloc own _) ⟨wr.heap.size,0,none⟩ 1 1 [yi (((c:Int)+(y:Int)) % 65536)] rfl rfl ?e1 ?e2 ?e3 ?e4 ?e5 ?_)
     case e1=>exact cell_one_new _ _ _
     case e2=>intro u i;simp at i;subst i;rfl
     case e3=>unfold maxLen;omega
     case e4=>omega
     case e5=>simp;omega
     intro v' d g f _;have R:=m _ (by omega) v' d g f;clear g f own m
     go_wp2
     go_roundw
     case rel=>exact⟨k+1,_,_,by omega,fun h=>D.out (by omega),by go_num,by go_num,R.1,E.out,R.2⟩
     case measure=>simp[intOf];omega
    ·have M:=o l
     subst M;have a6:0<c:=by omega
     clear z q r o p
     go_wp2_with (at_builtin;refine wpList_append_own _ rfl _ _ 57 rfl w.heap.size 3 L (yi 0) 1 8 underlying57 G I J K rfl (by decide) _ _ _ rfl (World.ownsRow.alloc own _) ⟨wr.heap.size,0,none⟩ 1 1 [yi (((c:Int)) % 65536)] rfl rfl ?f1 ?f2 ?f3 ?f4 ?f5 ?_)
     case f1=>exact cell_one_new _ _ _
     case f2=>intro u i;simp at i;subst i;rfl
     case f3=>unfold maxLen;omega
     case f4=>omega
     case f5=>simp;omega
     intro v' d g f _;have R:=m _ (by omega) v' d g f;clear g f own m
     go_wp2
     go_roundw
     case rel=>exact⟨k+1,_,_,by omega,fun h=>D.out (by omega),by go_num,by go_num,R.1,E.out,R.2⟩
     case measure=>simp[intOf];omega
  ·have U:=Yx C p
   have v: ¬k<xs.length:=by omega
   have l: ¬k<a.length:=by omega
   have h3: ¬0<c:=by omega
   rw[U] at own;clear U p
   go_wp2
   go_ret
   exact⟨_,rfl,own.rd,B⟩
theorem II (v:Value)(t:ak)(w:World)(hv:Dv w v t)(Q:(Dg.dg 4294967296 t.n).length≤200000000)(S: -4000000000≤t.e∧t.e≤4000000000)(R:Tab w)(U:tz t.n≤6400000000):
  Calls Tryz.prog 60 #[v] w (jN w (bare t)):=by
 obtain⟨s,rfl,h⟩:=hv;obtain⟨a,n,e⟩:=t;simp only at h Q S U⊢;obtain⟨f,g,rfl⟩:=h.shape;obtain⟨e1,e2⟩:=S
 by_cases u:n=0
 ·subst u
  rw[show Dg.dg 4294967296 0=[] from rfl] at h⊢
  go_enter func60,ntmps60
  rw[show bare ⟨a,0,e⟩=⟨false,0,0⟩ from by unfold bare;rfl]
  go_wp2
  go_returns
  exact⟨_,rfl,aQ _ _ _ _,((Below.refl _ _).alloc (Nat.le_refl _) _).alloc (by simp[World.size_alloc]) _⟩
 ·have H:(((Dg.dg 4294967296 n).length:Int)==0)=false:=by simp[Dg.dg_nil_iff 4294967296 n (by omega)];exact u
  have C:Hid (bare ⟨a,n,e⟩=⟨a,n/2^tz n,e+tz n⟩):=by show bare ⟨a,n,e⟩=_;unfold bare;rw[if_neg u]
  have T:=Dg.small_dg 4294967296 n (by omega);have W:=Dg.vl_dg 4294967296 n (by omega);have O:Hid (∀c,Below w.heap.size w c→Calls Tryz.prog 117 #[.slice f (Dg.dg 4294967296 n).length g] c fun e w'=>e= .returned (.int .i64 ((tz n:Nat):Int))∧w'=c):=fun c d=>by
   have:=Gl _ n c (h.l d) (by omega) (R.l d)
   rwa [if_neg u] at this
  have N:Hid (∀c,Below w.heap.size w c→Calls Tryz.prog 118 #[.slice f (Dg.dg 4294967296 n).length g,.int .i64 (-((tz n:Nat):Int))] c (Num c (n/2^tz n))):=fun c d=>by
   have:=eO _ _ (-((tz n:Nat):Int)) c (h.l d) T (by omega) (by omega) (by omega);rw[W] at this;have e:shN n (-((tz n:Nat):Int))=n/2^tz n:=by
    unfold shN
    by_cases X: -((tz n:Nat):Int)<0
    ·rw[if_pos X];congr 2;omega
    ·rw[if_neg X]
     have H:tz n=0:=by omega
     rw[H];simp
   rwa [e] at this
  obtain⟨m,B⟩: ∃m,(Dg.dg 4294967296 n).length=m:=⟨_,rfl⟩;obtain⟨k,r⟩: ∃k,tz n=k:=⟨_,rfl⟩;obtain⟨q,J⟩: ∃q,n/2^tz n=q:=⟨_,rfl⟩;rw[J,r] at C;rw[J,r,B] at N;rw[r,B] at O;rw[B] at H Q⊢;rw[r] at U;rw[C.out];clear B r J h T W C u R;have i:=(aA w (.bool a) (.slice f m g) (.int .i64 e) 41).l (af _ (.cells #[.bool false,.slice none 0 0,.int .i64 0] 41));have j:=aA (w.alloc (.cells #[.bool a,.slice f m g,.int .i64 e] 41)) (.bool false) (.slice none 0 0) (.int .i64 0) 41;have P:=aa (af w (.cells #[.bool a,.slice f m g,.int .i64 e] 41)) (af _ (.cells #[.bool false,.slice none 0 0,.int .i64 0] 41));rw[World.size_alloc] at j
  go_enter func60,ntmps60
  go_wp2_with fail
  refine(cN a f m g e _).mono ?_;rintro x c ⟨rfl,d⟩;have i:=i.l d;have j:=j.l d;have D:=aa P d;clear P d
  go_wp2_with fail
  refine(O.out c D).mono ?_;rintro x L ⟨rfl,rfl⟩;have A:Below L.heap.size L L.drew:=(Below.refl _ _).drew;have i:=i.l A;have j:=j.l A;have a2:=aa D A;obtain⟨-,⟨c0,c1,c2⟩,-⟩:=id i;clear D A;have e3:IntKind.i64.wrap (-(k:Int))= -(k:Int):=IntWalk.i64_in _ ⟨by omega,by omega⟩;have e4:IntKind.i64.wrap (e+(k:Int))=e+(k:Int):=IntWalk.i64_in _ ⟨by omega,by omega⟩
  go_wp2_with fail
  go_region_held3 (fun M=>M.cell? ⟨w.heap.size,0,none⟩=some (.bool a)∧M.cell? ⟨w.heap.size,1,none⟩=some (.slice f m g)∧M.cell? ⟨w.heap.size,2,none⟩=some (.int .i64 e)) (go_keep) (first
   | (go_at_call 61;refine(cN a f m g e _).mono ?_;rintro x w3 ⟨rfl,F⟩;have Y:=i.l F;have a0:=j.l F;have E:=aa a2 F;obtain⟨-,⟨p0,p1,p2⟩,-⟩:=id Y)
   | (go_at_call 118;refine(N.out _ E).mono ?_;rintro x w4 ⟨vs,rfl,K,G⟩;have Z:=Y.l G;have a8:=a0.l G;have a3:=aa E G;obtain⟨z,y,a6⟩:=K.rd.shape;subst a6;obtain⟨-,⟨q0,q1,q2⟩,-⟩:=id Z)
   | (go_at_call 64;refine(l9 a z _ y _ _).mono ?_;rintro x w5 ⟨rfl,o⟩;have a1:=a8.l o;have a7:=Z.l o;obtain⟨-,⟨r0,r1,r2⟩,-⟩:=id a7;have a4:=aa a3 o;have ad:=K.rd.l o;obtain⟨ac,⟨d0,d1,d2⟩,f0,f1,f2⟩:=id a1))
  all_goals go_wp2
  have l5:=aD a1 (.bool a) (.slice z (Dg.dg 4294967296 q).length y) (.int .i64 (e+(k:Int)));have I:w.heap.size≤w.heap.size+1:=by omega
  have a5:=((a4.setCell (p:=⟨w.heap.size+1,0,none⟩) I (.bool a)).setCell (p:=⟨w.heap.size+1,1,none⟩) I (.slice z (Dg.dg 4294967296 q).length y)).setCell (p:=⟨w.heap.size+1,2,none⟩) I (.int .i64 (e+(k:Int)));have a9:=(K.l o).apart3 (b:=w.heap.size+1) a0.1 (.bool a) (.slice z (Dg.dg 4294967296 q).length y) (.int .i64 (e+(k:Int)));obtain⟨-,⟨g0,g1,g2⟩,-⟩:=l5;refine bodyPost_ret (v:= .agg #[.bool a,.slice z (Dg.dg 4294967296 q).length y,.int .i64 (e+(k:Int))]) (by simp[results,results60,go_sem,g0,g1,g2]) rfl ?_;exact⟨_,rfl,a9.lower E.size,a5⟩
theorem spanWhole_W (n:Int)(x:ak)(w:World)(f: ∀c,yC 23 #[yi n] c (Lx c x))
  (d: ∀b a c,yC 66 #[yDV x b a] c (yR c (.agg #[.bool x.s,yT b x.n a,yi x.e,.bool x.s,yT b x.n a,yi x.e]))):
  yC 25 #[yi n] w (aeT w x x):=by
 replace f:Hid _:=f;replace d:Hid _:=d;obtain⟨B,h,q1,q⟩:=cA w [.bool false,yN,yi 0,.bool false,yN,yi 0] 49;replace h:Hid _:=h
 go_enter func25,ntmps25
 go_upto_region 1 with fail
 rw[h.out];clear h
 go_wp2_with fail
 refine(f.out _).mono ?_;rintro A E ⟨C,rfl,m,j⟩;have r:=q1.l j;have o:=aa q j;obtain⟨b,a,z⟩:=m.shape;subst z;clear q1 q j f
 go_wp2_with fail
 refine(d.out _ _ _).mono ?_;rintro A D ⟨rfl,g⟩;have i:=r.l g;have k:=m.l g;have p:=aa o g;clear r m o g d;have hf:=fin6 (P:=Tryz.prog) i p (by omega) underlying49 rfl (by kernel_rfl) (.bool x.s) (yT b x.n a) (yi x.e) (.bool x.s) (yT b x.n a) (yi x.e);have u:Hid (_∧_∧_):=⟨hf.1,hf.2.2.rd k (aX k i (by simp)),hf.2.1⟩;obtain⟨⟨L,M,N,O,Q,R⟩,F,G,H,I,J,K⟩:=csf6 i;clear hf i k p
 go_wp2
 obtain⟨y,t,v⟩:=u.out;exact bodyPost_ret (br results25 rfl y) rfl ⟨_,_,rfl,t,t,v⟩
theorem sumsAtanh_W (x y:ak)(n k:Int)(w:World)
  (b: ∀j,yB w j→yC 156 #[yi n,yi k,yi 0] j (aeT j x y)):
  yC 127 #[yi n,yi k] w (aeT w x y):=by
 replace b:Hid _:=b;obtain⟨B,c,q1,g⟩:=cA w [.bool false,yN,yi 0,.bool false,yN,yi 0] 49;replace c:Hid _:=c
 go_enter func127,ntmps127
 go_upto_region 1 with fail
 rw[c.out];clear c
 go_wp2_with fail
 refine(b.out _ g).mono ?_;rintro S E ⟨C,D,rfl,d,f,h⟩;have a:=q1.l h;have m:=aa g h;obtain⟨v,u,i⟩:=d.shape;subst i;obtain⟨A,z,i⟩:=f.shape;subst i;clear q1 g h b;have hf:=fin6 (P:=Tryz.prog) a m (by omega) underlying49 rfl (by kernel_rfl) (.bool x.s) (yT v x.n u) (yi x.e) (.bool y.s) (yT A y.n z) (yi y.e);have o:Hid (_∧_∧_∧_):=⟨hf.1,hf.2.2.rd d (aX d a (by simp)),hf.2.2.rd f (aX f a (by simp)),hf.2.1⟩;obtain⟨⟨L,M,N,O,Q,R⟩,F,G,H,I,J,K⟩:=csf6 a;clear hf a d f m
 go_wp2
 obtain⟨q,r,t,p⟩:=o.out;exact bodyPost_ret (br results127 rfl q) rfl ⟨_,_,rfl,r,t,p⟩
theorem dtop_W (a:ak)(d:Option Addr)(b:Nat)(n m:Int)(w:World)(F:IntKind.i64.wrap (n+a.e)=m)
  (i:yJ 61 #[yDV a d b] (yT d a.n b))
  (h:yH w 62 #[yT d a.n b] (yi n)):
  yC 98 #[yDV a d b] w (yR w (yi m)):=by
 replace i:Hid _:=i;replace h:Hid _:=h;obtain⟨o,j,q1,y⟩:=cA w (yDL a d b) 41;replace j:Hid _:=j
 go_enter func98,ntmps98
 go_upto_region 1 with fail
 rw[j.out];clear j
 go_upto_region 1 with fail
 have r:yB o o.drew:=(Below.refl _ _).drew;have k:=q1.l r;have q:=aa y r;clear q1 y r;refine wp_region_held_drew (S:=fun C=>au C w.heap.size 41 (yDL a d b)) (by kernel_rfl) k (fun f=> ?_)
 generalize o.drew=E at k q f⊢;refine tq 0 (yDV a d b) rfl (fun _ v=>fy 41 (.tmp 1) rfl w.heap.size 0 (by kernel_rfl) _ _ v.range underlying41 rfl (by kernel_rfl)) f ?_
 refine tq 3 (.pointer (some ⟨w.heap.size,0,none⟩)) rfl (fun _ _=>by kernel_rfl) f ?_
 refine tq 4 (.pointer (some ⟨w.heap.size,2,none⟩)) rfl (fun _ _=>by kernel_rfl) f ?_
 refine tq 5 (yi a.e) rfl (fun _ v=>gU 3 (.tmp 7) rfl w.heap.size 2 (by kernel_rfl) _ _ underlying3 rfl (v.c 2 rfl)) f ?_
 refine wpAnyH_ready (rs:=[1]) (by kernel_rfl) (by simp) ?_;refine AllReadyH.cons rfl (fun K g=> ?_) AllReadyH.nil
 go_simp
 refine(i.out _).mono ?_;rintro D H ⟨rfl,s⟩;have x:=k.l s;have p:=aa q s;clear k q s i;refine g.out _ _ x (fun A=> ?_)
 clear g K;refine wpAnyH_ready (rs:=[2]) (by kernel_rfl) (by simp) ?_;refine AllReadyH.cons rfl (fun K g=> ?_) AllReadyH.nil
 go_simp
 refine(h.out _ p).mono ?_;rintro D G ⟨rfl,t⟩;have B:=x.l t;have z:=aa p t;clear x p t h;refine g.out _ _ B (fun u=> ?_)
 clear g K;refine tq 6 (yi m) rfl (fun _ _=>by go_simp) u ?_
 refine tq 7 (yi m) rfl (fun _ _=>by kernel_rfl) u ?_
 refine wpAnyH_done (by kernel_rfl) ?_ _;clear f A u;simp only[Act.put,List.getElem_toArray,List.getElem_cons_succ,List.getElem_cons_zero,List.setIfInBounds_toArray,List.set_cons_zero,List.set_cons_succ]
 go_wp2
 go_ret
 exact⟨by simp,z⟩
theorem part1_W (F E D:Nat)(a:ak)(B:Option Addr)(A:Nat)(x y u v:ak)(t o b:Int)(w:World)(lt:w.rangeAt F 0 [yi t])(lo:w.rangeAt E 0 [yi o])(lb:w.rangeAt D 0 [yi b])
  (G: ∀c,yB w c→yC 23 #[yi t] c (Lx c x))
  (H: ∀xo xc c,yB w c→Rd c .u32 (yT xo x.n xc) (Dg.dg 4294967296 x.n)→yC 57 #[yDV a B A,yDV x xo xc] c (Lx c y))
  (I: ∀c,yB w c→yC 23 #[yi o] c (Lx c u))
  (J: ∀yo yc uo uc c,yB w c→Rd c .u32 (yT yo y.n yc) (Dg.dg 4294967296 y.n)→Rd c .u32 (yT uo u.n uc) (Dg.dg 4294967296 u.n)→yC 125 #[yDV y yo yc,yDV u uo uc,yi b] c (Lx c v)):
  yC 157 #[yDV a B A,.pointer (some ⟨F,0,none⟩),.pointer (some ⟨E,0,none⟩),.pointer (some ⟨D,0,none⟩)] w (Lx w v):=by
 replace G:Hid _:=G;replace H:Hid _:=H;replace I:Hid _:=I;replace J:Hid _:=J;have bv:F<w.heap.size:=World.block_lt_of_cell? _ _ (lt 0 _ rfl);have bw:E<w.heap.size:=World.block_lt_of_cell? _ _ (lo 0 _ rfl);have bx:D<w.heap.size:=World.block_lt_of_cell? _ _ (lb 0 _ rfl);obtain⟨Y,M,q1,q2,C⟩:=iG w (yDL a B A) 41 (ydL false yN 0) 41;replace M:Hid _:=M;have q6:=aC lt C;have q7:=aC lo C;have q8:=aC lb C;clear lt lo lb
 go_enter func157,ntmps157
 go_upto_region 1 with fail
 rw[M.out];clear M
 go_upto_region 1 with fail
 have i:yB Y Y.drew:=(Below.refl _ _).drew;have N:=aC q6 i;have O:=aC q7 i;have Q:=aC q8 i;have R:=q1.l i;have a2:=q2.l i;have L:=aa C i;clear q6 q7 q8 q1 q2 C i;refine wp_region_held_drew (S:=fun X=>X.rangeAt F 0 [yi t]∧X.rangeAt E 0 [yi o]∧X.rangeAt D 0 [yi b]∧au X w.heap.size 41 (yDL a B A)) (by kernel_rfl) ⟨N,O,Q,R⟩ (fun s=> ?_)
 generalize Y.drew=bt at N O Q R a2 L s⊢;refine tq 0 (yDV a B A) rfl (fun _ m=>fy 41 (.tmp 4) rfl w.heap.size 0 (by kernel_rfl) _ _ m.2.2.2.range underlying41 rfl (by kernel_rfl)) s ?_
 refine tq 1 (yi t) rfl (fun _ m=>gU 3 (.tmp 1) rfl F 0 (by kernel_rfl) _ _ underlying3 rfl (m.1 0 _ rfl)) s ?_
 refine tq 4 (yi o) rfl (fun _ m=>gU 3 (.tmp 2) rfl E 0 (by kernel_rfl) _ _ underlying3 rfl (m.2.1 0 _ rfl)) s ?_
 refine tq 6 (yi b) rfl (fun _ m=>gU 3 (.tmp 3) rfl D 0 (by kernel_rfl) _ _ underlying3 rfl (m.2.2.1 0 _ rfl)) s ?_
 refine wpAnyH_ready (rs:=[2]) (by kernel_rfl) (by simp) ?_;refine AllReadyH.cons rfl (fun K d=> ?_) AllReadyH.nil
 go_simp
 refine(G.out _ L).mono ?_;rintro zz c3 ⟨bz,rfl,T,j⟩;have a3:=aC N j;have a4:=aC O j;have a5:=aC Q j;have a6:=R.l j;have b7:=a2.l j;have Z:=aa L j;obtain⟨xo,xc,k⟩:=T.shape;subst k;clear N O Q R a2 L j G;refine d.out _ _ ⟨a3,a4,a5,a6⟩ (fun bi=> ?_)
 clear d K;refine wpAnyH_ready (rs:=[3]) (by kernel_rfl) (by simp) ?_;refine AllReadyH.cons rfl (fun K d=> ?_) AllReadyH.nil
 go_simp
 refine(H.out _ _ _ Z T).mono ?_;rintro zz c4 ⟨c0,rfl,ay,h⟩;have a7:=aC a3 h;have a8:=aC a4 h;have a9:=aC a5 h;have ad:=a6.l h;have b8:=b7.l h;have bf:=T.l h;have a0:=aa Z h;obtain⟨yo,yc,k⟩:=ay.shape;subst k;clear a3 a4 a5 a6 b7 T Z h H;refine d.out _ _ ⟨a7,a8,a9,ad⟩ (fun bj=> ?_)
 clear d K;refine wpAnyH_ready (rs:=[5]) (by kernel_rfl) (by simp) ?_;refine AllReadyH.cons rfl (fun K d=> ?_) AllReadyH.nil
 go_simp
 refine(I.out _ a0).mono ?_;rintro zz c5 ⟨c1,rfl,U,g⟩;have ae:=aC a7 g;have al:=aC a8 g;have an:=aC a9 g;have ap:=ad.l g;have b9:=b8.l g;have bg:=bf.l g;have az:=ay.l g;have a1:=aa a0 g;obtain⟨uo,uc,k⟩:=U.shape;subst k;clear a7 a8 a9 ad b8 bf ay a0 g I;refine d.out _ _ ⟨ae,al,an,ap⟩ (fun bl=> ?_)
 clear d K;refine wpAnyH_ready (rs:=[7]) (by kernel_rfl) (by simp) ?_;refine AllReadyH.cons rfl (fun K d=> ?_) AllReadyH.nil
 go_simp
 refine(J.out _ _ _ _ _ a1 az U).mono ?_;rintro zz z ⟨c2,rfl,W,e⟩;have aq:=aC ae e;have ar:=aC al e;have av:=aC an e;have ax:=ap.l e;have p:=b9.l e;have b0:=bg.l e;have b1:=az.l e;have b2:=U.l e;have b4:=aa a1 e;obtain⟨r,q,k⟩:=W.shape;subst k;clear ae al an ap b9 bg az U a1 e J;refine d.out _ _ ⟨aq,ar,av,ax⟩ (fun bm=> ?_)
 clear d K;refine wpAnyH_ready (rs:=[8]) (by kernel_rfl) (by simp) ?_;refine AllReadyH.cons rfl (fun K d=> ?_) AllReadyH.nil
 have f:But (w.heap.size+1) z (z.setCells (w.heap.size+1) 0 (yDL v r q)):=de _ _ _ _;have b6:z.there (w.heap.size+1) 0 3:=dD p;have ba:au (z.setCells (w.heap.size+1) 0 (yDL v r q)) (w.heap.size+1) 41 (yDL v r q):=p.sets _ rfl;have bo:=f.rd b0 (aX b0 p (by simp));have bp:=f.rd b1 (aX b1 p (by simp));have bq:=f.rd b2 (aX b2 p (by simp));have bh:=f.rd W (aX W p (by simp));have bb:=dZ f aq (by omega);have bc:=dZ f ar (by omega);have bd:=dZ f av (by omega);have be:=f.loc ax (by omega);have b5:=f.below b4 (by omega);rw[if_pos (by kernel_rfl)];refine wp_store_mid 41 (.tmp 5) (.tmp 13) rfl (w.heap.size+1) 0 (yDA v r q) (by kernel_rfl) (by kernel_rfl) b6 (by kernel_rfl) (by simp[Value.oneCell']) ?_;refine d.out _ _ ⟨bb,bc,bd,be⟩ (fun bn=> ?_)
 clear d K;clear p b0 b1 b2 W aq ar av ax b4 f b6;refine wpAnyH_done (by kernel_rfl) ?_ _;clear s bi bj bl bm bn;change Exit.then _ _ _ _ (World.setCells z (w.heap.size+1) 0 (yDL v r q));generalize World.setCells z (w.heap.size+1) 0 (yDL v r q)=bs at bb bc bd be ba bo bp bq bh b5⊢;simp only[Act.put,List.getElem_toArray,List.getElem_cons_succ,List.getElem_cons_zero];have hl:=run_loadVar_mid (P:=Tryz.prog) _ (w.heap.size+1) 0 41 (yDL v r q) _ ba.range underlying41 rfl (by kernel_rfl)
 go_wp2
 exact bodyPost_ret (br results157 rfl hl) rfl ⟨_,rfl,bh,b5⟩
theorem scaled_ret (a b:ak)(f h:Option Addr)(d g:Nat)(n:Int)(w:World)(i: -1000000≤a.e∧a.e≤1000000)(j: -1000000≤b.e∧b.e≤1000000)(k: -1000000≤n∧n≤1000000):
  yC 77 #[.agg #[.bool a.s,yT f a.n d,yi a.e,.bool b.s,yT h b.n g,yi b.e],yi n] w (yR w (.agg #[.bool a.s,yT f a.n d,yi (a.e+n),.bool b.s,yT h b.n g,yi (b.e+n)])):=
 spanScaled_W a b _ _ _ _ n (a.e+n) (b.e+n) w (fun c=>dscaled_W _ _ _ _ _ _ _ c (IntWalk.i64_in _ ⟨by omega,by omega⟩)) (fun c=>dscaled_W _ _ _ _ _ _ _ c (IntWalk.i64_in _ ⟨by omega,by omega⟩))
theorem na_few {n j tn k:Nat}(d:1≤j)(h:2^j≤n*n):NA n tn k≤k/j+1:=by
 have a:2^k/n<2^ (j*(k/j+1)):=by
  refine Nat.lt_of_le_of_lt (Nat.div_le_self _ _) (Nat.pow_lt_pow_right (by omega) ?_);have b:=Nat.div_add_mod k j;have c:=Nat.mod_lt k (show 0<j by omega)
  rw[Nat.mul_succ];omega
 have:=lp_few h tn (k+1) (k/j+1) 0 (2^k/n) 0 0 a;unfold NA;omega
theorem ln_has (k:Nat):(∀n,k+1≤n→qT (lnLo k)≤CxN.la n∧CxN.la n≤qT (lnHi k))∧
  (qT (lnHi k)-qT (lnLo k))*((2^k:Nat):Rat)=36*(3+3*(NA 26 0 k:Rat))+4*(3+3*(NA 4801 0 k:Rat))+16*(3+3*(NA 8749 0 k:Rat)):=by
 obtain⟨p,q,v,x⟩:=ln_VV k;have q1:=qT_V (K:=k) (t:=lnLo k) (by omega);have q2:=qT_V (K:=k) (t:=lnHi k) (by omega);rw[p] at q1;rw[q] at q2;have c: ∀n:Nat,((3+3*n:Nat):Rat)=3+3*(n:Rat):=fun n=>by rw[Rat.natCast_add,Rat.natCast_mul];rfl
 have l:=c (NA 26 0 k);have m:=c (NA 4801 0 k);have o:=c (NA 8749 0 k);simp only[Rat.intCast_add,Rat.intCast_sub,Rat.intCast_mul,Rat.intCast_natCast] at q1 q2;rw[l,m,o] at q1 q2;have g:((18:Int):Rat)=18:=rfl;have h:((2:Int):Rat)=2:=rfl;have i:((8:Int):Rat)=8:=rfl;rw[g,h,i] at q1 q2;refine⟨fun n E=> ?_,by grind⟩
 have y:=na_few (n:=26) (j:=9) (tn:=0) (k:=k) (by omega) (by decide);have z:=na_few (n:=4801) (j:=24) (tn:=0) (k:=k) (by omega) (by decide);have D:=na_few (n:=8749) (j:=26) (tn:=0) (k:=k) (by omega) (by decide);have r:=Nat.div_le_self k 9;have s:=Nat.div_le_self k 24;have u:=Nat.div_le_self k 26;have b:=xa_near (n:=26) (k:=k) (tn:=0) (w:=1/26) (by omega) (by omega) (by have:((26:Nat):Rat)=26:=rfl;rw[this];grind) n (by omega);have d:=xa_near (n:=4801) (k:=k) (tn:=0) (w:=1/4801) (by omega) (by omega) (by have:((4801:Nat):Rat)=4801:=rfl;rw[this];grind) n (by omega);have e:=xa_near (n:=8749) (k:=k) (tn:=0) (w:=1/8749) (by omega) (by omega) (by have:((8749:Nat):Rat)=8749:=rfl;rw[this];grind) n (by omega);rw[awg_aw] at b d e;have f:CxN.la n=18*aw (1/26) n-2*aw (1/4801) n+8*aw (1/8749) n:=by
  unfold CxN.la;have:(-1/4801:Rat)= -(1/4801):=by grind
  rw[this,aw_neg]
  grind
 rw[f];rw[ab_le] at b d e;have a:=two_posR k;generalize((2^k:Nat):Rat)=P at*;generalize aw (1/26) n=A at*;generalize aw (1/4801) n=B at*;generalize aw (1/8749) n=C at*
 constructor
 ·refine cancel_le a ?_
  rw[←q1]
  grind
 ·refine cancel_le a ?_
  rw[←q2]
  grind
end Go.Proofs.YthhiidikgchdeaaGreatDoor
