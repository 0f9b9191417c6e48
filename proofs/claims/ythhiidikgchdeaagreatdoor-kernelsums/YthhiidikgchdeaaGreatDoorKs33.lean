/- Texts laid together. -/
import Derived.Test.YthhiidikgchdeaaGreatDoorKs16
import Derived.Test.YthhiidikgchdeaaGreatDoorKs22
import Derived.Test.YthhiidikgchdeaaGreatDoorKs26
import Derived.Test.YthhiidikgchdeaaGreatDoorKs27
import Derived.Test.YthhiidikgchdeaaGreatDoorKs28
import Derived.Test.YthhiidikgchdeaaGreatDoorKs29
set_option maxRecDepth 100000
set_option maxHeartbeats 3200000
namespace Go.Proofs.YthhiidikgchdeaaGreatDoor
open _root_.Go.Proofs.Tryz
open Go.RowKit
theorem narrow_W (a b:ak)(f o:Option Addr)(d j:Nat)(x:ak)(n k m c:Int)(w:World)(ra:Rd w .u32 (yT f a.n d) (Dg.dg 4294967296 a.n))(hk:IntKind.i64.wrap (-n)=k)(hc:c≤0)
  (y:yH w 123 #[.agg #[.bool false,yT f a.n d,yi a.e,.bool false,yT o b.n j,yi b.e]] (.bool true))
  (A: ∀i,yB w i→yC 63 #[ydV false (yT o b.n j) b.e,ydV false (yT f a.n d) a.e] i (Lx i x))
  (B:yJ 21 #[ydV false (yT f a.n d) a.e] (ydV false (yT f a.n d) a.e))
  (z:yJ 99 #[ydV false (yT f a.n d) a.e,yi k] (ydV false (yT f a.n d) m))
  (v: ∀xo xc i,yB w i→Rd i .u32 (yT xo x.n xc) (Dg.dg 4294967296 x.n)→Rd i .u32 (yT f a.n d) (Dg.dg 4294967296 a.n)→yC 22 #[yDV x xo xc,ydV false (yT f a.n d) m] i (yR i (yi c))):
  yC 72 #[.agg #[.bool false,yT f a.n d,yi a.e,.bool false,yT o b.n j,yi b.e],yi n] w (yR w (.bool true)):=by
 replace y:Hid _:=y;replace A:Hid _:=A;replace B:Hid _:=B;replace z:Hid _:=z;replace v:Hid _:=v;obtain⟨C,I,q1,E⟩:=cA w [.bool false,yT f a.n d,yi a.e,.bool false,yT o b.n j,yi b.e] 49;replace I:Hid _:=I;have r5:=ra.l E;clear ra
 go_enter func72,ntmps72
 go_upto_region 1 with fail
 rw[I.out];clear I;obtain⟨O,J,q9,D⟩:=cA C (ydL false (yT f a.n d) a.e) 41;replace J:Hid _:=J;have b6:w.heap.size≤C.heap.size:=E.size;have b7:=q1.lt;have ar:=q1.c 0 rfl;have av:=q1.c 1 rfl;have ax:=q1.c 2 rfl;have T:=q1.l D;have a8:=r5.l D;have a5:=aa E D;clear q1 r5 E D
 go_upto_region 2 with fail
 rw[J.out];clear ar av ax J;have ay:=T.c 0 rfl
 go_upto_region 4 with fail
 clear ay;have s:yB O O.drew:=(Below.refl _ _).drew;have L:=T.l s;have M:=q9.l s;have a4:=a8.l s;have F:=aa a5 s;clear T q9 a8 a5 s;refine wp_region_held_drew (S:=fun wq=>au wq w.heap.size 49 [.bool false,yT f a.n d,yi a.e,.bool false,yT o b.n j,yi b.e]∧au wq C.heap.size 41 (ydL false (yT f a.n d) a.e)) (by kernel_rfl) ⟨L,M⟩ (fun R=> ?_)
 generalize O.drew=b5 at L M a4 F R⊢;refine tq 0 (.agg #[.bool false,yT f a.n d,yi a.e,.bool false,yT o b.n j,yi b.e]) rfl (fun _ p=>fy 49 (.tmp 2) rfl w.heap.size 0 (by kernel_rfl) _ _ p.1.range underlying49 rfl (by kernel_rfl)) R ?_
 refine wpAnyH_ready (rs:=[1]) (by kernel_rfl) (by simp) ?_;refine AllReadyH.cons rfl (fun K g=> ?_) AllReadyH.nil
 go_simp
 refine(y.out _ F).mono ?_;rintro N b9 ⟨rfl,t⟩;have U:=L.l t;have W:=M.l t;have a9:=a4.l t;have P:=aa F t;clear L M a4 F t y;refine g.out _ _ ⟨U,W⟩ (fun h=> ?_)
 clear g K;refine tq 2 (.bool true) rfl (fun _ _=>by kernel_rfl) h ?_
 refine tq 3 (.pointer (some ⟨w.heap.size,3,none⟩)) rfl (fun _ _=>by kernel_rfl) h ?_
 refine tq 4 (ydV false (yT o b.n j) b.e) rfl (fun _ p=>fy 41 (.tmp 17) rfl w.heap.size 3 (by kernel_rfl) _ _ (kY p.1 3 3 rfl) underlying41 rfl (by kernel_rfl)) h ?_
 refine tq 5 (.pointer (some ⟨w.heap.size,0,none⟩)) rfl (fun _ _=>by kernel_rfl) h ?_
 refine tq 6 (ydV false (yT f a.n d) a.e) rfl (fun _ p=>fy 41 (.tmp 19) rfl w.heap.size 0 (by kernel_rfl) _ _ (kY p.1 0 3 rfl) underlying41 rfl (by kernel_rfl)) h ?_
 refine tq 8 (ydV false (yT f a.n d) a.e) rfl (fun _ p=>fy 41 (.tmp 5) rfl C.heap.size 0 (by kernel_rfl) _ _ p.2.range underlying41 rfl (by kernel_rfl)) h ?_
 refine tq 10 (yi n) rfl (fun _ _=>by kernel_rfl) h ?_
 refine tq 11 (yi k) rfl (fun _ _=>by go_simp) h ?_
 refine wpAnyH_ready (rs:=[7]) (by kernel_rfl) (by simp) ?_;refine AllReadyH.cons rfl (fun K g=> ?_) AllReadyH.nil
 go_simp
 refine(A.out _ P).mono ?_;rintro N ba ⟨b8,rfl,a3,u⟩;have X:=U.l u;have Y:=W.l u;have ad:=a9.l u;have a6:=aa P u;obtain⟨xo,xc,hv⟩:=a3.shape;subst hv;clear U W a9 P u A;refine g.out _ _ ⟨X,Y⟩ (fun az=> ?_)
 clear g K;refine wpAnyH_ready (rs:=[9]) (by kernel_rfl) (by simp) ?_;refine AllReadyH.cons rfl (fun K g=> ?_) AllReadyH.nil
 go_simp
 refine(B.out _).mono ?_;rintro N bb ⟨rfl,q⟩;have Z:=X.l q;have a0:=Y.l q;have ae:=ad.l q;have al:=a3.l q;have a7:=aa a6 q;clear X Y ad a3 a6 q B;refine g.out _ _ ⟨Z,a0⟩ (fun b0=> ?_)
 clear g K;refine wpAnyH_ready (rs:=[12]) (by kernel_rfl) (by simp) ?_;refine AllReadyH.cons rfl (fun K g=> ?_) AllReadyH.nil
 go_simp
 refine(z.out _).mono ?_;rintro N bd ⟨rfl,r⟩;have a1:=Z.l r;have a2:=a0.l r;have an:=ae.l r;have ap:=al.l r;have Q:=aa a7 r;clear Z a0 ae al a7 r z;refine g.out _ _ ⟨a1,a2⟩ (fun b1=> ?_)
 clear g K;refine wpAnyH_ready (rs:=[13]) (by kernel_rfl) (by simp) ?_;refine AllReadyH.cons rfl (fun K g=> ?_) AllReadyH.nil
 go_simp
 refine(v.out _ _ _ Q ap an).mono ?_;rintro N be ⟨rfl,G⟩;have b3:=a1.l G;have b4:=a2.l G;have aq:=aa Q G;clear a1 a2 an ap Q G v;refine g.out _ _ ⟨b3,b4⟩ (fun H=> ?_)
 clear g K;refine tq 14 (.bool true) rfl (fun _ _=>by go_simp) H ?_
 refine tq 15 (.bool true) rfl (fun _ _=>by kernel_rfl) H ?_
 refine tq 16 (.bool true) rfl (fun _ _=>by kernel_rfl) H ?_
 refine wpAnyH_done (by kernel_rfl) ?_ _;clear R h az b0 b1 H;simp only[Act.put,List.getElem_toArray,List.getElem_cons_succ,List.getElem_cons_zero,List.setIfInBounds_toArray,List.set_cons_zero,List.set_cons_succ]
 go_wp2
 go_ret
 exact⟨by simp,aq⟩
theorem splus_any (v u:Value)(a b p q:ak)(w:World)(o:SpanV w v a b)(n:SpanV w u p q)(e:FitsT a)(f:FitsT b)(g:FitsT p)(fq:FitsT q):yC 103 #[v,u] w (aeT w (aG a p) (aG b q)):=by
 obtain⟨K,L,rfl,i,j⟩:=o;obtain⟨M,N,rfl,k,m⟩:=n;obtain⟨x,t,rfl⟩:=i.shape;obtain⟨B,A,rfl⟩:=j.shape;obtain⟨H,G,rfl⟩:=k.shape;obtain⟨J,I,rfl⟩:=m.shape;have C:=e.len;have D:=f.len;have E:=g.len;have F:=fq.len;obtain⟨-,r,s⟩:=e;obtain⟨-,y,z⟩:=f;obtain⟨-,p1,p2⟩:=g;obtain⟨-,q1,q2⟩:=fq;exact spanPlus_W a b p q _ _ _ _ _ _ _ _ _ _ w
  (fun d c=>(uj _ _ a p d ⟨_,rfl,i.l c⟩ ⟨_,rfl,k.l c⟩ (by omega) (by omega) (by omega) (by omega) (by omega) (by omega)).mono fun _ _ h=>h.vres)
  (fun d c=>(uj _ _ b q d ⟨_,rfl,j.l c⟩ ⟨_,rfl,m.l c⟩ (by omega) (by omega) (by omega) (by omega) (by omega) (by omega)).mono fun _ _ h=>h.vres)
theorem inverse_any (n k tn:Nat)(w:World)(S:2≤n∧n<65536)(o:k≤60000)(Y:tn=0∨tn=1):
  yC 156 #[yi n,yi k,yi tn] w (aeT w (invLo (lp (n*n) tn (k+1) 0 (2^k/n) 0 0) k) (invHi (lp (n*n) tn (k+1) 0 (2^k/n) 0 0) k)):=by
 have N: ∀(m d q:Nat) v c,Rd c .u32 v (Dg.dg 4294967296 m)→au c q 54 [.int .u32 d]→0<d∧d<4294967296∧m≤2^k→yC 154 #[v,.slice (some ⟨q,0,none⟩) 1 1] c (TwS c (m/d) (m % d)):=fun m d q v c z B A=>
  overNS m d v _ [d] c z (rd_cell1 B) (Dg.small_cons.2 ⟨A.2.1,Dg.small_nil _ (by omega)⟩) (fun _=>by simp;omega) (by simp) (by simp[Dg.vl]) (len_pow A.2.2 o)
 have M: ∀(m d:Nat) v u c,Rd c .u32 v (Dg.dg 4294967296 m)→Rd c .u32 u (Dg.dg 4294967296 d)→0<d∧m≤2^k→yC 154 #[v,u] c (TwS c (m/d) (m % d)):=fun m d v u c z C A=>
  overNS m d v u _ c z C (Dg.small_dg _ _ (by omega)) (Dg.norm_dg _ _ (by omega)) (dg_ne A.1) (Dg.vl_dg _ _ (by omega)) (len_pow A.2 o)
 have Q: ∀q c,au c q 54 [.int .u32 n]→yC 114 #[.slice (some ⟨q,0,none⟩) 1 1,.slice (some ⟨q,0,none⟩) 1 1] c (NmS c (n*n)):=fun q c B=>by
  have W:Dg.Small 4294967296 [n]:=Dg.small_cons.2 ⟨by omega,Dg.small_nil _ (by omega)⟩;have h:=qC _ _ [n] [n] c (rd_cell1 B) (rd_cell1 B) W W (by simp) (by simp);rw[show Dg.vl 4294967296 [n]=n by simp[Dg.vl]] at h
  exact h.mono fun _ _ ⟨v,p,r,t⟩=>⟨v,p,r.rd,t⟩
 have P: ∀q c,au c q 54 [.int .u32 1]→yC 118 #[.slice (some ⟨q,0,none⟩) 1 1,yi k] c (NmS c (2^k)):=fun q c B=>by
  have h:=eO _ [1] k c (rd_cell1 (d:=1) B) (Dg.small_cons.2 ⟨by omega,Dg.small_nil _ (by omega)⟩) (by simp) (by omega) (by omega);rw[show Dg.vl 4294967296 [1]=1 by simp[Dg.vl],show shN 1 k=2^k by simp[shN];intro h;omega] at h
  exact h.mono fun _ _ ⟨v,p,r,t⟩=>⟨v,p,r.rd,t⟩
 have O: ∀(a b:Nat) v u c,Rd c .u32 v (Dg.dg 4294967296 a)→Rd c .u32 u (Dg.dg 4294967296 b)→a≤(k+2)*2^k∧b≤2^k→yC 109 #[v,u] c (NmS c (a+b)):=fun a b v u c z C i=>by
  have F:=len_big i.1 o;have U:=len_pow i.2 o;have h:=rj v u _ _ c z C (Dg.small_dg _ _ (by omega)) (Dg.small_dg _ _ (by omega)) (by omega) (by omega);rw[Dg.vl_dg _ _ (by omega),Dg.vl_dg _ _ (by omega)] at h;exact h.mono fun _ _ ⟨v,p,r,t⟩=>⟨v,p,r.rd,t⟩
 have L: ∀(a b:Nat) v u c,Rd c .u32 v (Dg.dg 4294967296 a)→Rd c .u32 u (Dg.dg 4294967296 b)→a≤(k+2)*2^k∧b≤a→yC 111 #[v,u] c (NmS c (a-b)):=fun a b v u c z C i=>by
  have F:=len_big i.1 o;have h:=zL v u _ _ c z C (Dg.small_dg _ _ (by omega)) (Dg.small_dg _ _ (by omega)) (by omega) (Nat.le_of_not_lt fun X=>absurd (Dg.vl_lt_of_len _ (by omega) _ _ (Dg.small_dg _ _ (by omega)) (Dg.norm_dg _ _ (by omega)) X) (by rw[Dg.vl_dg _ _ (by omega),Dg.vl_dg _ _ (by omega)];omega)) (by rw[Dg.vl_dg _ _ (by omega),Dg.vl_dg _ _ (by omega)];exact i.2)
  rw[Dg.vl_dg _ _ (by omega),Dg.vl_dg _ _ (by omega)] at h;exact h.mono fun _ _ ⟨v,p,r,t⟩=>⟨v,p,r.rd,t⟩
 have K: ∀(m:Nat) g f c,yC 64 (ydA false (yT g m f) 0) c (yR c (ydV false (yT g m f) 0)):=fun m g f c=>l9 _ _ _ _ _ c
 have R: ∀(m:Nat) c,m≤1000000→yC 23 #[yi m] c (Lx c ⟨false,m,0⟩):=fun m c h=>whole_any m c (by omega)
 have T: ∀d:Nat,d≤1000000→(Dg.dg 4294967296 d).length≤1:=fun d A=>jq (k:=32) (by omega) (by omega)
 have I: ∀(m d:Nat) g f l j c,Rd c .u32 (yT g m f) (Dg.dg 4294967296 m)→Rd c .u32 (yT l d j) (Dg.dg 4294967296 d)→m≤(k+2)*2^k∧d≤1000000→yC 63 #[ydV false (yT g m f) 0,ydV false (yT l d j) 0] c (Lx c (aG ⟨false,m,0⟩ (dV ⟨false,d,0⟩))):=fun m d g f l j c D E i=>by
  have F:=len_big i.1 o;have U:=T d i.2;exact(FT _ _ ⟨false,m,0⟩ ⟨false,d,0⟩ c ⟨_,rfl,D⟩ ⟨_,rfl,E⟩ (by show(Dg.dg 4294967296 m).length≤_;omega) (by show(Dg.dg 4294967296 d).length≤_;omega) (by simp) (by simp) (by simp) (by simp)).mono fun _ _ h=>h.vres
 have J: ∀(m d:Nat) g f l j c,Rd c .u32 (yT g m f) (Dg.dg 4294967296 m)→Rd c .u32 (yT l d j) (Dg.dg 4294967296 d)→m≤(k+2)*2^k∧d≤1000000→yC 55 #[ydV false (yT g m f) 0,ydV false (yT l d j) 0] c (Lx c (aG ⟨false,m,0⟩ ⟨false,d,0⟩)):=fun m d g f l j c D E i=>by
  have F:=len_big i.1 o;have U:=T d i.2;exact(uj _ _ ⟨false,m,0⟩ ⟨false,d,0⟩ c ⟨_,rfl,D⟩ ⟨_,rfl,E⟩ (by show(Dg.dg 4294967296 m).length≤_;omega) (by show(Dg.dg 4294967296 d).length≤_;omega) (by simp) (by simp) (by simp) (by simp)).mono fun _ _ h=>h.vres
 have H: ∀(x y:ak) g f l j c,-1000000≤x.e∧x.e≤1000000∧ -1000000≤y.e∧y.e≤1000000→yC 77 #[.agg #[.bool x.s,yT g x.n f,yi x.e,.bool y.s,yT l y.n j,yi y.e],yi (-(k:Int))] c (yR c (.agg #[.bool x.s,yT g x.n f,yi (x.e-(k:Int)),.bool y.s,yT l y.n j,yi (y.e-(k:Int))])):=fun x y g f l j c i=>
  spanScaled_W x y _ _ _ _ (-(k:Int)) (x.e-(k:Int)) (y.e-(k:Int)) c (fun G=>dscaled_W _ _ _ _ _ _ _ G (by rw[show x.e+ -(k:Int)=x.e-(k:Int) by omega];exact IntWalk.i64_in _ ⟨by omega,by omega⟩)) (fun G=>dscaled_W _ _ _ _ _ _ _ G (by rw[show y.e+ -(k:Int)=y.e-(k:Int) by omega];exact IntWalk.i64_in _ ⟨by omega,by omega⟩))
 rcases Y with rfl|rfl
 ·exact inverse_W0 n k _ _ w S o rfl rfl N M Q P O L K R I J H
 ·exact inverse_W1 n k _ _ w S o rfl rfl N M Q P O L K R I J H
theorem stimes_any (v u:Value)(a b p q:ak)(w:World)(M:SpanV w v a b)(L:SpanV w u p q)(x:FitsT a)(y:FitsT b)(A:FitsT p)(fq:FitsT q)(m: ∀j,FitsT (fourT a b p q j)):
  yC 101 #[v,u] w (aeT w (loT (fourT a b p q) 3) (hiT (fourT a b p q) 3)):=by
 obtain⟨s1,s2,rfl,o,r⟩:=M;obtain⟨s3,s4,rfl,s,t⟩:=L;obtain⟨W,U,rfl⟩:=o.shape;obtain⟨bo,Z,rfl⟩:=r.shape;obtain⟨po,pc,rfl⟩:=s.shape;obtain⟨qo,qc,rfl⟩:=t.shape;have la:=x.len;have lb:=y.len;have a0:=A.len;have lq:=fq.len;obtain⟨-,S,T⟩:=x;obtain⟨-,X,Y⟩:=y;obtain⟨-,p1,p2⟩:=A;obtain⟨-,q1,q2⟩:=fq;refine spanTimes_W a b p q _ _ _ _ _ _ _ _ (aK a p) (aK a q) (aK b p) (aK b q) _ _ w
  (fun f e=>(Ac _ _ a p f ⟨_,rfl,o.l e⟩ ⟨_,rfl,s.l e⟩ (by omega) (by omega) (by omega) (by omega) (by omega) (by omega)).mono fun _ _ h=>h.vres)
  (fun f e=>(Ac _ _ a q f ⟨_,rfl,o.l e⟩ ⟨_,rfl,t.l e⟩ (by omega) (by omega) (by omega) (by omega) (by omega) (by omega)).mono fun _ _ h=>h.vres)
  (fun f e=>(Ac _ _ b p f ⟨_,rfl,r.l e⟩ ⟨_,rfl,s.l e⟩ (by omega) (by omega) (by omega) (by omega) (by omega) (by omega)).mono fun _ _ h=>h.vres)
  (fun f e=>(Ac _ _ b q f ⟨_,rfl,r.l e⟩ ⟨_,rfl,t.l e⟩ (by omega) (by omega) (by omega) (by omega) (by omega) (by omega)).mono fun _ _ h=>h.vres) ?_
 intro R D F H J C E G I f e d N O P Q;have i: ∀j,j<4→Rd f .u32 (.slice (four' D F H J j) (Dg.dg 4294967296 (fourT a b p q j).n).length (four' C E G I j)) (Dg.dg 4294967296 (fourT a b p q j).n):=by
  intro j g
  match j,g with
  |0,_=>exact N
  |1,_=>exact O
  |2,_=>exact P
  |3,_=>exact Q
 have h:=FN R 4 (fourT a b p q) (four' D F H J) (four' C E G I) f (by omega) (by omega) d.lt
  (fun j g=>by match j,g with
   |0,_=>exact d.c 0 rfl
   |1,_=>exact d.c 3 rfl
   |2,_=>exact d.c 6 rfl
   |3,_=>exact d.c 9 rfl)
  (fun j g=>by match j,g with
   |0,_=>exact d.c 1 rfl
   |1,_=>exact d.c 4 rfl
   |2,_=>exact d.c 7 rfl
   |3,_=>exact d.c 10 rfl)
  (fun j g=>by match j,g with
   |0,_=>exact d.c 2 rfl
   |1,_=>exact d.c 5 rfl
   |2,_=>exact d.c 8 rfl
   |3,_=>exact d.c 11 rfl)
  (fun j k B g K q2=>by
   have l1:=(m j).len;have l2:=(m k).len;obtain⟨-,e1,e2⟩:=m j;obtain⟨-,e3,e4⟩:=m k;exact iE _ _ (fourT a b p q j) (fourT a b p q k) B ⟨_,rfl,(i j g).l q2⟩ ⟨_,rfl,(i k K).l q2⟩ (by omega) (by omega) (by omega) (by omega) (by omega) (by omega))
 refine h.mono ?_;rintro z B ⟨rfl,q2⟩;exact⟨_,_,rfl,(i (loI (fourT a b p q) 3) (by have:=tB (fourT a b p q) 3;omega)).l q2,(i (hiI (fourT a b p q) 3) (by have:=wN (fourT a b p q) 3;omega)).l q2,q2⟩
theorem splus9 (v u:Value)(a b p q:ak)(w:World)(o:SpanV w v a b)(n:SpanV w u p q)(j:Fit9 a)(k:Fit9 b)(m:Fit9 p)(fq:Fit9 q):yC 103 #[v,u] w (aeT w (aG a p) (aG b q)):=by
 obtain⟨K,L,rfl,e,f⟩:=o;obtain⟨M,N,rfl,g,i⟩:=n;obtain⟨x,t,rfl⟩:=e.shape;obtain⟨B,A,rfl⟩:=f.shape;obtain⟨H,G,rfl⟩:=g.shape;obtain⟨J,I,rfl⟩:=i.shape;obtain⟨C,r,s⟩:=j.all;obtain⟨D,y,z⟩:=k.all;obtain⟨E,p1,p2⟩:=m.all;obtain⟨F,q1,q2⟩:=fq.all;exact spanPlus_W a b p q _ _ _ _ _ _ _ _ _ _ w
  (fun d c=>(uj _ _ a p d ⟨_,rfl,e.l c⟩ ⟨_,rfl,g.l c⟩ (by omega) (by omega) (by omega) (by omega) (by omega) (by omega)).mono fun _ _ h=>h.vres)
  (fun d c=>(uj _ _ b q d ⟨_,rfl,f.l c⟩ ⟨_,rfl,i.l c⟩ (by omega) (by omega) (by omega) (by omega) (by omega) (by omega)).mono fun _ _ h=>h.vres)
theorem dcmp9 (v u:Value)(a b:ak)(w:World)(f:Dv w v a)(e:Dv w u b)(c:RgT 2000000000 2000000000 a)(d:RgT 2000000000 2000000000 b):yC 22 #[v,u] w (yR w (yi (bJ a b))):=by
 have k:(Dg.dg 4294967296 a.n).length≤125000000:=jq (bits_lt a.n) (by have:=c.1;have:=c.2;omega);have l:(Dg.dg 4294967296 b.n).length≤125000000:=jq (bits_lt b.n) (by have:=d.1;have:=d.2;omega);obtain⟨g,h⟩:=c;obtain⟨i,j⟩:=d;exact iE _ _ a b w f e (by omega) (by omega) (by omega) (by omega) (by omega) (by omega)
theorem around4 (x:Nat→ak)(v: ∀j,RgT 2000000000 2000000000 (x j))(u:Nat)(i o q t:Option Addr)(g m p r:Nat)(d:World)
  (a:au d u 41 [.bool (x 0).s,.slice i (Dg.dg 4294967296 (x 0).n).length g,yi (x 0).e,.bool (x 1).s,.slice o (Dg.dg 4294967296 (x 1).n).length m,yi (x 1).e,.bool (x 2).s,.slice q (Dg.dg 4294967296 (x 2).n).length p,yi (x 2).e,.bool (x 3).s,.slice t (Dg.dg 4294967296 (x 3).n).length r,yi (x 3).e])
  (A:Rd d .u32 (.slice i (Dg.dg 4294967296 (x 0).n).length g) (Dg.dg 4294967296 (x 0).n)) (B:Rd d .u32 (.slice o (Dg.dg 4294967296 (x 1).n).length m) (Dg.dg 4294967296 (x 1).n)) (C:Rd d .u32 (.slice q (Dg.dg 4294967296 (x 2).n).length p) (Dg.dg 4294967296 (x 2).n)) (D:Rd d .u32 (.slice t (Dg.dg 4294967296 (x 3).n).length r) (Dg.dg 4294967296 (x 3).n)):
  yC 130 #[.slice (some ⟨u,0,none⟩) 4 4] d (aeT d (loT x 3) (hiT x 3)):=by
 have f: ∀j,j<4→Rd d .u32 (.slice (four' i o q t j) (Dg.dg 4294967296 (x j).n).length (four' g m p r j)) (Dg.dg 4294967296 (x j).n):=by
  intro j b
  match j,b with
  |0,_=>exact A
  |1,_=>exact B
  |2,_=>exact C
  |3,_=>exact D
 have h:=FN u 4 x (four' i o q t) (four' g m p r) d (by omega) (by omega) a.lt
  (fun j b=>by match j,b with
   |0,_=>exact a.c 0 rfl
   |1,_=>exact a.c 3 rfl
   |2,_=>exact a.c 6 rfl
   |3,_=>exact a.c 9 rfl)
  (fun j b=>by match j,b with
   |0,_=>exact a.c 1 rfl
   |1,_=>exact a.c 4 rfl
   |2,_=>exact a.c 7 rfl
   |3,_=>exact a.c 10 rfl)
  (fun j b=>by match j,b with
   |0,_=>exact a.c 2 rfl
   |1,_=>exact a.c 5 rfl
   |2,_=>exact a.c 8 rfl
   |3,_=>exact a.c 11 rfl)
  (fun j k w b y q2=>dcmp9 _ _ (x j) (x k) w ⟨_,rfl,(f j b).l q2⟩ ⟨_,rfl,(f k y).l q2⟩ (v j) (v k))
 refine h.mono ?_;rintro z w ⟨rfl,q2⟩;exact⟨_,_,rfl,(f (loI x 3) (by have:=tB x 3;omega)).l q2,(f (hiI x 3) (by have:=wN x 3;omega)).l q2,q2⟩
theorem stimes9 (v u:Value)(a b p q:ak)(w:World)(x:SpanV w v a b)(r:SpanV w u p q)(k:Fit9 a)(m:Fit9 b)(n:Fit9 p)(fq:Fit9 q):
  yC 101 #[v,u] w (aeT w (timesS (a,b) (p,q)).1 (timesS (a,b) (p,q)).2):=by
 have y: ∀j,RgT 2000000000 2000000000 (fourT a b p q j):=fun j=>(rg_four (s:=(a,b)) (t:=(p,q)) ⟨k,m⟩ ⟨n,fq⟩ j).mono (by omega) (by omega)
 obtain⟨U,W,rfl,e,f⟩:=x;obtain⟨X,Y,rfl,g,i⟩:=r;obtain⟨H,G,rfl⟩:=e.shape;obtain⟨L,K,rfl⟩:=f.shape;obtain⟨R,Q,rfl⟩:=g.shape;obtain⟨T,S,rfl⟩:=i.shape;obtain⟨M,E,F⟩:=k.all;obtain⟨N,I,J⟩:=m.all;obtain⟨O,p1,p2⟩:=n.all;obtain⟨P,q1,q2⟩:=fq.all;exact spanTimes_W a b p q _ _ _ _ _ _ _ _ (aK a p) (aK a q) (aK b p) (aK b q) _ _ w
  (fun d c=>(Ac _ _ a p d ⟨_,rfl,e.l c⟩ ⟨_,rfl,g.l c⟩ (by omega) (by omega) (by omega) (by omega) (by omega) (by omega)).mono fun _ _ h=>h.vres)
  (fun d c=>(Ac _ _ a q d ⟨_,rfl,e.l c⟩ ⟨_,rfl,i.l c⟩ (by omega) (by omega) (by omega) (by omega) (by omega) (by omega)).mono fun _ _ h=>h.vres)
  (fun d c=>(Ac _ _ b p d ⟨_,rfl,f.l c⟩ ⟨_,rfl,g.l c⟩ (by omega) (by omega) (by omega) (by omega) (by omega) (by omega)).mono fun _ _ h=>h.vres)
  (fun d c=>(Ac _ _ b q d ⟨_,rfl,f.l c⟩ ⟨_,rfl,i.l c⟩ (by omega) (by omega) (by omega) (by omega) (by omega) (by omega)).mono fun _ _ h=>h.vres)
  (fun D a0 a4 a6 a8 Z a3 a5 a7 d _ o z A B C=>around4 (fourT a b p q) y D _ _ _ _ _ _ _ _ d o z A B C)
end Go.Proofs.YthhiidikgchdeaaGreatDoor
