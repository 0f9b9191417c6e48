/- Texts laid together. -/
import Derived.Test.YthhiidikgchdeabGreatDoorLb30
import Derived.Test.YthhiidikgchdeabGreatDoorLb31
import Derived.Test.YthhiidikgchdeabGreatDoorLb32
set_option maxRecDepth 100000
set_option maxHeartbeats 3200000
namespace Go.Proofs.YthhiidikgchdeabGreatDoor
open _root_.Go.Proofs.Tryz
open Go.RowKit
theorem signs_pos (a b:ak)(f h:Option Addr)(d g:Nat)(w:World)
  (j:yH w 20 #[yDV a f d] (yi 1))
  (k:yH w 20 #[yDV b h g] (yi 1)):
  yC 95 #[.agg #[.bool a.s,yT f a.n d,yi a.e,.bool b.s,yT h b.n g,yi b.e]] w (yR w (.bool true)):=by
 replace j:Hid _:=j;replace k:Hid _:=k;obtain⟨r,p,q1,A⟩:=cA w [.bool a.s,yT f a.n d,yi a.e,.bool b.s,yT h b.n g,yi b.e] 54;replace p:Hid _:=p
 go_enter func95,ntmps95
 go_upto_region 1 with fail
 rw[p.out];clear p
 go_upto_region 1 with fail
 have u:yB r r.drew:=(Below.refl _ _).drew;have q:=q1.l u;have m:=aa A u;clear q1 A u;refine wp_region_held_drew (S:=fun E=>au E w.heap.size 54 [.bool a.s,yT f a.n d,yi a.e,.bool b.s,yT h b.n g,yi b.e]) (by kernel_rfl) q (fun c=> ?_)
 generalize r.drew=G at q m c⊢;refine tq 0 (.pointer (some ⟨w.heap.size,0,none⟩)) rfl (fun _ _=>by kernel_rfl) c ?_
 refine tq 1 (yDV a f d) rfl (fun _ y=>fy 48 (.tmp 3) rfl w.heap.size 0 (by kernel_rfl) _ _ (kY y 0 3 rfl) underlying48 rfl (by kernel_rfl)) c ?_
 refine tq 3 (.pointer (some ⟨w.heap.size,3,none⟩)) rfl (fun _ _=>by kernel_rfl) c ?_
 refine tq 4 (yDV b h g) rfl (fun _ y=>fy 48 (.tmp 6) rfl w.heap.size 3 (by kernel_rfl) _ _ (kY y 3 3 rfl) underlying48 rfl (by kernel_rfl)) c ?_
 refine wpAnyH_ready (rs:=[2]) (by kernel_rfl) (by simp) ?_;refine AllReadyH.cons rfl (fun K i=> ?_) AllReadyH.nil
 go_simp
 refine(j.out _ m).mono ?_;rintro F I ⟨rfl,v⟩;have z:=q.l v;have t:=aa m v;clear q m v j;refine i.out _ _ z (fun C=> ?_)
 clear i K;refine wpAnyH_ready (rs:=[5]) (by kernel_rfl) (by simp) ?_;refine AllReadyH.cons rfl (fun K i=> ?_) AllReadyH.nil
 go_simp
 refine(k.out _ t).mono ?_;rintro F H ⟨rfl,x⟩;have D:=z.l x;have B:=aa t x;clear z t x k;refine i.out _ _ D (fun o=> ?_)
 clear i K;refine tq 6 (yi 1) rfl (fun _ _=>by go_simp<;>rfl) o ?_
 refine tq 7 (.bool true) rfl (fun _ _=>by go_simp<;>rfl) o ?_
 refine tq 8 (.bool true) rfl (fun _ _=>by kernel_rfl) o ?_
 refine wpAnyH_done (by kernel_rfl) ?_ _;clear c C o;simp only[Act.put,List.getElem_toArray,List.getElem_cons_succ,List.getElem_cons_zero,List.setIfInBounds_toArray,List.set_cons_zero,List.set_cons_succ]
 go_wp2
 go_ret
 exact⟨by simp,B⟩
theorem exp_pos (a:ak)(r:Option Addr)(o:Nat)(x y p q:ak)(n:Nat)(k e f:Int)(w:World)(ra:Rd w .u32 (yT r a.n o) (Dg.dg 4294967296 a.n))(hn:IntKind.i64.wrap n=(n:Int))
  (D:yJ 29 #[ydV false (yT r a.n o) a.e] (ydV false (yT r a.n o) a.e))
  (E: ∀b,yB w b→Rd b .u32 (yT r a.n o) (Dg.dg 4294967296 a.n)→yC 77 #[ydV false (yT r a.n o) a.e,yi k,.func (.func 78) #[] #[]] b (KRd b n x y))
  (F: ∀M L O N b,yB w b→Rd b .u32 (yT M x.n L) (Dg.dg 4294967296 x.n)→Rd b .u32 (yT O y.n N) (Dg.dg 4294967296 y.n)→yC 79 #[.agg #[.bool x.s,yT M x.n L,yi x.e,.bool y.s,yT O y.n N,yi y.e],yi k,.func (.func 80) #[] #[]] b (aeT b p q))
  (G: ∀no Y b,yB w b→Rd b .u32 (yT no n Y) (Dg.dg 4294967296 n)→yC 82 #[yT no n Y] b (yR b (.int .u64 n)))
  (H: ∀z v C B b,yC 81 #[.agg #[.bool p.s,yT z p.n v,yi p.e,.bool q.s,yT C q.n B,yi q.e],yi n] b (yR b (.agg #[.bool p.s,yT z p.n v,yi e,.bool q.s,yT C q.n B,yi f]))):
  yC 45 #[ydV false (yT r a.n o) a.e,yi k] w (aeT w ⟨p.s,p.n,e⟩ ⟨q.s,q.n,f⟩):=by
 replace D:Hid _:=D;replace E:Hid _:=E;replace F:Hid _:=F;replace G:Hid _:=G;replace H:Hid _:=H;obtain⟨W4,J,q1,q2,T⟩:=iG w (ydL false (yT r a.n o) a.e) 48 [.bool false,yN,yi 0,.bool false,yN,yi 0] 54;replace J:Hid _:=J;have r6:=ra.l T;clear ra
 go_enter func45,ntmps45
 go_upto_region 1 with fail
 rw[J.out];clear J;obtain⟨c7,c8,c9⟩:=q1.cs3
 go_wp2_with fail
 refine(D.out _).mono ?_;rintro Q cw ⟨rfl,t⟩;have ar:=q1.l t;have av:=q2.l t;have a3:=r6.l t;have R:=aa T t;clear q1 q2 r6 T t D c7 c8 c9
 go_wp2_with fail
 refine(E.out _ R a3).mono ?_;rintro Q bq ⟨cp,cs,cv,rfl,a4,a6,a9,u⟩;have Z:=ar.l u;have a0:=av.l u;have b7:=a3.l u;have S:=aa R u;obtain⟨no,Y,i⟩:=a4.shape;subst i;obtain⟨M,L,i⟩:=a6.shape;subst i;obtain⟨O,N,i⟩:=a9.shape;subst i;clear ar av a3 R u E;obtain⟨c6,I,ax,j⟩:=cA bq [.bool x.s,yT M x.n L,yi x.e,.bool y.s,yT O y.n N,yi y.e] 54;replace I:Hid _:=I;have cj:w.heap.size≤bq.heap.size:=S.size;have ck:=Z.lt;have cl:=a0.lt;have ay:=Z.l j;have az:=a0.l j;have b8:=b7.l j;have b9:=a4.l j;have a8:=a6.l j;have ad:=a9.l j;have U:=aa S j;clear Z a0 b7 a4 a6 a9 S j
 go_upto_region 2 with fail
 rw[I.out];clear I;obtain⟨bt,bu,bv,bw,bx,bz⟩:=ax.cs6
 go_wp2_with fail
 refine(F.out _ _ _ _ _ U a8 ad).mono ?_;rintro Q cx ⟨cr,ct,rfl,a5,a7,m⟩;have b0:=ay.l m;have b1:=az.l m;have ba:=b8.l m;have ae:=b9.l m;have bb:=a8.l m;have bc:=ad.l m;have W:=aa U m;obtain⟨z,v,i⟩:=a5.shape;subst i;obtain⟨C,B,i⟩:=a7.shape;subst i;clear ay az ax b8 b9 a8 ad U m F bt bu bv bw bx bz
 go_wp2_with fail
 refine(G.out _ _ _ W ae).mono ?_;rintro Q cy ⟨rfl,g⟩;have b2:=b0.l g;have b4:=b1.l g;have bd:=ba.l g;have be:=ae.l g;have bf:=bb.l g;have bg:=bc.l g;have bh:=a5.l g;have bi:=a7.l g;have ap:=aa W g;clear b0 b1 ba ae bb bc a5 a7 W g G
 go_wp2_with fail
 refine(H.out _ _ _ _ _).mono ?_;rintro Q bs ⟨rfl,h⟩;have a1:=b2.l h;have a2:=b4.l h;have bj:=bd.l h;have bl:=be.l h;have bm:=bf.l h;have bn:=bg.l h;have bo:=bh.l h;have bp:=bi.l h;have X:=aa ap h;clear b2 b4 bd be bf bg bh bi ap h H;obtain⟨ca,K,b5,d⟩:=cA bs [.bool p.s,yT z p.n v,yi e,.bool q.s,yT C q.n B,yi f] 54;replace K:Hid _:=K;have cm:w.heap.size≤bs.heap.size:=X.size;have cn:=a1.lt;have co:=a2.lt;have b6:=a1.l d;have A:=a2.l d;have c0:=bj.l d;have c1:=bl.l d;have c2:=bm.l d;have c3:=bn.l d;have al:=bo.l d;have an:=bp.l d;have aq:=aa X d;clear a1 a2 bj bl bm bn bo bp X d
 go_upto_region 3 with fail
 rw[K.out];clear K;have ci:=b6.c 0 rfl;obtain⟨cb,cc,cd,ce,cg,ch⟩:=b5.cs6;have hf:=fin6 (P:=Tryz.prog) A aq (by omega) underlying54 rfl (by kernel_rfl) (.bool p.s) (yT z p.n v) (yi e) (.bool q.s) (yT C q.n B) (yi f);have HH:Hid (_∧_∧_∧_):=⟨hf.1,hf.2.2.rd al (aX al A (by simp)),hf.2.2.rd an (aX an A (by simp)),hf.2.1⟩;obtain⟨⟨z0,z1,z2,z3,z4,z5⟩,y0,y1,y2,y3,y4,y5⟩:=csf6 A;clear hf b6 A b5 c0 c1 c2 c3 al an aq
 go_wp2
 obtain⟨hl,c4,c5,bR⟩:=HH.out;exact bodyPost_ret (br results45 rfl hl) rfl ⟨_,_,rfl,c4,c5,bR⟩
theorem small_in {s:ak×ak}{B:Nat}(h:smallS s B):(ivS s).inn (p2 (-(B:Int)-1)):=by
 obtain⟨a,b,-⟩:=gr_ge s;have f:qT (grS s)≤p2 (-(B:Int)-1):=by
  rcases h with h|h
  ·rw[qT_zero h]
   have:=p2_pos (-(B:Int)-1)
   grind
  ·by_cases c:(grS s).n=0
   ·rw[qT_zero c]
    have:=p2_pos (-(B:Int)-1)
    grind
   ·have t:=(qT_top c).2
    rw[gr_ab] at t;have:=p2_mono (show(grS s).e+(bitLen (grS s).n:Int)≤ -(B:Int)-1 by omega)
    grind
 rw[ab_le] at a;have d:=ab_le.1 b
 constructor
 ·show-_≤qT s.1
  grind
 ·show qT s.2≤_
  grind
def pwsT (u:ak×ak)(B:Nat)(nx:Nat→Nat×Nat):Nat→Nat→ak×ak→ak×ak→ak×ak
 |0,_,sum,_=>sum
 |f+1,k,sum,term=>
  let t:=partS (timesS term u) (nx k).1 (nx k).2 B
  if smallS t B then cutSp (plusS sum (timesS t restS)) B else pwsT u B nx f (k+1) (cutSp (plusS sum t) B) t
theorem near_any (y:ak)(h:y.s=false):(nearT y:Rat)≤qT y+1/2∧qT y+1/2< (nearT y:Rat)+1:=by
 have a:qT (aG y (upT (wTr 1) (-1)))=qT y+1/2:=by
  rw[qT_plus,qT_up,qT_w,p2_mhalf];have:((1:Nat):Rat)=1:=rfl
  grind
 have g:(aG y (upT (wTr 1) (-1))).s=false:=by
  unfold aG;simp only;rw[if_pos (by rw[h];rfl)];exact h
 unfold nearT;simp only;obtain⟨m,l⟩: ∃m,aG y (upT (wTr 1) (-1))=m:=⟨_,rfl⟩;rw[l] at a g⊢;rw[←a,qT_sq,g];simp only[sqT,Bool.false_eq_true,if_false];have one:(1:Rat)*((m.n:Rat)*p2 m.e)=(m.n:Rat)*p2 m.e:=by grind
 rw[one]
 by_cases c:0≤m.e
 ·rw[if_pos c,Rat.natCast_mul]
  have:p2 m.e=((2^m.e.toNat:Nat):Rat):=by unfold p2;rw[if_pos c]
  rw[this]
  constructor<;>grind
 ·rw[if_neg c]
  obtain⟨k,j⟩: ∃k:Nat,m.e= -(k:Int):=⟨(-m.e).toNat,by omega⟩;rw[j,show(-(-(k:Int))).toNat=k by omega]
  have t:=two_posR k;have b:=p2_neg (k:Int);rw[p2_nat] at b;have d:=Nat.div_add_mod m.n (2^k);have o:=Nat.mod_lt m.n (show 0<2^k from Nat.pow_pos (by omega))
  obtain⟨q,a⟩: ∃q,m.n/2^k=q:=⟨_,rfl⟩;rw[a] at d⊢;have p:=p2_pos (-(k:Int));have f:((2^k*q:Nat):Rat)≤(m.n:Rat):=nat_le (by omega);have r:(m.n:Rat)< ((2^k*q+2^k:Nat):Rat):=nat_lt (by omega);rw[Rat.natCast_mul] at f;rw[Rat.natCast_add,Rat.natCast_mul] at r;clear d o a;generalize p2 (-(k:Int))=z at*;generalize((2^k:Nat):Rat)=w at*;have ew:w*(q:Rat)*z=(q:Rat):=by
   have:w*(q:Rat)*z=w*z*(q:Rat):=by grind
   rw[this,b]
   grind
  constructor
  ·have:=Rat.mul_le_mul_of_nonneg_right f (show 0≤z by grind)
   rwa [ew] at this
  ·have:=Rat.mul_pos (show 0<w*(q:Rat)+w-(m.n:Rat) by grind) p
   have i:(w*(q:Rat)+w-(m.n:Rat))*z=w*(q:Rat)*z+w*z-(m.n:Rat)*z:=by grind
   rw[i,ew,b] at this
   grind
def athS (z:ak×ak)(B:Nat):ak×ak:=upS (timesS z (pwsT (cutSp (timesS z z) B) B nxA (B+2) 1 (wTr 1,wTr 1) (wTr 1,wTr 1))) 1
theorem scut9 (v:Value)(a b:ak)(B:Nat)(w:World)(m:SpanV w v a b)(j:Fit9 a)(k:Fit9 b)(e:1≤B)(f:B≤10000)(g:Tab w):yC 55 #[v,yi B] w (aeT w (cutSp (a,b) B).1 (cutSp (a,b) B).2):=by
 obtain⟨r,s,rfl,h,i⟩:=m;obtain⟨o,n,rfl⟩:=h.shape;obtain⟨q,p,rfl⟩:=i.shape;exact Nt _ _ _ _ _ _ _ _ _ _ _ _ _ w (fun d c=>dcut9 _ a B false d ⟨_,rfl,h.l c⟩ j e f (g.l c)) (fun d c=>dcut9 _ b B true d ⟨_,rfl,i.l c⟩ k e f (g.l c))
theorem spart9 (v:Value)(a b:ak)(t o B:Nat)(w:World)(T:SpanV w v a b)(A:RgT 900000000 900000000 a)(C:RgT 900000000 900000000 b)(G:t<2^30)(F:o<2^30)(P:o≠0)(D:1≤B)(E:B≤10000)(Q:Tab w):
  yC 113 #[v,yi t,yi o,yi B] w (aeT w (partS (a,b) t o B).1 (partS (a,b) t o B).2):=by
 obtain⟨s1,s2,rfl,H,I⟩:=T;obtain⟨K,J,rfl⟩:=H.shape;obtain⟨M,L,rfl⟩:=I.shape;have N:Fit9 (wTr o):=(RgT.w o 30 F).fit (by omega) (by omega);have O:Fit9 (wTr t):=(RgT.w t 30 G).fit (by omega) (by omega);have a0:bitLen o≤30:=bits_le F;have z: ∀q:ak,RgT 900000000 900000000 q→Fit9 (aK q (wTr t))∧Fit9 (cK (aK q (wTr t)) (wTr o) B):=fun q r=>by
  have g:=r.times (RgT.w t 30 G);refine⟨g.fit (by omega) (by omega),(g.over (b:=wTr o) D).fit ?_ ?_⟩
  ·show 900000000+0+0+(bitLen o:Int)+(B:Int)+1≤_
   omega
  ·show 900000000+(30:Nat)-0+1≤(1000000000:Int)
   omega
 have one: ∀(q:ak) (u:Option Addr) (s f e d:Nat) (c:World),RgT 900000000 900000000 q→Rd c .u32 (yT u q.n s) (Dg.dg 4294967296 q.n)→au c f 3 [yi t]→au c e 3 [yi o]→au c d 3 [yi B]→
   yC 129 #[yDV q u s,.pointer (some ⟨f,0,none⟩),.pointer (some ⟨e,0,none⟩),.pointer (some ⟨d,0,none⟩)] c (Lx c (cK (aK q (wTr t)) (wTr o) B)):=fun q u s f e d c r R k m p=>by
  obtain⟨U,k2⟩:=z q r;obtain⟨lq,q1,q2⟩:=(r.fit (by omega) (by omega):Fit9 q).all;obtain⟨lt,t1,t2⟩:=O.all;exact part1_W f e d q u s (wTr t) (aK q (wTr t)) (wTr o) _ _ _ _ c k.range m.range p.range (fun j _=>whole_any t j (by omega))
   (fun X W j i x=>(Ac _ _ q (wTr t) j ⟨_,rfl,R.l i⟩ ⟨_,rfl,x⟩ (by omega) (by omega) (by omega) (by omega) (by omega) (by omega)).mono fun _ _ h=>h.vres)
   (fun j _=>whole_any o j (by omega)) (fun Z Y uo uc j _ y S=>dover9 _ _ _ _ B j ⟨_,rfl,y⟩ ⟨_,rfl,S⟩ P U N E)
 refine part_W a b K M J L _ _ _ _ _ _ _ w (fun f e d c i k m p=>one a _ _ f e d c A (H.l i) k m p) (fun f e d c i k m p=>one b _ _ f e d c C (I.l i) k m p)
  (fun X W Z Y c i x y=>scut9 _ _ _ B c ⟨_,_,rfl,x,y⟩ (z a A).2 (z b C).2 D E (Q.l i))
theorem ln_has (k:Nat):(∀n,k+1≤n→qT (lnLo k)≤CxN.la n∧CxN.la n≤qT (lnHi k))∧
  (qT (lnHi k)-qT (lnLo k))*((2^k:Nat):Rat)=36*(3+3*(NA 26 0 k:Rat))+4*(3+3*(NA 4801 0 k:Rat))+16*(3+3*(NA 8749 0 k:Rat)):=by
 obtain⟨p,q,v,x⟩:=ln_VV k;have q1:=qT_V (K:=k) (t:=lnLo k) (by omega);have q2:=qT_V (K:=k) (t:=lnHi k) (by omega);rw[p] at q1;rw[q] at q2;have c: ∀n:Nat,((3+3*n:Nat):Rat)=3+3*(n:Rat):=fun n=>by rw[Rat.natCast_add,Rat.natCast_mul];rfl
 have l:=c (NA 26 0 k);have m:=c (NA 4801 0 k);have o:=c (NA 8749 0 k);simp only[Rat.intCast_add,Rat.intCast_sub,Rat.intCast_mul,Rat.intCast_natCast] at q1 q2;rw[l,m,o] at q1 q2;have g:((18:Int):Rat)=18:=rfl;have h:((2:Int):Rat)=2:=rfl;have i:((8:Int):Rat)=8:=rfl;rw[g,h,i] at q1 q2;refine⟨fun n E=> ?_,by grind⟩
 have y:=na_few (n:=26) (j:=9) (tn:=0) (k:=k) (by omega) (by decide);have z:=na_few (n:=4801) (j:=24) (tn:=0) (k:=k) (by omega) (by decide);have D:=na_few (n:=8749) (j:=26) (tn:=0) (k:=k) (by omega) (by decide);have r:=Nat.div_le_self k 9;have s:=Nat.div_le_self k 24;have u:=Nat.div_le_self k 26;have b:=xa_near (n:=26) (k:=k) (tn:=0) (w:=1/26) (by omega) (by omega) (by have:((26:Nat):Rat)=26:=rfl;rw[this];grind) n (by omega);have d:=xa_near (n:=4801) (k:=k) (tn:=0) (w:=1/4801) (by omega) (by omega) (by have:((4801:Nat):Rat)=4801:=rfl;rw[this];grind) n (by omega);have e:=xa_near (n:=8749) (k:=k) (tn:=0) (w:=1/8749) (by omega) (by omega) (by have:((8749:Nat):Rat)=8749:=rfl;rw[this];grind) n (by omega);rw[awg_aw] at b d e;have f:CxN.la n=18*aw (1/26) n-2*aw (1/4801) n+8*aw (1/8749) n:=by
  unfold CxN.la;have:(-1/4801:Rat)= -(1/4801):=by grind
  rw[this,aw_neg]
  grind
 rw[f];rw[ab_le] at b d e;have a:=two_posR k;generalize((2^k:Nat):Rat)=P at*;generalize aw (1/26) n=A at*;generalize aw (1/4801) n=B at*;generalize aw (1/8749) n=C at*
 constructor
 ·refine cancel_le a ?_
  rw[←q1]
  grind
 ·refine cancel_le a ?_
  rw[←q2]
  grind
theorem nearest9 (v:Value)(y:ak)(w:World)(r:Dv w v y)(fy:RgT 900000000 900000000 y):yC 109 #[v] w (fun z w'=> ∃v,z= .returned v∧Rd w' .u32 v (Dg.dg 4294967296 (nearT y))∧yB w w'):=by
 obtain⟨s,rfl,b⟩:=r;obtain⟨g,f,rfl⟩:=b.shape;have i:Fit9 y:=fy.fit (by omega) (by omega);have fh:RgT 900000000 900000000 (upT (wTr 1) (-1)):=((RgT.w 1 1 (by omega)).up (-1)).mono (by omega) (by omega);have j:Fit9 (upT (wTr 1) (-1)):=fh.fit (by omega) (by omega);have k:Fit9 (aG y (upT (wTr 1) (-1))):=(fy.plus fh).fit (by omega) (by omega);obtain⟨M,F,G⟩:=i.all;obtain⟨N,H,I⟩:=j.all;obtain⟨O,J,K⟩:=k.all;have q:shN (aG y (upT (wTr 1) (-1))).n (aG y (upT (wTr 1) (-1))).e=nearT y:=by
  unfold shN nearT;simp only
  by_cases c:(aG y (upT (wTr 1) (-1))).e<0
  ·rw[if_pos c,if_neg (by omega)]
  ·rw[if_neg c,if_pos (by omega)]
 have d: ∀a,yB w a→yC 43 #[yi 1] a (Lx a (wTr 1)):=fun a _=>whole_any 1 a (by omega)
 have L:(wTr 1).e=0:=rfl;generalize wTr 1=x at*;have u:IntKind.i64.wrap (x.e+ -1)=(upT x (-1)).e:=by show _=x.e+ -1;exact IntWalk.i64_in _ ⟨by omega,by omega⟩
 refine nearest_W y g f x (aG y (upT x (-1))) (upT x (-1)).e (nearT y) w b d (fun C B a=>dscaled_W _ _ _ _ _ _ _ a u) (fun C B a _ t p=> ?_) (fun E D a=>cN _ _ _ _ _ a) (fun E D a _ A=> ?_)
 ·exact(uj _ _ y (upT x (-1)) a ⟨_,rfl,p⟩ ⟨_,rfl,t⟩ (by omega) (by omega) (by omega) (by omega) (by omega) (by omega)).mono fun _ _ h=>h.vres
 ·have:=eO _ _ (aG y (upT x (-1))).e a A (Dg.small_dg _ _ (by omega)) (by omega) (by omega) (by omega)
  rw[Dg.vl_dg _ _ (by omega),q] at this;exact this.mono fun _ _ ⟨v,l,m,o⟩=>⟨v,l,m.rd,o⟩
theorem dtop9 (v:Value)(x:ak)(w:World)(d:Dv w v x)(f:Fit9 x):yC 53 #[v] w (yR w (yi ((bitLen x.n:Int)+x.e))):=by
 obtain⟨s,rfl,c⟩:=d;obtain⟨h,g,rfl⟩:=c.shape;obtain⟨k,i,j⟩:=f.all;have b:(bitLen x.n:Int)≤2000000000:=by have:=f.2;omega
 exact dtop_W x _ _ (bitLen x.n:Int) _ w (IntWalk.i64_in _ ⟨by omega,by omega⟩) (fun a=>cN _ _ _ _ _ a) (fun a b=>by
  have:=kE _ _ a (c.l b) (Dg.small_dg _ _ (by omega)) (Dg.norm_dg _ _ (by omega)) (by omega);rw[Dg.vl_dg _ _ (by omega)] at this;refine this.mono ?_;rintro z m ⟨rfl,rfl⟩;exact⟨rfl,Below.refl _ _⟩)
theorem swhole9 (n:Nat)(w:World)(h:n<1000000):yC 25 #[yi n] w (aeT w (wTr n) (wTr n)):=
 spanWhole_W n (wTr n) w (fun a=>whole_any n a (by omega)) (fun c b a=>Qy _ _ _ _ _ a)
theorem pws_rg {u:ak×ak}{B:Nat}{nx:Nat→Nat×Nat}{I:Nat→ak×ak→ak×ak→Prop}(g:1≤B)
  (b: ∀k s t,I k s t→k≤B+1∧RgS 400000000 400000000 s∧RgS 400000000 400000000 t∧RgS 400000000 400000000 (partS (timesS t u) (nx (k+1)).1 (nx (k+1)).2 B)∧
   (¬smallS (partS (timesS t u) (nx (k+1)).1 (nx (k+1)).2 B) B→I (k+1) (cutSp (plusS s (partS (timesS t u) (nx (k+1)).1 (nx (k+1)).2 B)) B) (partS (timesS t u) (nx (k+1)).1 (nx (k+1)).2 B))):
  ∀f k s t,I k s t→B+2≤f+k→RgS 400000001 400000004 (pwsT u B nx f (k+1) s t):=by
 intro f
 induction f with
 |zero=>intro k s t h e;have:=(b k s t h).1;omega
 |succ f ih=>
  intro k s t h e;obtain⟨j,gs,gt,c,d⟩:=b k s t h;rw[pwsT];obtain⟨q,i⟩: ∃q,partS (timesS t u) (nx (k+1)).1 (nx (k+1)).2 B=q:=⟨_,rfl⟩;rw[i] at c d⊢
  by_cases a:smallS q B
  ·rw[if_pos a]
   exact(RgS.plus (gs.mono (by omega) (by omega)) ((c.times rest_rg).mono (E':=400000001) (T':=400000002) (by omega) (by omega))).cut g
  ·rw[if_neg a]
   exact ih (k+1) _ _ (d a) (by omega)
theorem athU_any {z:ak×ak}{B:Nat}{X:Rat}(w:84≤B)(x:B≤1000)(g:ab X≤1/4)(d:IvN.Cut (p2 (2-(B:Int))) ⟨X,X⟩ (ivS z)):
  (ivS (cutSp (timesS z z) B)).inn (1/2)∧(ivS (cutSp (timesS z z) B)).lo≤(ivS (cutSp (timesS z z) B)).hi∧(ivS (cutSp (timesS z z) B)).wd≤p2 (17-(B:Int)):=by
 have A:=p2_pos (2-(B:Int));have C:p2 (2-(B:Int))≤1/4:=by
  have:=p2_mono (show 2-(B:Int)≤ -2 by omega)
  have e:p2 (-2)=1/4:=by
   have:=p2_neg 2;have o:p2 2=4:=by decide+kernel
   rw[o] at this
   grind
  rwa [e] at this
 have n:p2 (17-(B:Int))=32768*p2 (2-(B:Int)):=by
  rw[show 17-(B:Int)=15+(2-(B:Int)) by omega,p2_add]
  have:p2 15=32768:=by decide+kernel
  rw[this]
 have y:=ab_nonneg X;have f:hf 2=1/4:=by simp only[hf];grind
 have c:hf 4=1/16:=by simp only[hf];grind
 have p:=ab_le.1 g;have q:=ab_le.1 (Rat.le_refl (a:=ab X));have k:(ivS z).inn (1/4):=by
  have:=d.pow 2 (by rw[f];exact⟨by show-_≤X;grind,p.1⟩)
  rwa [f] at this
 obtain⟨u,l⟩:=d.wd (m:=ab X) (by grind) ⟨by show-_≤X;grind,q.1⟩ Rat.le_refl
 have v:(⟨X,X⟩:IvN).wd=0:=by unfold IvN.wd;simp only;grind
 rw[v] at u;obtain⟨E,r,i⟩:=IvN.times_wd k k l l;have cu:=cut_ivS (timesS z z) B (by omega) (by rw[times_iv];exact i);rw[times_iv] at cu;have h:(IvN.times (ivS z) (ivS z)).inn (hf 4):=by
  rw[c];have:(1/4:Rat)*(1/4)=1/16:=by grind
  rwa [this] at r
 have j:=cu.pow 4 h;rw[c] at j;obtain⟨uw,t⟩:=cu.wd (by grind) h i;rw[c] at uw;have s:(ivS (cutSp (timesS z z) B)).inn (1/2):=by
  obtain⟨a,b⟩:=j
  constructor<;>grind
 have D:=Rat.mul_le_mul_of_nonneg_left g (show 0≤p2 (2-(B:Int)) by grind)
 exact⟨s,t,by rw[n];grind⟩
theorem log_00 (a:ak)(h:Option Addr)(d:Nat)(x p q:ak)(k g j f c m n:Int)(w:World)(ra:Rd w .u32 (yT h a.n d) (Dg.dg 4294967296 a.n))(hj:IntKind.i64.wrap (g-2)=j)(hc: ¬c<0)(hn:IntKind.i64.wrap (-g)=n)(O:g=0)
  (H: ∀b,yB w b→Rd b .u32 (yT h a.n d) (Dg.dg 4294967296 a.n)→yC 53 #[yDV a h d] b (yR b (yi g)))
  (I: ∀b,yB w b→yC 43 #[yi 3] b (Lx b x))
  (J: ∀v u b,yC 84 #[yDV x v u,yi j] b (yR b (ydV x.s (yT v x.n u) f)))
  (L: ∀v u b,yB w b→Rd b .u32 (yT h a.n d) (Dg.dg 4294967296 a.n)→Rd b .u32 (yT v x.n u) (Dg.dg 4294967296 x.n)→yC 42 #[yDV a h d,ydV x.s (yT v x.n u) f] b (yR b (yi c)))
  (T5:yJ 84 #[yDV a h d,yi n] (ydV a.s (yT h a.n d) m))
  (T6: ∀b,yB w b→Rd b .u32 (yT h a.n d) (Dg.dg 4294967296 a.n)→yC 85 #[ydV a.s (yT h a.n d) m,yi k] b (aeT b p q)):
  yC 47 #[yDV a h d,yi k] w (aeT w p q):=by
 replace H:Hid _:=H;replace I:Hid _:=I;replace J:Hid _:=J;replace L:Hid _:=L;replace T5:Hid _:=T5;replace T6:Hid _:=T6;replace O:Hid _:=O;obtain⟨W4,Q,q1,q2,N⟩:=iG w (yDL a h d) 48 [.bool false,yN,yi 0,.bool false,yN,yi 0] 54;replace Q:Hid _:=Q;have r6:=ra.l N;clear ra
 go_enter func47,ntmps47
 go_upto_region 1 with fail
 rw[Q.out];clear Q;obtain⟨c7,c8,c9⟩:=q1.cs3
 go_wp2_with fail
 refine(H.out _ N r6).mono ?_;rintro G al ⟨rfl,z⟩;have ax:=q1.l z;have ay:=q2.l z;have b5:=r6.l z;have an:=aa N z;clear q1 q2 r6 N z H c7 c8 c9
 go_upto_region 2 with fail
 have y:yB al al.drew:=(Below.refl _ _).drew;have T:=ax.l y;have Y:=ay.l y;have a3:=b5.l y;have M:=aa an y;clear ax ay b5 an y;refine wp_region_held_drew (S:=fun wq=>au wq w.heap.size 48 (yDL a h d)) (by kernel_rfl) T (fun D=> ?_)
 generalize al.drew=bp at T Y a3 M D⊢;refine tq 0 (yDV a h d) rfl (fun _ bi=>fy 48 (.tmp 2) rfl w.heap.size 0 (by kernel_rfl) _ _ bi.range underlying48 rfl (by kernel_rfl)) D ?_
 refine tq 2 (yi g) rfl (fun _ _=>by kernel_rfl) D ?_
 refine tq 3 (yi j) rfl (fun _ _=>by go_simp) D ?_
 refine wpAnyH_ready (rs:=[1]) (by kernel_rfl) (by simp) ?_;refine AllReadyH.cons rfl (fun K i=> ?_) AllReadyH.nil
 go_simp
 refine(I.out _ M).mono ?_;rintro G c3 ⟨c0,rfl,a4,A⟩;have Z:=T.l A;have az:=Y.l A;have b6:=a3.l A;have ap:=aa M A;obtain⟨v,u,E⟩:=a4.shape;subst E;clear T Y a3 M A I;refine i.out _ _ Z (fun bg=> ?_)
 clear i K;refine wpAnyH_ready (rs:=[4]) (by kernel_rfl) (by simp) ?_;refine AllReadyH.cons rfl (fun K i=> ?_) AllReadyH.nil
 go_simp
 refine(J.out _ _ _).mono ?_;rintro G c4 ⟨rfl,r⟩;have a0:=Z.l r;have b0:=az.l r;have a7:=b6.l r;have a8:=a4.l r;have U:=aa ap r;clear Z az b6 a4 ap r J;refine i.out _ _ a0 (fun bh=> ?_)
 clear i K;refine wpAnyH_ready (rs:=[5]) (by kernel_rfl) (by simp) ?_;refine AllReadyH.cons rfl (fun K i=> ?_) AllReadyH.nil
 go_simp
 refine(L.out _ _ _ U a7 a8).mono ?_;rintro G c5 ⟨rfl,t⟩;have a1:=a0.l t;have b1:=b0.l t;have b7:=a7.l t;have b8:=a8.l t;have aq:=aa U t;clear a0 b0 a7 a8 U t L;refine i.out _ _ a1 (fun av=> ?_)
 clear i K;refine tq 6 (.bool false) rfl (fun _ _=>by go_simp) av ?_
 refine wpAnyH_done (by kernel_rfl) ?_ _;clear D bg bh av;simp only[Act.put,List.getElem_toArray,List.getElem_cons_succ,List.getElem_cons_zero,List.setIfInBounds_toArray,List.set_cons_zero,List.set_cons_succ];obtain⟨bd,be,bf⟩:=a1.cs3
 go_wp2_with fail
 refine(T5.out _).mono ?_;rintro G c6 ⟨rfl,B⟩;have b2:=b1.l B;have a9:=b7.l B;have b9:=b8.l B;have W:=aa aq B;clear a1 b1 b7 b8 aq B T5 bd be bf;replace O:=O.out
 go_wp2_with fail
 refine(T6.out _ W a9).mono ?_;rintro G bc ⟨c1,c2,rfl,a5,a6,C⟩;have a2:=b2.l C;have ba:=a9.l C;have bb:=b9.l C;have X:=aa W C;obtain⟨po,pc,E⟩:=a5.shape;subst E;obtain⟨qo,qc,E⟩:=a6.shape;subst E;clear b2 a9 b9 W C T6;obtain⟨bo,R,b4,o⟩:=cA bc [.bool p.s,yT po p.n pc,yi p.e,.bool q.s,yT qo q.n qc,yi q.e] 54;replace R:Hid _:=R;have bx:w.heap.size≤bc.heap.size:=X.size;have bz:=a2.lt;have F:=a2.l o;have bj:=ba.l o;have bl:=bb.l o;have ad:=a5.l o;have ae:=a6.l o;have ar:=aa X o;clear a2 ba bb a5 a6 X o
 go_upto_region 5 with fail
 rw[R.out];clear R;obtain⟨bq,bs,bt,bu,bv,bw⟩:=b4.cs6;have hf:=fin6 (P:=Tryz.prog) F ar (by omega) underlying54 rfl (by kernel_rfl) (.bool p.s) (yT po p.n pc) (yi p.e) (.bool q.s) (yT qo q.n qc) (yi q.e);have HH:Hid (_∧_∧_∧_):=⟨hf.1,hf.2.2.rd ad (aX ad F (by simp)),hf.2.2.rd ae (aX ae F (by simp)),hf.2.1⟩;obtain⟨⟨z0,z1,z2,z3,z4,z5⟩,y0,y1,y2,y3,y4,y5⟩:=csf6 F;clear hf F b4 bj bl ad ae ar
 go_wp2
 obtain⟨hl,bm,bn,bR⟩:=HH.out;exact bodyPost_ret (br results47 rfl hl) rfl ⟨_,_,rfl,bm,bn,bR⟩
theorem log_01 (a:ak)(h:Option Addr)(d:Nat)(x p q:ak)(k g j f c m n y:Int)(w:World)(ra:Rd w .u32 (yT h a.n d) (Dg.dg 4294967296 a.n))(hj:IntKind.i64.wrap (g-2)=j)(hc:c<0)(hy:IntKind.i64.wrap (g-1)=y)(hn:IntKind.i64.wrap (-y)=n)(Q:y=0)
  (I: ∀b,yB w b→Rd b .u32 (yT h a.n d) (Dg.dg 4294967296 a.n)→yC 53 #[yDV a h d] b (yR b (yi g)))
  (J: ∀b,yB w b→yC 43 #[yi 3] b (Lx b x))
  (L: ∀v u b,yC 84 #[yDV x v u,yi j] b (yR b (ydV x.s (yT v x.n u) f)))
  (M: ∀v u b,yB w b→Rd b .u32 (yT h a.n d) (Dg.dg 4294967296 a.n)→Rd b .u32 (yT v x.n u) (Dg.dg 4294967296 x.n)→yC 42 #[yDV a h d,ydV x.s (yT v x.n u) f] b (yR b (yi c)))
  (T5:yJ 84 #[yDV a h d,yi n] (ydV a.s (yT h a.n d) m))
  (T6: ∀b,yB w b→Rd b .u32 (yT h a.n d) (Dg.dg 4294967296 a.n)→yC 85 #[ydV a.s (yT h a.n d) m,yi k] b (aeT b p q)):
  yC 47 #[yDV a h d,yi k] w (aeT w p q):=by
 replace I:Hid _:=I;replace J:Hid _:=J;replace L:Hid _:=L;replace M:Hid _:=M;replace T5:Hid _:=T5;replace T6:Hid _:=T6;replace Q:Hid _:=Q;obtain⟨W4,R,q1,q2,O⟩:=iG w (yDL a h d) 48 [.bool false,yN,yi 0,.bool false,yN,yi 0] 54;replace R:Hid _:=R;have r6:=ra.l O;clear ra
 go_enter func47,ntmps47
 go_upto_region 1 with fail
 rw[R.out];clear R;obtain⟨c7,c8,c9⟩:=q1.cs3
 go_wp2_with fail
 refine(I.out _ O r6).mono ?_;rintro H an ⟨rfl,A⟩;have ay:=q1.l A;have az:=q2.l A;have b6:=r6.l A;have ap:=aa O A;clear q1 q2 r6 O A I c7 c8 c9
 go_upto_region 2 with fail
 have z:yB an an.drew:=(Below.refl _ _).drew;have U:=ay.l z;have Z:=az.l z;have a4:=b6.l z;have N:=aa ap z;clear ay az b6 ap z;refine wp_region_held_drew (S:=fun wq=>au wq w.heap.size 48 (yDL a h d)) (by kernel_rfl) U (fun E=> ?_)
 generalize an.drew=bq at U Z a4 N E⊢;refine tq 0 (yDV a h d) rfl (fun _ bj=>fy 48 (.tmp 2) rfl w.heap.size 0 (by kernel_rfl) _ _ bj.range underlying48 rfl (by kernel_rfl)) E ?_
 refine tq 2 (yi g) rfl (fun _ _=>by kernel_rfl) E ?_
 refine tq 3 (yi j) rfl (fun _ _=>by go_simp) E ?_
 refine wpAnyH_ready (rs:=[1]) (by kernel_rfl) (by simp) ?_;refine AllReadyH.cons rfl (fun K i=> ?_) AllReadyH.nil
 go_simp
 refine(J.out _ N).mono ?_;rintro H c4 ⟨c1,rfl,a5,B⟩;have a0:=U.l B;have b0:=Z.l B;have b7:=a4.l B;have aq:=aa N B;obtain⟨v,u,F⟩:=a5.shape;subst F;clear U Z a4 N B J;refine i.out _ _ a0 (fun bh=> ?_)
 clear i K;refine wpAnyH_ready (rs:=[4]) (by kernel_rfl) (by simp) ?_;refine AllReadyH.cons rfl (fun K i=> ?_) AllReadyH.nil
 go_simp
 refine(L.out _ _ _).mono ?_;rintro H c5 ⟨rfl,r⟩;have a1:=a0.l r;have b1:=b0.l r;have a8:=b7.l r;have a9:=a5.l r;have W:=aa aq r;clear a0 b0 b7 a5 aq r L;refine i.out _ _ a1 (fun bi=> ?_)
 clear i K;refine wpAnyH_ready (rs:=[5]) (by kernel_rfl) (by simp) ?_;refine AllReadyH.cons rfl (fun K i=> ?_) AllReadyH.nil
 go_simp
 refine(M.out _ _ _ W a8 a9).mono ?_;rintro H c6 ⟨rfl,t⟩;have a2:=a1.l t;have b2:=b1.l t;have b8:=a8.l t;have b9:=a9.l t;have ar:=aa W t;clear a1 b1 a8 a9 W t M;refine i.out _ _ a2 (fun ax=> ?_)
 clear i K;refine tq 6 (.bool true) rfl (fun _ _=>by go_simp) ax ?_
 refine wpAnyH_done (by kernel_rfl) ?_ _;clear E bh bi ax;simp only[Act.put,List.getElem_toArray,List.getElem_cons_succ,List.getElem_cons_zero,List.setIfInBounds_toArray,List.set_cons_zero,List.set_cons_succ];obtain⟨be,bf,bg⟩:=a2.cs3
 go_wp2_with fail
 refine(T5.out _).mono ?_;rintro H ca ⟨rfl,C⟩;have b4:=b2.l C;have ad:=b8.l C;have ba:=b9.l C;have X:=aa ar C;clear a2 b2 b8 b9 ar C T5 be bf bg;replace Q:=Q.out
 go_wp2_with fail
 refine(T6.out _ X ad).mono ?_;rintro H bd ⟨c2,c3,rfl,a6,a7,D⟩;have a3:=b4.l D;have bb:=ad.l D;have bc:=ba.l D;have Y:=aa X D;obtain⟨po,pc,F⟩:=a6.shape;subst F;obtain⟨qo,qc,F⟩:=a7.shape;subst F;clear b4 ad ba X D T6;obtain⟨bp,T,b5,o⟩:=cA bd [.bool p.s,yT po p.n pc,yi p.e,.bool q.s,yT qo q.n qc,yi q.e] 54;replace T:Hid _:=T;have bz:w.heap.size≤bd.heap.size:=Y.size;have c0:=a3.lt;have G:=a3.l o;have bl:=bb.l o;have bm:=bc.l o;have ae:=a6.l o;have al:=a7.l o;have av:=aa Y o;clear a3 bb bc a6 a7 Y o
 go_upto_region 5 with fail
 rw[T.out];clear T;obtain⟨bs,bt,bu,bv,bw,bx⟩:=b5.cs6;have hf:=fin6 (P:=Tryz.prog) G av (by omega) underlying54 rfl (by kernel_rfl) (.bool p.s) (yT po p.n pc) (yi p.e) (.bool q.s) (yT qo q.n qc) (yi q.e);have HH:Hid (_∧_∧_∧_):=⟨hf.1,hf.2.2.rd ae (aX ae G (by simp)),hf.2.2.rd al (aX al G (by simp)),hf.2.1⟩;obtain⟨⟨z0,z1,z2,z3,z4,z5⟩,y0,y1,y2,y3,y4,y5⟩:=csf6 G;clear hf G b5 bl bm ae al av
 go_wp2
 obtain⟨hl,bn,bo,bR⟩:=HH.out;exact bodyPost_ret (br results47 rfl hl) rfl ⟨_,_,rfl,bn,bo,bR⟩
end Go.Proofs.YthhiidikgchdeabGreatDoor
