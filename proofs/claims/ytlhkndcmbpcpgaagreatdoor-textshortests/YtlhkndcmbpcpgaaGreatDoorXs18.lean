/- Texts laid together. -/
import Derived.Test.YtlhkndcmbpcpgaaGreatDoorXs11
import Derived.Test.YtlhkndcmbpcpgaaGreatDoorXs12
import Derived.Test.YtlhkndcmbpcpgaaGreatDoorXs13
import Derived.Test.YtlhkndcmbpcpgaaGreatDoorXs14
set_option maxRecDepth 100000
set_option maxHeartbeats 6400000
namespace Go.Proofs.YtlhkndcmbpcpgaaGreatDoor
open _root_.Go.Proofs.Tryz
open Go.RowKit
theorem JS (va vb:Value)(xs a:List Nat)(w:World)(ha:Rd w .u32 va xs)(v:Rd w .u32 vb a)(sa:Dg.Small 4294967296 xs)(W:Dg.Small 4294967296 a)(nb:Dg.Norm a)(G:2≤a.length)(K:a.length≤xs.length)(cr:xs.length≤900000):
  yC 88 #[va,vb] w (Two w (Dg.vl 4294967296 xs/Dg.vl 4294967296 a) (Dg.vl 4294967296 xs % Dg.vl 4294967296 a)):=by
 obtain⟨i0,hi,bm,aq,bn⟩:=info_parts Tryz.infoU32;have cx:(Tryz.prog.info? 105).map (·.size)=some 1:=by rw[hi];simp[aq]
 obtain⟨s,hs⟩: ∃s,32-bitLen (a.getD (a.length-1) 0)=s:=⟨_,rfl⟩;obtain⟨N,a8,a9⟩:=V7 a s W nb G hs.symm;have ae:=XC (a.getD (a.length-1) 0) w (W _);rw[hs] at ae;have al:=vO vb a s 0 s (2^s) w v W (by omega) (by omega) N rfl (by omega) (by intro e;rw[e] at G;simp at G);have a1:Hid (∀j,yB w j→yC 85 #[va,yi s] j (Num j (Dg.vl 4294967296 xs*2^s))):=fun j b1=>
  vO va xs s 0 s (2^s) j (ha.l b1) sa (by omega) (by omega) N rfl (by omega) (by intro e;rw[e] at K;have h0:a.length≤0:=K;omega)
 obtain⟨ao,ca,rfl⟩:=ha.shape;obtain⟨bo,cb,rfl⟩:=v.shape;obtain⟨-,-,cg⟩:=iQ v;obtain⟨bb,e2,rfl,ci⟩:=cg (by omega);have hy:=ci (a.length-1) (by omega);have d0:=W (a.length-1);have n1:((a.length:Int)-1)=((a.length-1:Nat):Int):=by omega
 have ap:=Dg.vl_lt 4294967296 xs sa;obtain⟨X,hX⟩: ∃X,Dg.vl 4294967296 xs=X:=⟨_,rfl⟩;obtain⟨Y,hY⟩: ∃Y,Dg.vl 4294967296 a=Y:=⟨_,rfl⟩;rw[hX] at a1 ap⊢;rw[hY] at al a8 a9⊢;obtain⟨nn,ct⟩: ∃nn,a.length=nn:=⟨_,rfl⟩;obtain⟨r,cs⟩: ∃r,xs.length=r:=⟨_,rfl⟩;obtain⟨y,d1⟩: ∃y,a.getD (a.length-1) 0=y:=⟨_,rfl⟩;rw[d1] at ae hy d0;rw[ct] at a8 a9 al hy n1 G K⊢;rw[cs] at a1 K cr ap⊢;have a0:Hid (2147483648*4294967296^ (nn-1)≤Y*2^s):=a8;have ax:Hid (Y*2^s<4294967296^nn):=a9;have ay:Hid (X<4294967296^r):=ap;clear ha v sa W nb hs cg ci hX hY ct cs d1 a8 a9 ap
 go_enter func88,ntmps88
 go_wp2_with fail
 refine ae.mono ?_;rintro e w' ⟨rfl,rfl⟩;clear ae
 go_wp2_with fail
 refine al.mono ?_;rintro e j ⟨e7,rfl,U,C⟩;clear al;have p:(Dg.dg 4294967296 (Y*2^s)).length=nn:=V8 nn _ (by omega) (by have:=a0.out;omega) ax.out;obtain⟨gb,c7,rfl,db,cl,ch⟩:=U.form (by omega);rw[p] at U ch⊢;obtain⟨t,ad⟩: ∃t,Dg.dg 4294967296 (Y*2^s)=t:=⟨_,rfl⟩;rw[ad] at U p
 go_wp2_with (at_make;refine wpList_make_full _ rfl _ _ 47 rfl j.heap.size 105 i0 (.int .u32 0) 1 underlying47 hi bm aq _ _ _ _ (r+1) rfl rfl (by omega) (by omega) ?b2 ?b3 (Nat.le_refl _) ?_)
 case b2=>rw[bn];omega
 case b3=>unfold maxLen;omega
 intro w2 cv cm;have d2:=gL cv;have a3:yB j w2:=(Below.refl _ _).grown cm (Nat.le_refl _) (fun k h=>by cases h)
 clear cv cm
 go_wp2_with fail
 refine(a1.out w2 (aa C a3)).mono ?_;rintro e w3 ⟨e8,rfl,bu,a4⟩;obtain⟨az,ac⟩: ∃az,Dg.dg 4294967296 (X*2^s)=az:=⟨_,rfl⟩;rw[ac] at bu;have b9:az.length≤r+1:=by rw[←ac];exact RI X r s ay.out N
 have bv:=bu.rd;obtain⟨dy,e3,rfl⟩:=bv.shape;have d3:=d2.l a4;obtain⟨Z,dl,Q,b5⟩:=Nw 47 47 3 underlying47 cx d3 bv (by simpa using b9);have c3:=aa C a3;have b4:=aa c3 a4;have c4:Below w'.heap.size w' Z:=b4.grown b5 b4.size (fun k E=>by cases E;exact C.size)
 have d6:=((U.l a3).l a4).other b5 (by omega);have Q:=Q.lower C.size;clear d3 bv bu a1 d2 U cx
 go_wp2_with (at_make;refine wpList_make_full _ rfl _ _ 47 rfl Z.heap.size 105 i0 (.int .u32 0) 1 underlying47 hi bm aq _ _ _ _ (r+1-nn) rfl rfl ?b0 ?b1 ?b2 ?b3 (Nat.le_refl _) ?_)
 case b0=>omega
 case b1=>omega
 case b2=>rw[bn];omega
 case b3=>unfold maxLen;omega
 intro w5 cw cn;have H:=gL cw;have a5:yB Z w5:=(Below.refl _ _).grown cn (Nat.le_refl _) (fun k h=>by cases h)
 have aw:=Q.l a5;have d7:=d6.l a5;have c6:=aa c4 a5;have ba:j.heap.size<Z.heap.size:=Q.block.2;have bc:w'.heap.size≤j.heap.size:=C.size;clear cw cn Q d6 c4 a5 C a3 a4 c3 b4 b5 dl hy d0 n1;have bj:=Pj (nn:=nn) ac b9 ay.out N (by omega) (by omega) a0.out;have O:Dg.Small 4294967296 t:=by rw[←ad];exact Dg.small_dg _ _ (by omega)
 have cz:Dg.vl 4294967296 t=Y*2^s:=by rw[←ad];exact Dg.vl_dg _ _ (by omega)
 have cc:0<Y:=by
  rcases Nat.eq_zero_or_pos Y with e|e
  ·have:=a0.out
   rw[e,Nat.zero_mul] at this;have h2:=Nat.pow_pos (n:=nn-1) (show 0<4294967296 by omega)
   omega
  ·exact e
 obtain⟨M,hM⟩: ∃M,r+1=M+nn:=⟨r+1-nn,by omega⟩;rw[hM,Nat.add_sub_cancel] at H bj;rw[hM] at aw;rw[hM,Nat.add_sub_cancel];obtain⟨z,ck⟩: ∃z,Z.heap.size=z:=⟨_,rfl⟩;obtain⟨u,cj⟩: ∃u,j.heap.size=u:=⟨_,rfl⟩;rw[ck] at H ba⊢;rw[cj] at aw ba bc cl⊢;have H:=H.lower (show w'.heap.size≤z by omega)
 have ne1:gb≠u:=by omega
 have ar:u≠z:=by omega
 have ne3:gb≠z:=by omega
 have ce:w'.heap.size≤z:=by omega
 have e4:M+nn≤900001:=by omega
 clear ac b9 ay ad hM K cr ck cj
 go_wp2
 go_loopw [10] (fun iv wr=>ae2 w' (X*2^s) (Y*2^s) M (M+nn) u z gb c7 t iv wr) (fun iv _=>(intOf iv+1).toNat)
 case atStart=>exact⟨M,_,_,Nat.le_refl _,rfl,bj,aw,H,by rw[p];exact d7,c6⟩
 case round=>
  clear bj H aw d7 c6 db cl ch ba hi bm aq bn;obtain⟨k,R,os,E,rfl,d,x,S,I,a2⟩:=hrel
  by_cases dc:k=0
  ·subst dc
   have bd:=Xs cc d;have ro:=S.rd;have rr:=x.rd;clear I
   go_wp2_with fail
   refine(jD _ _ _ _ _ ro).mono ?_;rintro e w6 ⟨m,rfl,hm,rfl⟩;have d9:=jW 4294967296 (by omega) S d.2.2.2.1 hm;rw[bd.1] at d9
   go_wp2_with fail
   refine(jD _ _ _ _ _ rr).mono ?_;rintro e w6 ⟨m2,rfl,bf,rfl⟩;have tr:=jW 4294967296 (by omega) x d.2.2.1 bf;have F:=Dj _ _ s 0 s w6 tr.rd (Dg.small_dg _ _ (by omega)) (by have h1:=bf.1;have h2:=d.1;have h3:=tr.len;omega) (by omega) N (by omega);rw[Dg.vl_dg _ _ (by omega),bd.2] at F;clear ro rr hm bf bd S x tr d
   go_wp2_with fail
   refine F.mono ?_;rintro e w7 ⟨vr,rfl,ds,c5⟩;have dt:=d9.l c5;have B:=aa a2 c5;have dn:=ds.lower a2.size;clear F
   go_wp2
   go_ret2
   exact⟨_,_,rfl,dt,dn,B⟩
  ·obtain⟨i,rfl⟩: ∃i,k=i+1:=⟨k-1,by omega⟩
   have n2:((i+1:Nat):Int)-1=(i:Int):=by omega
   rw[n2];have e5:=d.1;rw[p] at I;have c2:=x.c (i+nn) (by omega);have c1:=x.c (i+(nn-1)) (by omega);have c0:=x.c (i+(nn-2)) (by omega);have e1:=I.c (nn-1) (by omega);have e0:=I.c (nn-2) (by omega);have lg:=Pi d O cz G a0.out ax.out;have co:=TX u i nn (M+nn-i) gb 0 c7 _ _ _ _ _ wr G (by omega) (by omega) c2 c1 c0 (by rw[Nat.zero_add];exact e1) (by rw[Nat.zero_add];exact e0) (d.2.2.1 _) (d.2.2.1 _) (d.2.2.1 _) (O _) (O _) lg.1 lg.2.1;have LG:=lg.2.2;have bx:Hid _:=LG;clear c2 c1 c0 e1 e0 lg LG
   go_wp2_with fail
   rw[show i+nn+1-i=nn+1 from by omega]
   refine co.mono ?_;rintro e w6 ⟨g,rfl,be,F,cy,J⟩;clear co;have hq:=bx.out g be F cy;clear bx F cy;have d5:=x.l J;have d4:=S.l J;have bp:=I.l J;have b6:=aa a2 J;clear x S I J a2;have bl:=H7 u (M+nn) i (M+nn-i) w'.heap.size g R t _ w6 d5 d.2.2.1 O (fun dv hg=>(bp.other hg ne1).rd) (by omega) be (by omega)
   rw[p] at bl;obtain⟨q,bi⟩: ∃q,Dg.vl 4294967296 R/4294967296^i/(Y*2^s)=q:=⟨_,rfl⟩;rw[bi] at hq;have bz:Hid (∀D b,acc R D t i g b→_):=fun D b A=>QR A d.2.2.1 rfl cz (Nat.mul_pos cc (Nat.pow_pos (by omega))) (by rw[p];exact ax.out) d.2.2.2.2.2.2 bi hq.2
   go_wp2_with fail
   refine bl.mono ?_;rintro e w7 ⟨b,D,rfl,A,bq,a6⟩;have an:=bz.out D b A;have e6:=A.2.2.2.1;have c9:=A.1;have ab:=A.2.1;have T:=d4.other a6 ar.symm;have av:=bp.other a6 ne1;have B:=b6.grown a6 b6.size (fun k E=>by cases E;exact bc)
   have dd:=hq.1;have cp:i<M:=by omega
   clear bz A bl hq bi d5 d4 bp b6 a6
   by_cases v:b=0
   ·subst v
    obtain⟨rfl,P,L⟩:=an.1 rfl;have bg:=Iv d cp be c9 ab P L;have ed:decide ((0:Nat)=1)=false:=rfl;rw[ed];have hf:=T.f i;have da:=T.c i (by have:=d.2.1;omega);clear an P L d ab
    go_wp2
    go_roundw
    case rel=>exact⟨i,D,_,by omega,by go_num,bg,bq.other (bI _ _ _ _) ar,T.store i _,by rw[p];exact av.other (bI _ _ _ _) ne3,B.setCell (by exact ce) _⟩
    case measure=>simp[intOf]
   ·have v:b=1:=by omega
    subst v;obtain⟨rfl,cd⟩:=an.2 rfl;have bh:=Mj u (M+nn) i (M+nn-i) w'.heap.size D t _ w7 bq ab O (fun dv hg=>(av.other hg ne1).rd) (by omega) (by omega)
    rw[p] at bh;have ed:decide ((1:Nat)=1)=true:=rfl;rw[ed];have n3:((q+1:Nat):Int)-1=(q:Int):=by omega
    have bw:Hid _:=cd;clear an cd
    go_wp2_with fail
    refine bh.mono ?_;rintro e w8 ⟨o,c8,rfl,hB,dq,a7⟩;obtain⟨P,L⟩:=bw.out c8 o hB;have bg:=Iv d cp dd (hB.1.trans c9) hB.2.1 P L;have bt:=T.other a7 ar.symm;have dp:=av.other a7 ne1;have b8:=B.grown a7 B.size (fun k E=>by cases E;exact bc)
    have hf:=bt.f i;have da:=bt.c i (by have:=d.2.1;omega);clear bh bw P L hB a7 d ab bq T av B
    go_wp2
    go_roundw
    case rel=>exact⟨i,c8,_,by omega,by go_num,bg,dq.other (bI _ _ _ _) ar,bt.store i _,by rw[p];exact dp.other (bI _ _ _ _) ne3,b8.setCell (by exact ce) _⟩
    case measure=>simp[intOf]
theorem A9 (D F:Value)(xs c:List Nat)(w:World)(h:Rd w .u32 D xs)(n:Rd w .u32 F c)(t:Dg.Small 4294967296 xs)(x:Dg.Small 4294967296 c)(E:Dg.Norm xs)(p:Dg.Norm c)(B:c≠[])(a6:xs.length≤900000):
  yC 46 #[D,F] w (Two w (Dg.vl 4294967296 xs/Dg.vl 4294967296 c) (Dg.vl 4294967296 xs % Dg.vl 4294967296 c)):=by
 have o:=jF D F xs c w h n t x E p;have z:0<Dg.vl 4294967296 c:=Nat.pos_of_ne_zero (Dg.vl_ne_zero 4294967296 (by omega) c B p);have a8:0<c.length:=List.length_pos_iff.2 B
 by_cases u:Dg.vl 4294967296 xs<Dg.vl 4294967296 c
 ·rw[gX (by omega)] at o
  rw[Nat.div_eq_of_lt u,Nat.mod_eq_of_lt u];have HX:Hid (xs=Dg.dg 4294967296 (Dg.vl 4294967296 xs)):=Dg.eq_dg 4294967296 (by omega) xs _ t E rfl;have y:Hid (Rd w .u32 D xs):=h;obtain⟨Q,S,rfl⟩:=h.shape;obtain⟨R,T,rfl⟩:=n.shape;clear h n t x E p B u z
  go_enter func46,ntmps46
  go_wp2_with fail
  refine o.mono ?_;rintro e g ⟨rfl,f⟩;clear o
  go_wp2_with fail
  refine(Bz _ xs g (y.out.l f) (by omega)).mono ?_;rintro e N ⟨rfl,v,j⟩;have v:=v.lower f.size;have i:=aa f j;clear f j y
  go_wp2
  go_ret2
  exact⟨_,_,rfl,aQ _ _ _ _,HX.out▸v,i⟩
 ·have hd:=Xx (a:=(Dg.vl 4294967296 xs:Int)) (b:=(Dg.vl 4294967296 c:Int)) (by omega)
  obtain⟨r,hr⟩: ∃r,dm (Dg.vl 4294967296 xs) (Dg.vl 4294967296 c)=r:=⟨_,rfl⟩;rw[hr] at hd o;clear hr;have y:Hid (Rd w .u32 D xs):=h;have P:Hid (Rd w .u32 F c):=n;obtain⟨Q,S,rfl⟩:=h.shape;obtain⟨R,T,rfl⟩:=n.shape
  by_cases W:c.length=1
  ·obtain⟨d,rfl⟩: ∃d,c=[d]:=List.length_eq_one_iff.1 W
   have hv:Dg.vl 4294967296 [d]=d:=by simp[Dg.vl]
   have a5:d<4294967296:=(Dg.small_cons.1 x).1;rw[hv] at z⊢;clear h n u hv W a8 B p x
   go_enter func46,ntmps46
   go_wp2_with fail
   refine o.mono ?_;rintro e g ⟨rfl,f⟩;clear o
   go_wp2_with fail
   refine(Bz _ xs g (y.out.l f) (by omega)).mono ?_;rintro e N ⟨rfl,v,j⟩;have i:=aa f j;obtain⟨-,-,Y⟩:=iQ (P.out.l i);obtain⟨bb,ac,rfl,Z⟩:=Y (by simp);have X:=Z 0 (by simp);simp only[List.getD_cons_zero,Nat.add_zero] at X;clear Z Y
   go_wp2_with fail
   refine(uG _ _ _ _ xs d N v t z a5 (by omega)).mono ?_;rintro e w3 ⟨qs,rfl,C,ad,a9,a1,U⟩;have H:=i.grown U i.size (fun k hk=>by cases hk;exact f.size)
   have r3:=C.rd;have C:=C.lower f.size;obtain⟨s,a2⟩: ∃s,Dg.vl 4294967296 xs % d=s:=⟨_,rfl⟩;rw[a2];have ab:s<4294967296:=by have:=Nat.mod_lt (Dg.vl 4294967296 xs) z;omega
   clear U v i j X
   go_wp2_with fail
   refine(jD _ _ _ _ _ r3).mono ?_;rintro e O ⟨m,rfl,A,rfl⟩;have M:=jW 4294967296 (by omega) C a9 A;rw[a1] at M;have L:=zf O w.heap.size 105 s H.size;have I:yB O (O.alloc (.cells #[.int .u32 (s:Int)] 105)):=(Below.refl _ _).alloc (Nat.le_refl _) _;have t4:=M.l I;have a4:=aa H I;have a3:=L.rd;clear C r3 A M I H f a1
   go_wp2_with fail
   refine(jD _ _ _ _ _ a3).mono ?_;rintro e w5 ⟨m2,rfl,a0,rfl⟩;have t5:=jW 4294967296 (by omega) L (Dg.small_cons.2 ⟨ab,Dg.small_nil _ (by omega)⟩) a0;rw[show Dg.vl 4294967296 [s]=s from by simp[Dg.vl]] at t5
   clear L a3 a0
   go_wp2
   go_ret2
   exact⟨_,_,rfl,t4,by rw[a2];exact t5,a4⟩
  ·have a7:c.length≤xs.length:=by
    rcases Nat.lt_or_ge xs.length c.length with e|e
    ·exact absurd (Dg.vl_lt_of_len 4294967296 (by omega) xs c t p e) u
    ·exact e
   have G:Hid (∀g,yB w g→yC 88 #[.slice Q xs.length S,.slice R c.length T] g (Two g (Dg.vl 4294967296 xs/Dg.vl 4294967296 c) (Dg.vl 4294967296 xs % Dg.vl 4294967296 c))):=fun g f=>
    JS _ _ xs c g (h.l f) (n.l f) t x p (by omega) a7 a6
   obtain⟨q,hq⟩: ∃q,Dg.vl 4294967296 xs/Dg.vl 4294967296 c=q:=⟨_,rfl⟩;obtain⟨m,A⟩: ∃m,Dg.vl 4294967296 xs % Dg.vl 4294967296 c=m:=⟨_,rfl⟩;rw[hq,A] at G⊢;have h2:((c.length:Int)==1)=false:=by simp;omega
   clear h n u B p x E t z hq A y P
   go_enter func46,ntmps46
   go_wp2_with fail
   refine o.mono ?_;rintro e g ⟨rfl,f⟩;clear o
   go_wp2_with fail
   refine(G.out g f).mono ?_;rintro e N ⟨v1,v2,rfl,J,K,j⟩;have J:=J.lower f.size;have K:=K.lower f.size;have i:=aa f j;clear f j G
   go_wp2
   go_ret2
   exact⟨_,_,rfl,J,K,i⟩
theorem Eh (qs:Bool)(f:Option Addr)(o:Nat)(m:Option Addr)(p:Nat)(N M:Nat)(E n:Int)(w:World)
  (y:Rd w .u32 (.slice f (Dg.dg 4294967296 N).length o) (Dg.dg 4294967296 N)) (A:Rd w .u32 (.slice m (Dg.dg 4294967296 M).length p) (Dg.dg 4294967296 M)) (O:(Dg.dg 4294967296 N).length≤100000) (U:(Dg.dg 4294967296 M).length≤100000) (J:0<M) (n1: -500000≤n) (n2:n≤500000):
  Calls Tryz.prog 177 #[.agg #[.bool qs,.slice f (Dg.dg 4294967296 N).length o,.slice m (Dg.dg 4294967296 M).length p,.int .i64 E],.int .i64 n] w (WH w (eZ N n/dX M n) (eZ N n % dX M n) (dX M n)):=by
 have g:=af w (.cells #[.bool qs,.slice f (Dg.dg 4294967296 N).length o,.slice m (Dg.dg 4294967296 M).length p,.int .i64 E] 128);have B:=ah w [.bool qs,.slice f (Dg.dg 4294967296 N).length o,.slice m (Dg.dg 4294967296 M).length p,.int .i64 E] 128;have S:0<dX M n:=by unfold dX;split<;>first|exact Nat.mul_pos J (Nat.pow_pos (by omega))|exact J
 have T:(Dg.dg 4294967296 (eZ N n)).length≤115626:=by
  unfold eZ
  split
  ·omega
  ·exact Nat.le_trans (Eg N n.toNat 100000 15626 O (by omega)) (by omega)
 have q:Hid (∀v u a,Rd a .u32 v (Dg.dg 4294967296 (eZ N n))→Rd a .u32 u (Dg.dg 4294967296 (dX M n))→Calls Tryz.prog 46 #[v,u] a (Two a (eZ N n/dX M n) (eZ N n % dX M n))):=fun v u a W Z=>by
  have:=A9 v u _ _ a W Z (Dg.small_dg _ _ (by omega)) (Dg.small_dg _ _ (by omega)) (Dg.norm_dg _ _ (by omega)) (Dg.norm_dg _ _ (by omega)) (by rw[Ne,Dg.dg_nil_iff _ _ (by omega)];omega) (by omega)
  rwa [Dg.vl_dg _ _ (by omega),Dg.vl_dg _ _ (by omega)] at this
 have t:Hid (∀a,Below w.heap.size w a→ ¬n<0→Calls Tryz.prog 43 #[.slice f (Dg.dg 4294967296 N).length o,.int .i64 n] a (Num a (eZ N n))):=fun a b d=>by
  have:=eO _ _ n a (y.l b) (Dg.small_dg _ _ (by omega)) (by omega) (by omega) (by omega);unfold eZ;rw[if_neg d]
  rwa [CE _ _ (by omega),Dg.vl_dg _ _ (by omega)] at this
 have s:Hid (∀a,Below w.heap.size w a→n<0→Calls Tryz.prog 43 #[.slice m (Dg.dg 4294967296 M).length p,.int .i64 (-n)] a (Num a (dX M n))):=fun a b d=>by
  have:=eO _ _ (-n) a (A.l b) (Dg.small_dg _ _ (by omega)) (by omega) (by omega) (by omega);unfold dX;rw[if_pos d]
  rwa [CE _ _ (by omega),Dg.vl_dg _ _ (by omega)] at this
 have G:Hid (n<0→eZ N n=N):=fun h=>if_pos h
 have F:Hid (¬n<0→dX M n=M):=fun h=>if_neg h
 have H:Hid (Rd _ _ _ _):=y.l g;have I:Hid (Rd _ _ _ _):=A.l g;obtain⟨ln,Q⟩: ∃l,(Dg.dg 4294967296 N).length=l:=⟨_,rfl⟩;obtain⟨lm,P⟩: ∃l,(Dg.dg 4294967296 M).length=l:=⟨_,rfl⟩;obtain⟨X,K⟩: ∃X,eZ N n=X:=⟨_,rfl⟩;obtain⟨Y,L⟩: ∃Y,dX M n=Y:=⟨_,rfl⟩;rw[K] at q t G⊢;rw[L] at q s F⊢;simp only[Q,P] at g B t s H I⊢;clear y A O U T K L S Q P;have c1:=B.c 1 rfl;have c2:=B.c 2 rfl
 by_cases d:n<0
 ·have hw:IntKind.i64.wrap (-n)= -n:=IntWalk.i64_in _ ⟨by omega,by omega⟩
  obtain rfl:=G.out d
  go_enter func177,ntmps177
  go_wp2_with fail
  go_quiet (fail)
  have k:=aL g nq;have ra:=Rd.l H.out (aL (Below.refl _ _) nq)
  go_wp2_with fail
  refine(s.out _ k d).mono ?_;rintro z w2 ⟨v2,rfl,r,i⟩;have e:=aa k i
  go_wp2_with fail
  refine(q.out _ _ _ (ra.l i) r.rd).mono ?_;rintro z w3 ⟨v3,v4,rfl,C,D,j⟩;have x:=aa e j
  go_wp2
  go_ret3
  exact⟨_,_,_,rfl,C.lower e.size,D.lower e.size,(r.l j).rd,x⟩
 ·have a0:decide (n<0)=false:=by simp;omega
  obtain rfl:=F.out d
  go_enter func177,ntmps177
  go_wp2_with fail
  go_quiet (fail)
  have k:=aL g nq;have rb:=Rd.l I.out (aL (Below.refl _ _) nq)
  go_wp2_with fail
  refine(t.out _ k d).mono ?_;rintro z w2 ⟨v2,rfl,r,i⟩;have e:=aa k i;have R:=rb.l i
  go_wp2_with fail
  refine(q.out _ _ _ r.rd R).mono ?_;rintro z w3 ⟨v3,v4,rfl,C,D,j⟩;have x:=aa e j
  go_wp2
  go_ret3
  exact⟨_,_,_,rfl,C.lower e.size,D.lower e.size,R.l j,x⟩
theorem pV (b E n cap:Nat)(a:Nat→Bool)(w:World)(hn:n≤64)(B: ∀i,i<n→w.cell? ⟨b,E+i,none⟩=some (.bool (a i))):
  yC 17 #[.slice (some ⟨b,E,none⟩) n cap] w (cG w (jY a n)):=by
 have F:Hid _:=B;clear B
 go_enter func17,ntmps17
 go_wp2
 go_loopw [3,4] (fun K q wr=> ∃k:Nat,k≤n∧q=yi (k:Int)∧Rd wr .i64 K (Dg.dg 65536 (jY a k))∧yB w wr) (fun _ q _=>n-(intOf q).toNat)
 case atStart=>exact⟨0,Nat.zero_le _,rfl,(aQ _ 0 0 _).rd,Below.refl _ _⟩
 case round=>
  obtain⟨k,hk,rfl,f,j⟩:=hrel;obtain⟨m,d⟩: ∃m,jY a k=m:=⟨_,rfl⟩;rw[d] at f;obtain⟨J,P,rfl⟩:=f.shape
  by_cases S:k<n
  ·have C:=F.out k S
   have D:=DZ a k;have T:(2:Nat)^k≤2^63:=Nat.pow_le_pow_right (by omega) (by omega);have g:jY a (k+1)=jY a k*2+if a k then 1 else 0:=rfl
   rw[d] at D g;have a0:(Dg.dg 65536 m).length≤4:=Dg.dg_len_le 65536 m 4 (by omega) (by omega);have a2:(Dg.dg 65536 (m*2)).length≤4:=Dg.dg_len_le 65536 (m*2) 4 (by omega) (by omega);obtain⟨v,A⟩: ∃x,a k=x:=⟨_,rfl⟩;rw[A] at C g;have s:Hid (jY a (k+1)=m*2+if v then 1 else 0):=g
   have h:=af wr (.cells #[yi 2] 3);have X:Rd (wr.alloc (.cells #[yi 2] 3)) .i64 (.slice (some ⟨wr.heap.size,0,none⟩) 1 1) [2]:=cE (w:=wr) (k:= .i64) (e:=3) [2] #[yi 2] rfl (by unfold maxLen;simp);have p:=fN _ _ _ [2] _ (f.l h) X (Dg.small_dg 65536 m (by omega)) (fun i=>by
    match i with
    |0=>decide
    |i+1=>simp) (by omega) (by simp)
   rw[Dg.vl_dg 65536 m (by omega),show Dg.vl 65536 [2]=2 from rfl] at p
   have I:Hid (yC 52 #[yS J m P,.slice (some ⟨wr.heap.size,0,none⟩) 1 1] (wr.alloc (.cells #[yi 2] 3)) (cG (wr.alloc (.cells #[yi 2] 3)) (m*2))):=p;have O:=cell_later j C;have M:=aa j h;clear p g A d D T
   go_wp2_with fail
   refine Calls.mono I.out ?_;rintro z c ⟨v2,rfl,r,u⟩;obtain⟨vo,Z,U⟩:=r.shape;subst U;have c2:=cell_later u (cell_later h O);have y:=aa M u
   cases v
   ·go_wp2
    go_roundw
    case rel=>exact⟨k+1,by omega,by go_num,by rw[s.out];exact r,y⟩
    case measure=>simp[intOf];omega
   ·have t:=af c (.cells #[yi 1] 3)
    have W:Rd (c.alloc (.cells #[yi 1] 3)) .i64 (.slice (some ⟨c.heap.size,0,none⟩) 1 1) [1]:=cE (w:=c) (k:= .i64) (e:=3) [1] #[yi 1] rfl (by unfold maxLen;simp);have o:=ew _ _ _ [1] _ (r.l t) W (Dg.small_dg 65536 (m*2) (by omega)) (fun i=>by
     match i with
     |0=>decide
     |i+1=>simp) (Dg.norm_dg 65536 (m*2) (by omega)) (fun _=>by simp) (by omega) (by simp)
    rw[Dg.vl_dg 65536 (m*2) (by omega),show Dg.vl 65536 [1]=1 from rfl] at o
    have H:Hid (yC 22 #[.slice vo (Dg.dg 65536 (m*2)).length Z,.slice (some ⟨c.heap.size,0,none⟩) 1 1] (c.alloc (.cells #[yi 1] 3)) (cG (c.alloc (.cells #[yi 1] 3)) (m*2+1))):=o;have N:=aa y t;clear o
    go_wp2_with fail
    refine Calls.mono H.out ?_;rintro z w4 ⟨v4,rfl,Y,L⟩
    go_wp2
    go_roundw
    case rel=>exact⟨k+1,by omega,by go_num,by rw[s.out];exact Y,aa N L⟩
    case measure=>simp[intOf];omega
  ·have G:Hid (k=n∧jY a k=m):=⟨by omega,d⟩
   clear d
   go_wp2
   go_ret
   obtain⟨Q,R⟩:=G.out;subst Q R;exact⟨_,rfl,f,j⟩
theorem adT (R D L G:Int)(gr s:Bool)(b:Option Addr)(g d:Nat)(e sg O pw K o:Int)(bs:Bool)(bn:Nat)(q:Int)(un bb C:Bool)(n:Nat)(h:Int)(w:World)
  (dt:(sg==0)=false) (W1:IntKind.i64.wrap (O-1)=O-1) (W2:IntKind.i64.wrap (O-1+e)=O-1+e) (W3:IntKind.i64.wrap (o*K)=o*K) (W4:IntKind.i64.wrap (e-o*K)=e-o*K)
  (bt:un=decide (pw<L)) (bq:(un&&gr)=bb) (an:bb=true→K=L) (ap:bb=false→K=pw)
  (Y:C=true→ ¬K<L∧ ¬G<K∧ ¬q<o*K) (Z:C=false→K<L∨(¬K<L∧G<K)∨(¬K<L∧ ¬G<K∧q<o*K)) (a0:C=true→h=K) (a1:C=false→n=0∧h=0)
  (b3:yH w 184 #[ydV s (.slice b g d) e] (yi sg))
  (al:yJ 182 #[ydV s (.slice b g d) e] (.slice b g d))
  (b0:yH w 40 #[.slice b g d] (yi O))
  (b2:yJ 175 #[ygV R D L G gr,yi (O-1+e)] (yi pw))
  (b4:yJ 154 #[ygV R D L G gr] (yi o))
  (ae: ∀H,yB w H→yC 155 #[ydV s (.slice b g d) e] H (jN H ⟨bs,bn,q⟩))
  (a2:C=true→ ∀H,yB w H→yC 43 #[.slice b g d,yi (e-o*K)] H (Num H n)):
  yC 157 #[ygV R D L G gr,ydV s (.slice b g d) e] w (D7 w C n h):=by
 replace an:Hid _:=an;replace ap:Hid _:=ap;replace Y:Hid _:=Y;replace Z:Hid _:=Z;replace a0:Hid _:=a0;replace a1:Hid _:=a1;replace b3:Hid _:=b3;replace al:Hid _:=al;replace b0:Hid _:=b0;replace b2:Hid _:=b2;replace b4:Hid _:=b4;replace ae:Hid _:=ae;replace a2:Hid _:=a2;have c4:Hid _:=bt;have bd:Hid _:=bq;clear bt bq;have b1:=aa (aa (af w (.cells (ygA R D L G gr) 193)) (af _ (.cells (ydA s (.slice b g d) e) 191))) (af _ (.cells #[yN,yi 0] 196));have g1:=((ah w (ygL R D L G gr) 193).l (af _ (.cells (ydA s (.slice b g d) e) 191))).l (af _ (.cells #[yN,yi 0] 196));have q1:=(ah (w.alloc (.cells (ygA R D L G gr) 193)) (ydL s (.slice b g d) e) 191).l (af _ (.cells #[yN,yi 0] 196));have c1:=ah ((w.alloc (.cells (ygA R D L G gr) 193)).alloc (.cells (ydA s (.slice b g d) e) 191)) [yN,yi 0] 196;simp only[World.size_alloc] at q1 c1;obtain⟨J,M,N⟩:=q1.cs3
 go_enter func157,ntmps157
 go_wp2_with fail
 refine(b3.out _ b1).mono ?_;rintro z w2 ⟨rfl,a4⟩;clear J M N;have bj:=g1.l a4;have bw:=q1.l a4;have bh:=c1.l a4;have bf:=aa b1 a4;clear g1 q1 c1 b1 a4;have a7:yB w2 w2.drew:=(Below.refl _ _).drew;have bm:=bj.l a7;have bx:=bw.l a7;have c7:=bh.l a7;have b6:=aa bf a7;clear bj bw bh bf a7;obtain⟨T,U,x,X,y⟩:=bm.cs5;obtain⟨J,M,N⟩:=bx.cs3
 go_wp2_with fail
 go_region_held3 (fun i=>(i.cell? ⟨w.heap.size,0,none⟩=some (yi R)∧i.cell? ⟨w.heap.size,1,none⟩=some (yi D)∧i.cell? ⟨w.heap.size,2,none⟩=some (yi L)∧i.cell? ⟨w.heap.size,3,none⟩=some (yi G)∧i.cell? ⟨w.heap.size,4,none⟩=some (.bool gr))∧i.cell? ⟨w.heap.size+1,0,none⟩=some (.bool s)∧i.cell? ⟨w.heap.size+1,1,none⟩=some (.slice b g d)∧i.cell? ⟨w.heap.size+1,2,none⟩=some (yi e)) (go_keep) (first
  | (go_at_call 182;have m:=b6;clear m;refine(al.out _).mono ?_;rintro z wa ⟨rfl,av⟩;have ar:=aa b6 av;have bo:=bm.l av;have bz:=bx.l av;have c8:=c7.l av;obtain⟨cp,cr,cs,ct,cv⟩:=bo.cs5;obtain⟨d9,da,db⟩:=bz.cs3;clear b6)
  | (go_at_call 40;have m:=ar;clear m;refine(b0.out _ ar).mono ?_;rintro z wb ⟨rfl,aw⟩;have b7:=aa ar aw;have bp:=bo.l aw;have c0:=bz.l aw;have c9:=c8.l aw;obtain⟨cw,cx,cy,cz,d2⟩:=bp.cs5;obtain⟨dc,dd,dl⟩:=c0.cs3;clear ar)
  | (go_at_call 175;have m:=b7;clear m;refine(b2.out _).mono ?_;rintro z wc ⟨rfl,ax⟩;have bg:=aa b7 ax;have P:=bp.l ax;have bc:=c0.l ax;have bi:=c9.l ax;obtain⟨d3,d4,d5,d6,d7⟩:=P.cs5;obtain⟨dn,dp,dq⟩:=bc.cs3;clear b7))
 go_goals
 clear T U x X y J M N cp cr cs ct cv cw cx cy cz d2 d3 d4 d5 d6 d7 d9 da db dc dd dl dn dp dq;have x:=P.c 2 rfl;have y:=P.c 4 rfl;have ch:decide (pw<L)=un:=c4.out.symm
 go_upto_region 4 with fail
 skip
 go_cut [34] (fun co wx=>co= .bool bb∧wx=wc)
 case first=>
  cases un
  ·go_wp2_with fail
   go_meet
   exact⟨by rw[←bd.out];rfl,rfl⟩
  ·go_wp2_with fail
   go_meet
   exact⟨by rw[←bd.out];rfl,rfl⟩
 case rest=>
  obtain⟨rfl,ck⟩:=hcut;subst ck
  go_upto_if 34 with fail
  go_cut [6] (fun s6 wx=>s6=yi K∧wx=wc)
  case first=>
   cases bb
   ·have eK:Hid (K=pw):=ap.out rfl
    go_wp2_with fail
    go_meet
    exact⟨by rw[eK.out],rfl⟩
   ·have eK:Hid (K=L):=an.out rfl
    go_wp2_with fail
    go_meet
    exact⟨by rw[eK.out],rfl⟩
  case rest=>
   obtain⟨rfl,cl⟩:=hcut;subst cl;clear x y ch an ap;obtain⟨T,U,x,X,y⟩:=P.cs5
   go_wp2_with fail
   refine(b4.out _).mono ?_;rintro z u ⟨rfl,a5⟩;clear T U x X y;have a8:=P.l a5;have ab:=bc.l a5;have a:=bi.l a5;have p:=aa bg a5;clear P bc bi bg a5;obtain⟨T,U,x,X,y⟩:=a8.cs5;obtain⟨J,M,N⟩:=ab.cs3
   cases C
   ·obtain⟨rfl,rfl⟩:=a1.out rfl
    have hx:=Z.out rfl;clear Y Z a0 a1 a2
    rcases hx with hx| ⟨cm,hx⟩| ⟨cm,dv,hx⟩
    ·skip
     have d0:=a.c 0 rfl;have f0:=a.f 0;have d1:=a.c 1 rfl;have f1:=a.f 1
     go_wp2
     have r:But (w.heap.size+1+1) u ((u.setCell ⟨w.heap.size+1+1,0,none⟩ yN).setCell ⟨w.heap.size+1+1,1,none⟩ (yi 0)):=(ag u (w.heap.size+1+1) 0 yN).trans (ag _ (w.heap.size+1+1) 1 (yi 0));have B:au ((u.setCell ⟨w.heap.size+1+1,0,none⟩ yN).setCell ⟨w.heap.size+1+1,1,none⟩ (yi 0)) (w.heap.size+1+1) 196 [yN,yi 0]:=(a.set 0 yN).set 1 (yi 0);have A:=r.below p (show w.heap.size≤w.heap.size+1+1 by omega)
     obtain⟨E,F⟩:=B.cs2;refine bodyPost_ret (v:= .tuple #[.agg #[yN,yi 0],.bool false]) (by simp[results,results157,go_sem,E,F]) rfl ?_;exact⟨_,rfl,aQ _ _ _ _,A⟩
    ·have e1:decide (K<L)=false:=decide_eq_false (by omega)
     have d0:=a.c 0 rfl;have f0:=a.f 0;have d1:=a.c 1 rfl;have f1:=a.f 1
     go_wp2
     have r:But (w.heap.size+1+1) u ((u.setCell ⟨w.heap.size+1+1,0,none⟩ yN).setCell ⟨w.heap.size+1+1,1,none⟩ (yi 0)):=(ag u (w.heap.size+1+1) 0 yN).trans (ag _ (w.heap.size+1+1) 1 (yi 0));have B:au ((u.setCell ⟨w.heap.size+1+1,0,none⟩ yN).setCell ⟨w.heap.size+1+1,1,none⟩ (yi 0)) (w.heap.size+1+1) 196 [yN,yi 0]:=(a.set 0 yN).set 1 (yi 0);have A:=r.below p (show w.heap.size≤w.heap.size+1+1 by omega)
     obtain⟨E,F⟩:=B.cs2;refine bodyPost_ret (v:= .tuple #[.agg #[yN,yi 0],.bool false]) (by simp[results,results157,go_sem,E,F]) rfl ?_;exact⟨_,rfl,aQ _ _ _ _,A⟩
    ·have e1:decide (K<L)=false:=decide_eq_false (by omega)
     have e2:decide (G<K)=false:=decide_eq_false (by omega)
     go_wp2_with fail
     refine(ae.out _ p).mono ?_;rintro z I ⟨vb,rfl,a9,j⟩;obtain⟨ad,ac,b9⟩:=a9.rd.shape;subst b9;clear a9;have ce:=fun W=>G0 bs ad (Dg.dg 4294967296 bn).length ac q W
     have cg:=fun W=>Ju bs ad (Dg.dg 4294967296 bn).length ac q W
     clear T U x X y J M N;have b8:=a8.l j;have ba:=ab.l j;have t:=a.l j;have aq:=aa p j;clear a8 ab a p j;have d0:=t.c 0 rfl;have f0:=t.f 0;have d1:=t.c 1 rfl;have f1:=t.f 1
     go_wp2
     have r:But (w.heap.size+1+1) I ((I.setCell ⟨w.heap.size+1+1,0,none⟩ yN).setCell ⟨w.heap.size+1+1,1,none⟩ (yi 0)):=(ag I (w.heap.size+1+1) 0 yN).trans (ag _ (w.heap.size+1+1) 1 (yi 0));have B:au ((I.setCell ⟨w.heap.size+1+1,0,none⟩ yN).setCell ⟨w.heap.size+1+1,1,none⟩ (yi 0)) (w.heap.size+1+1) 196 [yN,yi 0]:=(t.set 0 yN).set 1 (yi 0);have A:=r.below aq (show w.heap.size≤w.heap.size+1+1 by omega)
     obtain⟨E,F⟩:=B.cs2;refine bodyPost_ret (v:= .tuple #[.agg #[yN,yi 0],.bool false]) (by simp[results,results157,go_sem,E,F]) rfl ?_;exact⟨_,rfl,aQ _ _ _ _,A⟩
   ·obtain⟨h1,h2,h3⟩:=Y.out rfl
    have ci:=a0.out rfl;have c3:Hid _:=a2.out rfl;clear Y Z a0 a1 a2;subst ci;have e1:decide (h<L)=false:=decide_eq_false (by omega);have e2:decide (G<h)=false:=decide_eq_false (by omega);have e3:decide (q<o*h)=false:=decide_eq_false (by omega)
    go_wp2_with fail
    refine(ae.out _ p).mono ?_;rintro z I ⟨vb,rfl,a9,j⟩;obtain⟨ad,ac,b9⟩:=a9.rd.shape;subst b9;clear a9;have ce:=fun W=>G0 bs ad (Dg.dg 4294967296 bn).length ac q W
    have cg:=fun W=>Ju bs ad (Dg.dg 4294967296 bn).length ac q W
    clear T U x X y J M N;have b8:=a8.l j;have ba:=ab.l j;have t:=a.l j;have aq:=aa p j;clear a8 ab a p j;have a6:yB I I.drew:=(Below.refl _ _).drew;have cc:=b8.l a6;have bv:=ba.l a6;have c6:=t.l a6;have b5:=aa aq a6;clear b8 ba t aq a6;obtain⟨J,M,N⟩:=bv.cs3;have nA:w.heap.size+1+1≠w.heap.size+1:=by omega
    go_wp2_with fail
    go_region_held3 (fun i=>i.cell? ⟨w.heap.size+1,0,none⟩=some (.bool s)∧i.cell? ⟨w.heap.size+1,1,none⟩=some (.slice b g d)∧i.cell? ⟨w.heap.size+1,2,none⟩=some (yi e)) (go_keep) (first
     | (go_at_call 182;have m:=b5;clear m;refine(al.out _).mono ?_;rintro z wf ⟨rfl,ay⟩;have a3:=aa b5 ay;have cd:=cc.l ay;have c2:=bv.l ay;have cb:=c6.l ay;obtain⟨dy,e0,e4⟩:=c2.cs3;clear b5)
     | (go_at_call 43;have m:=a3;clear m;refine(c3.out _ a3).mono ?_;rintro z wg ⟨vs,rfl,os,az⟩;have c5:=aa a3 az;have ds:=cd.l az;have cn:=c2.l az;have k:=cb.l az;obtain⟨e5,e6,e7⟩:=cn.cs3;obtain⟨S,Q,cj⟩:=os.rd.shape;subst cj;obtain⟨d0,d1⟩:=k.cs2;have f0:=k.f 0;have f1:=k.f 1;have oL:=os.lower a3.size;clear a3))
    go_goals
    clear d0 d1 f0 f1;have d0:=k.c 0 rfl;have f0:=k.f 0;have d1:=k.c 1 rfl;have f1:=k.f 1
    go_wp2
    have r:But (w.heap.size+1+1) wg ((wg.setCell ⟨w.heap.size+1+1,0,none⟩ (yT S n Q)).setCell ⟨w.heap.size+1+1,1,none⟩ (yi h)):=(ag wg (w.heap.size+1+1) 0 (yT S n Q)).trans (ag _ (w.heap.size+1+1) 1 (yi h));have B:au ((wg.setCell ⟨w.heap.size+1+1,0,none⟩ (yT S n Q)).setCell ⟨w.heap.size+1+1,1,none⟩ (yi h)) (w.heap.size+1+1) 196 [yT S n Q,yi h]:=(k.set 0 (yT S n Q)).set 1 (yi h);have A:=r.below c5 (show w.heap.size≤w.heap.size+1+1 by omega)
    have oX:=r.own oL k (by decide);obtain⟨E,F⟩:=B.cs2;refine bodyPost_ret (v:= .tuple #[.agg #[yT S n Q,yi h],.bool true]) (by simp[results,results157,go_sem,E,F]) rfl ?_;exact⟨_,rfl,oX,A⟩
theorem Sj (R D L G:Int)(gr s:Bool)(J:Option Addr)(I M:Nat)(e m F a1 a2 k:Int)(a7:Bool)(w:World)
  (a8:((I:Int)==0)=false) (_hne:(m==0)=false) (a9: ¬m=0)
  (U1:IntKind.i64.wrap (m*L)=m*L) (U2:IntKind.i64.wrap (G+D)=G+D) (U3:IntKind.i64.wrap (m*(G+D))=m*(G+D)) (U4:IntKind.i64.wrap (e+F)=e+F) (U5:IntKind.i64.wrap (e+F-1)=e+F-1) (U6:IntKind.i64.wrap (e+F-1+80000)=e+F-1+80000)
  (Q1:(e+F-1+80000).tdiv m=a1) (Q2:(80000:Int).tdiv m=a2) (U7:IntKind.i64.wrap a1=a1) (U8:IntKind.i64.wrap a2=a2) (U9:IntKind.i64.wrap (a1-a2)=a1-a2) (UA:IntKind.i64.wrap (a1-a2-D)=a1-a2-D) (UB:IntKind.i64.wrap (a1-a2-D+1)=k) (UC:IntKind.i64.wrap (m*k)=m*k)
  (W:e<m*L→a7=false) (X: ¬e<m*L→m*(G+D)<e+F→a7=false) (Y: ¬e<m*L→ ¬m*(G+D)<e+F→k<L→gr=false→a7=false) (Z: ¬e<m*L→ ¬m*(G+D)<e+F→k<L→gr=true→a7=true)
  (R5: ¬e<m*L→ ¬m*(G+D)<e+F→ ¬k<L→ ¬e<m*k→a7=true) (R6: ¬e<m*L→ ¬m*(G+D)<e+F→ ¬k<L→e<m*k→a7=false)
  (a3:yJ 21 #[ygV R D L G gr] (yi m))
  (a0:yH w 54 #[.slice J I M] (yi F)):
  yC 25 #[ydV s (.slice J I M) e,ygV R D L G gr] w (yR w (.bool a7)):=by
 replace W:Hid _:=W;replace X:Hid _:=X;replace Y:Hid _:=Y;replace Z:Hid _:=Z;replace R5:Hid _:=R5;replace R6:Hid _:=R6;replace a3:Hid _:=a3;replace a0:Hid _:=a0;have H:=aa (af w (.cells (ydA s (.slice J I M) e) 28)) (af _ (.cells (ygA R D L G gr) 54));have v:=(ah w (ydL s (.slice J I M) e) 28).l (af _ (.cells (ygA R D L G gr) 54));have u:=ah (w.alloc (.cells (ydA s (.slice J I M) e) 28)) (ygL R D L G gr) 54;simp only[World.size_alloc] at u
 by_cases h1:e<m*L
 ·have P:=W.out h1
  clear W X Y Z R5 R6;subst P;obtain⟨f,g,h,i,j⟩:=u.cs5;obtain⟨a,b,d⟩:=v.cs3
  go_enter func25,ntmps25
  go_wp2_with fail
  refine(a3.out _).mono ?_;rintro z B ⟨rfl,o⟩;clear f g h i j a b d;have x:=u.l o;have y:=v.l o;have K:=aa H o;clear u v H o;obtain⟨f,g,h,i,j⟩:=x.cs5;have U:=y.c 2 rfl;have r:yB B B.drew:=(Below.refl _ _).drew;have N:=x.l r;have A:=y.l r;have n:=aa K r;obtain⟨a,b,d⟩:=A.cs3
  go_wp2_with fail
  go_region_held3 (fun C=>C.cell? ⟨w.heap.size,1,none⟩=some (.slice J I M)∧C.cell? ⟨w.heap.size,2,none⟩=some (yi e)) (go_keep) (first
   | (go_at_call 54;have O:=n;clear O;refine(a0.out _ n).mono ?_;rintro z wa ⟨rfl,q⟩;have E:=aa n q;have t:=N.l q;have p:=A.l q;obtain⟨Q,S,T⟩:=p.cs3;clear n))
  go_goals
  clear f g h i j a b d U Q S T;obtain⟨a,b,d⟩:=p.cs3
  go_wp2
  go_ret
  exact⟨rfl,E⟩
 ·have e1:decide (e<m*L)=false:=decide_eq_false h1
  by_cases h2:m*(G+D)<e+F
  ·have P:=X.out h1 h2
   clear W X Y Z R5 R6;subst P;obtain⟨f,g,h,i,j⟩:=u.cs5;obtain⟨a,b,d⟩:=v.cs3
   go_enter func25,ntmps25
   go_wp2_with fail
   refine(a3.out _).mono ?_;rintro z B ⟨rfl,o⟩;clear f g h i j a b d;have x:=u.l o;have y:=v.l o;have K:=aa H o;clear u v H o;obtain⟨f,g,h,i,j⟩:=x.cs5;have U:=y.c 2 rfl;have r:yB B B.drew:=(Below.refl _ _).drew;have N:=x.l r;have A:=y.l r;have n:=aa K r;obtain⟨a,b,d⟩:=A.cs3
   go_wp2_with fail
   go_region_held3 (fun C=>C.cell? ⟨w.heap.size,1,none⟩=some (.slice J I M)∧C.cell? ⟨w.heap.size,2,none⟩=some (yi e)) (go_keep) (first
    | (go_at_call 54;have O:=n;clear O;refine(a0.out _ n).mono ?_;rintro z wa ⟨rfl,q⟩;have E:=aa n q;have t:=N.l q;have p:=A.l q;obtain⟨Q,S,T⟩:=p.cs3;clear n))
   go_goals
   clear f g h i j a b d U Q S T;obtain⟨a,b,d⟩:=p.cs3
   go_wp2
   go_ret
   exact⟨rfl,E⟩
  ·have e2:decide (m*(G+D)<e+F)=false:=decide_eq_false h2
   by_cases h3:k<L
   ·cases gr
    ·have P:=Y.out h1 h2 h3 rfl
     clear W X Y Z R5 R6;subst P;obtain⟨f,g,h,i,j⟩:=u.cs5;obtain⟨a,b,d⟩:=v.cs3
     go_enter func25,ntmps25
     go_wp2_with fail
     refine(a3.out _).mono ?_;rintro z B ⟨rfl,o⟩;clear f g h i j a b d;have x:=u.l o;have y:=v.l o;have K:=aa H o;clear u v H o;obtain⟨f,g,h,i,j⟩:=x.cs5;have U:=y.c 2 rfl;have r:yB B B.drew:=(Below.refl _ _).drew;have N:=x.l r;have A:=y.l r;have n:=aa K r;obtain⟨a,b,d⟩:=A.cs3
     go_wp2_with fail
     go_region_held3 (fun C=>C.cell? ⟨w.heap.size,1,none⟩=some (.slice J I M)∧C.cell? ⟨w.heap.size,2,none⟩=some (yi e)) (go_keep) (first
      | (go_at_call 54;have O:=n;clear O;refine(a0.out _ n).mono ?_;rintro z wa ⟨rfl,q⟩;have E:=aa n q;have t:=N.l q;have p:=A.l q;obtain⟨Q,S,T⟩:=p.cs3;clear n))
     go_goals
     clear f g h i j a b d U Q S T;obtain⟨f,g,h,i,j⟩:=t.cs5;obtain⟨a,b,d⟩:=p.cs3;have xd:=(t.l (Below.refl _ _).drew).c 1 rfl
     go_wp2_with fail
     go_quiet (fail)
     clear xd f g h i j a b d;have a5:=t.l (aL (Below.refl _ _) nq);have a6:=p.l (aL (Below.refl _ _) nq);have a4:=aa E (aL (Below.refl _ _) nq);clear t p E;obtain⟨f,g,h,i,j⟩:=a5.cs5;obtain⟨a,b,d⟩:=a6.cs3
     go_wp2
     go_ret
     exact⟨rfl,a4⟩
    ·have P:=Z.out h1 h2 h3 rfl
     clear W X Y Z R5 R6;subst P;have e4:m*L≤e:=by omega
     obtain⟨f,g,h,i,j⟩:=u.cs5;obtain⟨a,b,d⟩:=v.cs3
     go_enter func25,ntmps25
     go_wp2_with fail
     refine(a3.out _).mono ?_;rintro z B ⟨rfl,o⟩;clear f g h i j a b d;have x:=u.l o;have y:=v.l o;have K:=aa H o;clear u v H o;obtain⟨f,g,h,i,j⟩:=x.cs5;have U:=y.c 2 rfl;have r:yB B B.drew:=(Below.refl _ _).drew;have N:=x.l r;have A:=y.l r;have n:=aa K r;obtain⟨a,b,d⟩:=A.cs3
     go_wp2_with fail
     go_region_held3 (fun C=>C.cell? ⟨w.heap.size,1,none⟩=some (.slice J I M)∧C.cell? ⟨w.heap.size,2,none⟩=some (yi e)) (go_keep) (first
      | (go_at_call 54;have O:=n;clear O;refine(a0.out _ n).mono ?_;rintro z wa ⟨rfl,q⟩;have E:=aa n q;have t:=N.l q;have p:=A.l q;obtain⟨Q,S,T⟩:=p.cs3;clear n))
     go_goals
     clear f g h i j a b d U Q S T;obtain⟨f,g,h,i,j⟩:=t.cs5;obtain⟨a,b,d⟩:=p.cs3;have xd:=(t.l (Below.refl _ _).drew).c 1 rfl
     go_wp2_with fail
     go_quiet (fail)
     clear xd f g h i j a b d;have a5:=t.l (aL (Below.refl _ _) nq);have a6:=p.l (aL (Below.refl _ _) nq);have a4:=aa E (aL (Below.refl _ _) nq);clear t p E;obtain⟨f,g,h,i,j⟩:=a5.cs5;obtain⟨a,b,d⟩:=a6.cs3
     go_wp2
     go_ret
     exact⟨rfl,a4⟩
   ·have e3:decide (k<L)=false:=decide_eq_false h3
    by_cases h4:e<m*k
    ·have P:=R6.out h1 h2 h3 h4
     clear W X Y Z R5 R6;subst P;have e5:decide (m*k≤e)=false:=decide_eq_false (by omega);obtain⟨f,g,h,i,j⟩:=u.cs5;obtain⟨a,b,d⟩:=v.cs3
     go_enter func25,ntmps25
     go_wp2_with fail
     refine(a3.out _).mono ?_;rintro z B ⟨rfl,o⟩;clear f g h i j a b d;have x:=u.l o;have y:=v.l o;have K:=aa H o;clear u v H o;obtain⟨f,g,h,i,j⟩:=x.cs5;have U:=y.c 2 rfl;have r:yB B B.drew:=(Below.refl _ _).drew;have N:=x.l r;have A:=y.l r;have n:=aa K r;obtain⟨a,b,d⟩:=A.cs3
     go_wp2_with fail
     go_region_held3 (fun C=>C.cell? ⟨w.heap.size,1,none⟩=some (.slice J I M)∧C.cell? ⟨w.heap.size,2,none⟩=some (yi e)) (go_keep) (first
      | (go_at_call 54;have O:=n;clear O;refine(a0.out _ n).mono ?_;rintro z wa ⟨rfl,q⟩;have E:=aa n q;have t:=N.l q;have p:=A.l q;obtain⟨Q,S,T⟩:=p.cs3;clear n))
     go_goals
     clear f g h i j a b d U Q S T;obtain⟨f,g,h,i,j⟩:=t.cs5;obtain⟨a,b,d⟩:=p.cs3;have xd:=(t.l (Below.refl _ _).drew).c 1 rfl
     go_wp2_with fail
     go_quiet (fail)
     clear xd f g h i j a b d;have a5:=t.l (aL (Below.refl _ _) nq);have a6:=p.l (aL (Below.refl _ _) nq);have a4:=aa E (aL (Below.refl _ _) nq);clear t p E;obtain⟨f,g,h,i,j⟩:=a5.cs5;obtain⟨a,b,d⟩:=a6.cs3
     go_wp2
     go_ret
     exact⟨rfl,a4⟩
    ·have P:=R5.out h1 h2 h3 h4
     clear W X Y Z R5 R6;subst P;have e5:m*k≤e:=by omega
     obtain⟨f,g,h,i,j⟩:=u.cs5;obtain⟨a,b,d⟩:=v.cs3
     go_enter func25,ntmps25
     go_wp2_with fail
     refine(a3.out _).mono ?_;rintro z B ⟨rfl,o⟩;clear f g h i j a b d;have x:=u.l o;have y:=v.l o;have K:=aa H o;clear u v H o;obtain⟨f,g,h,i,j⟩:=x.cs5;have U:=y.c 2 rfl;have r:yB B B.drew:=(Below.refl _ _).drew;have N:=x.l r;have A:=y.l r;have n:=aa K r;obtain⟨a,b,d⟩:=A.cs3
     go_wp2_with fail
     go_region_held3 (fun C=>C.cell? ⟨w.heap.size,1,none⟩=some (.slice J I M)∧C.cell? ⟨w.heap.size,2,none⟩=some (yi e)) (go_keep) (first
      | (go_at_call 54;have O:=n;clear O;refine(a0.out _ n).mono ?_;rintro z wa ⟨rfl,q⟩;have E:=aa n q;have t:=N.l q;have p:=A.l q;obtain⟨Q,S,T⟩:=p.cs3;clear n))
     go_goals
     clear f g h i j a b d U Q S T;obtain⟨f,g,h,i,j⟩:=t.cs5;obtain⟨a,b,d⟩:=p.cs3;have xd:=(t.l (Below.refl _ _).drew).c 1 rfl
     go_wp2_with fail
     go_quiet (fail)
     clear xd f g h i j a b d;have a5:=t.l (aL (Below.refl _ _) nq);have a6:=p.l (aL (Below.refl _ _) nq);have a4:=aa E (aL (Below.refl _ _) nq);clear t p E;obtain⟨f,g,h,i,j⟩:=a5.cs5;obtain⟨a,b,d⟩:=a6.cs3
     go_wp2
     go_ret
     exact⟨rfl,a4⟩
theorem zQ.l {w d e:World}{bn a:Nat}{ng:Bool}{c:List Value}(h:zQ w bn a ng c d)(b:yB d e):zQ w bn a ng c e:=
 ⟨h.q.l b,h.f.l b,h.n.l b,aa h.b b⟩
theorem x9 {w:World}{base:Nat}{v:Value}{a:List Bool}(h:jp w base v a)(x:0<a.length): ∃g cap,v= .slice (some ⟨g,0,none⟩) a.length cap∧a.length≤cap∧cap≤maxLen∧ ∀i b,a[i]? =some b→w.cell? ⟨g,i,none⟩=some (.bool b):=by
 obtain⟨r,l⟩:=h
 rcases l with⟨j,u⟩| ⟨g,cap,k,j,m,q,f,c,p,s⟩
 ·omega
 ·refine⟨g,cap,j,f,c,fun i b d=> ?_⟩
  have t:i<a.length:=(List.getElem?_eq_some_iff.1 d).1;have o:=World.ownsRow.cellAt (w:=w) (base:=base) (e:=4) (size:=1) (g:=g) (n:=a.length) (cap:=cap) (xs:=a.map Value.bool) ⟨r,.inr ⟨g,cap,k,rfl,m,q,f,c,p,s⟩⟩ i (by omega);rw[o,List.getElem?_map,d];rfl
end Go.Proofs.YtlhkndcmbpcpgaaGreatDoor
