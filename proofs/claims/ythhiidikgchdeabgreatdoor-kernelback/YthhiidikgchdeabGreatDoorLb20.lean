/- Texts laid together. -/
import Derived.Test.YthhiidikgchdeabGreatDoorLb13
import Derived.Test.YthhiidikgchdeabGreatDoorLb14
import Derived.Test.YthhiidikgchdeabGreatDoorLb15
set_option maxRecDepth 100000
set_option maxHeartbeats 25600000
namespace Go.Proofs.YthhiidikgchdeabGreatDoor
open _root_.Go.Proofs.Tryz
open Go.RowKit
theorem mL.l {w w':World}{b:Nat}{d e f g i j:Value}(h:mL w b d e f g i j)(a:yB w w'):mL w' b d e f g i j:=by
 obtain⟨c,⟨k,m,n,o,p,q⟩,r,s,t,u,v,x⟩:=h;refine⟨Nat.lt_of_lt_of_le c a.size,⟨cell_later a k,cell_later a m,cell_later a n,cell_later a o,cell_later a p,cell_later a q⟩, ?_, ?_, ?_, ?_, ?_, ?_⟩
 all_goals rw[a.frozen (by exact c)];assumption
theorem ZB6.l {w w':World}{b:Nat}(h:ZB6 w b)(a:yB w w'):ZB6 w' b:=by
 obtain⟨c,e,d⟩:=h;exact⟨Nat.lt_of_lt_of_le c a.size,e,(a.block b c).trans d⟩
theorem JS (va vb:Value)(xs a:List Nat)(w:World)(ha:Rd w .u32 va xs)(v:Rd w .u32 vb a)(sa:Dg.Small 4294967296 xs)(W:Dg.Small 4294967296 a)(nb:Dg.Norm a)(G:2≤a.length)(K:a.length≤xs.length)(cv:xs.length≤900000000):
  yC 133 #[va,vb] w (Two w (Dg.vl 4294967296 xs/Dg.vl 4294967296 a) (Dg.vl 4294967296 xs % Dg.vl 4294967296 a)):=by
 obtain⟨i0,hi,bq,ar,bt⟩:=info_parts Tryz.infoU32;have d0:(Tryz.prog.info? 36).map (·.size)=some 1:=by rw[hi];simp[ar]
 obtain⟨s,hs⟩: ∃s,32-bitLen (a.getD (a.length-1) 0)=s:=⟨_,rfl⟩;obtain⟨N,a8,a9⟩:=V7 a s W nb G hs.symm;have al:=XC (a.getD (a.length-1) 0) w (W _);rw[hs] at al;have an:=vO vb a s 0 s (2^s) w v W (by omega) (by omega) N rfl (by omega) (by intro e;rw[e] at G;simp at G);have a1:Hid (∀j,yB w j→yC 122 #[va,yi s] j (Num j (Dg.vl 4294967296 xs*2^s))):=fun j b1=>
  vO va xs s 0 s (2^s) j (ha.l b1) sa (by omega) (by omega) N rfl (by omega) (by intro e;rw[e] at K;have h0:a.length≤0:=K;omega)
 obtain⟨ao,ca,rfl⟩:=ha.shape;obtain⟨bo,cb,rfl⟩:=v.shape;obtain⟨-,-,cj⟩:=iQ v;obtain⟨bb,e6,rfl,cl⟩:=cj (by omega);have hy:=cl (a.length-1) (by omega);have d3:=W (a.length-1);have n1:((a.length:Int)-1)=((a.length-1:Nat):Int):=by omega
 have aq:=Dg.vl_lt 4294967296 xs sa;obtain⟨X,hX⟩: ∃X,Dg.vl 4294967296 xs=X:=⟨_,rfl⟩;obtain⟨Y,hY⟩: ∃Y,Dg.vl 4294967296 a=Y:=⟨_,rfl⟩;rw[hX] at a1 aq⊢;rw[hY] at an a8 a9⊢;obtain⟨nn,cx⟩: ∃nn,a.length=nn:=⟨_,rfl⟩;obtain⟨r,cw⟩: ∃r,xs.length=r:=⟨_,rfl⟩;obtain⟨y,d4⟩: ∃y,a.getD (a.length-1) 0=y:=⟨_,rfl⟩;rw[d4] at al hy d3;rw[cx] at a8 a9 an hy n1 G K⊢;rw[cw] at a1 K cv aq⊢;have a0:Hid (2147483648*4294967296^ (nn-1)≤Y*2^s):=a8;have b5:Hid (Y*2^s<4294967296^nn):=a9;have b9:Hid (X<4294967296^r):=aq;clear ha v sa W nb hs cj cl hX hY cx cw d4 a8 a9 aq
 go_enter func133,ntmps133
 go_wp2_with fail
 refine al.mono ?_;rintro e w' ⟨rfl,rfl⟩;clear al
 go_wp2_with fail
 refine an.mono ?_;rintro e j ⟨eb,rfl,U,C⟩;clear an;have p:(Dg.dg 4294967296 (Y*2^s)).length=nn:=V8 nn _ (by omega) (by have:=a0.out;omega) b5.out;obtain⟨gb,cc,rfl,dn,co,ck⟩:=U.form (by omega);rw[p] at U ck⊢;obtain⟨t,ae⟩: ∃t,Dg.dg 4294967296 (Y*2^s)=t:=⟨_,rfl⟩;rw[ae] at U p
 go_wp2_with (at_make;refine wpList_make_full _ rfl _ _ 89 rfl j.heap.size 36 i0 (.int .u32 0) 1 underlying89 hi bq ar _ _ _ _ (r+1) rfl rfl (by omega) (by omega) ?b2 ?b3 (Nat.le_refl _) ?_)
 case b2=>rw[bt];omega
 case b3=>unfold maxLen;omega
 intro w2 cy cp;have d6:=gL cy;have a3:yB j w2:=(Below.refl _ _).grown cp (Nat.le_refl _) (fun k h=>by cases h)
 clear cy cp
 go_wp2_with fail
 refine(a1.out w2 (aa C a3)).mono ?_;rintro e w3 ⟨ec,rfl,bx,a4⟩;obtain⟨az,ad⟩: ∃az,Dg.dg 4294967296 (X*2^s)=az:=⟨_,rfl⟩;rw[ad] at bx;have bd:az.length≤r+1:=by rw[←ad];exact RI X r s b9.out N
 have bz:=bx.rd;obtain⟨e5,e7,rfl⟩:=bz.shape;have d7:=d6.l a4;obtain⟨Z,ds,Q,bc⟩:=Nw 89 89 3 underlying89 d0 d7 bz (by simpa using bd);have c6:=aa C a3;have ba:=aa c6 a4;have c7:Below w'.heap.size w' Z:=ba.grown bc ba.size (fun k E=>by cases E;exact C.size)
 have db:=((U.l a3).l a4).other bc (by omega);have Q:=Q.lower C.size;clear d7 bz bx a1 d6 U d0
 go_wp2_with (at_make;refine wpList_make_full _ rfl _ _ 89 rfl Z.heap.size 36 i0 (.int .u32 0) 1 underlying89 hi bq ar _ _ _ _ (r+1-nn) rfl rfl ?b0 ?b1 ?b2 ?b3 (Nat.le_refl _) ?_)
 case b0=>omega
 case b1=>omega
 case b2=>rw[bt];omega
 case b3=>unfold maxLen;omega
 intro w5 cz cr;have H:=gL cz;have a5:yB Z w5:=(Below.refl _ _).grown cr (Nat.le_refl _) (fun k h=>by cases h)
 have b4:=Q.l a5;have dc:=db.l a5;have c9:=aa c7 a5;have be:j.heap.size<Z.heap.size:=Q.block.2;have bf:w'.heap.size≤j.heap.size:=C.size;clear cz cr Q db c7 a5 C a3 a4 c6 ba bc ds hy d3 n1;have bn:=Pj (nn:=nn) ad bd b9.out N (by omega) (by omega) a0.out;have O:Dg.Small 4294967296 t:=by rw[←ae];exact Dg.small_dg _ _ (by omega)
 have d2:Dg.vl 4294967296 t=Y*2^s:=by rw[←ae];exact Dg.vl_dg _ _ (by omega)
 have cg:0<Y:=by
  rcases Nat.eq_zero_or_pos Y with e|e
  ·have:=a0.out
   rw[e,Nat.zero_mul] at this;have h2:=Nat.pow_pos (n:=nn-1) (show 0<4294967296 by omega)
   omega
  ·exact e
 obtain⟨M,hM⟩: ∃M,r+1=M+nn:=⟨r+1-nn,by omega⟩;rw[hM,Nat.add_sub_cancel] at H bn;rw[hM] at b4;rw[hM,Nat.add_sub_cancel];obtain⟨z,cn⟩: ∃z,Z.heap.size=z:=⟨_,rfl⟩;obtain⟨u,cm⟩: ∃u,j.heap.size=u:=⟨_,rfl⟩;rw[cn] at H be⊢;rw[cm] at b4 be bf co⊢;have H:=H.lower (show w'.heap.size≤z by omega)
 have av:gb≠u:=by omega
 have ax:u≠z:=by omega
 have d5:gb≠z:=by omega
 have ci:w'.heap.size≤z:=by omega
 have e8:M+nn≤900000001:=by omega
 clear ad bd b9 ae hM K cv cn cm
 go_wp2
 go_loopw [10] (fun iv wr=>ae2 w' (X*2^s) (Y*2^s) M (M+nn) u z gb cc t iv wr) (fun iv _=>(intOf iv+1).toNat)
 case atStart=>exact⟨M,_,_,Nat.le_refl _,rfl,bn,b4,H,by rw[p];exact dc,c9⟩
 case round=>
  clear bn H b4 dc c9 dn co ck be hi bq ar bt;obtain⟨k,R,os,E,rfl,d,x,S,I,a2⟩:=hrel
  by_cases dp:k=0
  ·subst dp
   have bg:=Xs cg d;have ro:=S.rd;have rr:=x.rd;clear I
   go_wp2_with fail
   refine(jD _ _ _ _ _ ro).mono ?_;rintro e w6 ⟨m,rfl,hm,rfl⟩;have dd:=jW 4294967296 (by omega) S d.2.2.2.1 hm;rw[bg.1] at dd
   go_wp2_with fail
   refine(jD _ _ _ _ _ rr).mono ?_;rintro e w6 ⟨m2,rfl,bi,rfl⟩;have tr:=jW 4294967296 (by omega) x d.2.2.1 bi;have F:=Dj _ _ s 0 s w6 tr.rd (Dg.small_dg _ _ (by omega)) (by have h1:=bi.1;have h2:=d.1;have h3:=tr.len;omega) (by omega) N (by omega);rw[Dg.vl_dg _ _ (by omega),bg.2] at F;clear ro rr hm bi bg S x tr d
   go_wp2_with fail
   refine F.mono ?_;rintro e w7 ⟨vr,rfl,e2,c8⟩;have e3:=dd.l c8;have B:=aa a2 c8;have dt:=e2.lower a2.size;clear F
   go_wp2
   go_ret2
   exact⟨_,_,rfl,e3,dt,B⟩
  ·obtain⟨i,rfl⟩: ∃i,k=i+1:=⟨k-1,by omega⟩
   have n2:((i+1:Nat):Int)-1=(i:Int):=by omega
   rw[n2];have e9:=d.1;rw[p] at I;have c2:=x.c (i+nn) (by omega);have c1:=x.c (i+(nn-1)) (by omega);have c0:=x.c (i+(nn-2)) (by omega);have e1:=I.c (nn-1) (by omega);have e0:=I.c (nn-2) (by omega);have lg:=Pi d O d2 G a0.out b5.out;have cs:=TX u i nn (M+nn-i) gb 0 cc _ _ _ _ _ wr G (by omega) (by omega) c2 c1 c0 (by rw[Nat.zero_add];exact e1) (by rw[Nat.zero_add];exact e0) (d.2.2.1 _) (d.2.2.1 _) (d.2.2.1 _) (O _) (O _) lg.1 lg.2.1;have LG:=lg.2.2;have c4:Hid _:=LG;clear c2 c1 c0 e1 e0 lg LG
   go_wp2_with fail
   rw[show i+nn+1-i=nn+1 from by omega]
   refine cs.mono ?_;rintro e w6 ⟨g,rfl,bh,F,d1,J⟩;clear cs;have hq:=c4.out g bh F d1;clear c4 F d1;have da:=x.l J;have d9:=S.l J;have bu:=I.l J;have b6:=aa a2 J;clear x S I J a2;have bp:=H7 u (M+nn) i (M+nn-i) w'.heap.size g R t _ w6 da d.2.2.1 O (fun e4 hg=>(bu.other hg av).rd) (by omega) bh (by omega)
   rw[p] at bp;obtain⟨q,bm⟩: ∃q,Dg.vl 4294967296 R/4294967296^i/(Y*2^s)=q:=⟨_,rfl⟩;rw[bm] at hq;have c5:Hid (∀D b,acc R D t i g b→_):=fun D b A=>QR A d.2.2.1 rfl d2 (Nat.mul_pos cg (Nat.pow_pos (by omega))) (by rw[p];exact b5.out) d.2.2.2.2.2.2 bm hq.2
   go_wp2_with fail
   refine bp.mono ?_;rintro e w7 ⟨b,D,rfl,A,bv,a6⟩;have ap:=c5.out D b A;have ea:=A.2.2.2.1;have ce:=A.1;have ac:=A.2.1;have T:=d9.other a6 ax.symm;have ay:=bu.other a6 av;have B:=b6.grown a6 b6.size (fun k E=>by cases E;exact bf)
   have dq:=hq.1;have ct:i<M:=by omega
   clear c5 A bp hq bm da d9 bu b6 a6
   by_cases v:b=0
   ·subst v
    obtain⟨rfl,P,L⟩:=ap.1 rfl;have bj:=Iv d ct bh ce ac P L;have ed:decide ((0:Nat)=1)=false:=rfl;rw[ed];have hf:=T.f i;have dl:=T.c i (by have:=d.2.1;omega);clear ap P L d ac
    go_wp2
    go_roundw
    case rel=>exact⟨i,D,_,by omega,by go_num,bj,bv.other (bI _ _ _ _) ax,T.store i _,by rw[p];exact ay.other (bI _ _ _ _) d5,B.setCell (by exact ci) _⟩
    case measure=>simp[intOf]
   ·have v:b=1:=by omega
    subst v;obtain⟨rfl,ch⟩:=ap.2 rfl;have bl:=Mj u (M+nn) i (M+nn-i) w'.heap.size D t _ w7 bv ac O (fun e4 hg=>(ay.other hg av).rd) (by omega) (by omega)
    rw[p] at bl;have ed:decide ((1:Nat)=1)=true:=rfl;rw[ed];have n3:((q+1:Nat):Int)-1=(q:Int):=by omega
    have c3:Hid _:=ch;clear ap ch
    go_wp2_with fail
    refine bl.mono ?_;rintro e w8 ⟨o,cd,rfl,hB,dy,a7⟩;obtain⟨P,L⟩:=c3.out cd o hB;have bj:=Iv d ct dq (hB.1.trans ce) hB.2.1 P L;have bw:=T.other a7 ax.symm;have dv:=ay.other a7 av;have b8:=B.grown a7 B.size (fun k E=>by cases E;exact bf)
    have hf:=bw.f i;have dl:=bw.c i (by have:=d.2.1;omega);clear bl c3 P L hB a7 d ac bv T ay B
    go_wp2
    go_roundw
    case rel=>exact⟨i,cd,_,by omega,by go_num,bj,dy.other (bI _ _ _ _) ax,bw.store i _,by rw[p];exact dv.other (bI _ _ _ _) d5,b8.setCell (by exact ci) _⟩
    case measure=>simp[intOf]
theorem inverse_W1 (n k:Nat)(lo hi:ak)(w:World)(hn:2≤n∧n<65536)(hk:k≤60000)(dc:invLo (lp (n*n) 1 (k+1) 0 (2^k/n) 0 0) k=lo)(db:invHi (lp (n*n) 1 (k+1) 0 (2^k/n) 0 0) k=hi)
  (HO: ∀(m d q:Nat) v C,Rd C .u32 v (Dg.dg 4294967296 m)→au C q 36 [.int .u32 d]→0<d∧d<4294967296∧m≤2^k→yC 126 #[v,.slice (some ⟨q,0,none⟩) 1 1] C (TwS C (m/d) (m % d)))
  (HN: ∀(m d:Nat) v u C,Rd C .u32 v (Dg.dg 4294967296 m)→Rd C .u32 u (Dg.dg 4294967296 d)→0<d∧m≤2^k→yC 126 #[v,u] C (TwS C (m/d) (m % d)))
  (HT: ∀q C,au C q 36 [.int .u32 n]→yC 66 #[.slice (some ⟨q,0,none⟩) 1 1,.slice (some ⟨q,0,none⟩) 1 1] C (NmS C (n*n)))
  (HS: ∀q C,au C q 36 [.int .u32 1]→yC 102 #[.slice (some ⟨q,0,none⟩) 1 1,yi k] C (NmS C (2^k)))
  (HP: ∀(a b:Nat) v u C,Rd C .u32 v (Dg.dg 4294967296 a)→Rd C .u32 u (Dg.dg 4294967296 b)→a≤(k+2)*2^k∧b≤2^k→yC 68 #[v,u] C (NmS C (a+b)))
  (HM: ∀(a b:Nat) v u C,Rd C .u32 v (Dg.dg 4294967296 a)→Rd C .u32 u (Dg.dg 4294967296 b)→a≤(k+2)*2^k∧b≤a→yC 70 #[v,u] C (NmS C (a-b)))
  (HL: ∀(m:Nat) A z C,yC 64 (ydA false (yT A m z) 0) C (yR C (ydV false (yT A m z) 0)))
  (HW: ∀(m:Nat) C,m≤1000000→yC 43 #[yi m] C (Lx C ⟨false,m,0⟩))
  (HD: ∀(m d:Nat) A z p o C,Rd C .u32 (yT A m z) (Dg.dg 4294967296 m)→Rd C .u32 (yT p d o) (Dg.dg 4294967296 d)→m≤(k+2)*2^k∧d≤1000000→yC 75 #[ydV false (yT A m z) 0,ydV false (yT p d o) 0] C (Lx C (aG ⟨false,m,0⟩ (dV ⟨false,d,0⟩))))
  (HE: ∀(m d:Nat) A z p o C,Rd C .u32 (yT A m z) (Dg.dg 4294967296 m)→Rd C .u32 (yT p d o) (Dg.dg 4294967296 d)→m≤(k+2)*2^k∧d≤1000000→yC 32 #[ydV false (yT A m z) 0,ydV false (yT p d o) 0] C (Lx C (aG ⟨false,m,0⟩ ⟨false,d,0⟩)))
  (HC: ∀(x y:ak) A z p o C,-1000000≤x.e∧x.e≤1000000∧ -1000000≤y.e∧y.e≤1000000→yC 81 #[.agg #[.bool x.s,yT A x.n z,yi x.e,.bool y.s,yT p y.n o,yi y.e],yi (-(k:Int))] C (yR C (.agg #[.bool x.s,yT A x.n z,yi (x.e-(k:Int)),.bool y.s,yT p y.n o,yi (y.e-(k:Int))]))):
  yC 128 #[yi n,yi k,yi 1] w (aeT w lo hi):=by
 replace HO:Hid _:=HO;replace HN:Hid _:=HN;replace HT:Hid _:=HT;replace HS:Hid _:=HS;replace HP:Hid _:=HP;replace HM:Hid _:=HM;replace HL:Hid _:=HL;replace HW:Hid _:=HW;replace HD:Hid _:=HD;replace HE:Hid _:=HE;replace HC:Hid _:=HC;have o5:IntKind.u32.wrap n=(n:Int):=IntWalk.u32_in _ ⟨by omega,by omega⟩;obtain⟨R,hR⟩: ∃R,lp (n*n) 1 (k+1) 0 (2^k/n) 0 0=R:=⟨_,rfl⟩;rw[hR] at dc db;replace dc:Hid _:=dc;replace db:Hid _:=db;replace hR:Hid _:=hR;have n4:Hid (0<n∧n<4294967296∧2^k≤2^k):=⟨by omega,by omega,Nat.le_refl _⟩;replace hn:Hid _:=hn;replace hk:Hid _:=hk;obtain⟨W3,gv,q1,b2⟩:=cA w [.bool false,yN,yi 0,.bool false,yN,yi 0] 54;replace gv:Hid _:=gv
 go_enter func128,ntmps128
 go_upto_region 1 with fail
 rw[gv.out];clear gv;have o3:=q1.lt;have hz:=af W3 (.cells #[.int .u32 n] 36);have q6:=ah W3 [.int .u32 n] 36;have q8:=q1.l hz;have b9:=aa b2 hz
 go_upto_region 2 with fail
 clear q1 b2 hz;generalize W3.alloc (.cells #[.int .u32 n] 36)=k9 at q8 q6 b9⊢;have nv:=q8.lt;have nw:=q6.lt;have gi:=af k9 (.cells #[.int .u32 1] 36);have ky:=ah k9 [.int .u32 1] 36;have kz:=q8.l gi;have l0:=q6.l gi;have ka:=aa b9 gi
 go_wp2_with fail
 refine(HS.out _ _ ky).mono ?_;rintro H ov ⟨od,rfl,jv,gj⟩;have l1:=kz.l gj;have j3:=l0.l gj;have kb:=aa ka gj;obtain⟨ho,hc,B⟩:=jv.shape;subst B;clear kz l0 ky ka gj q8 q6 b9 gi
 go_wp2_with fail
 refine(HO.out (2^k) n _ _ _ jv j3 n4.out).mono ?_;rintro H hw ⟨oe,ou,rfl,jx,lc,gl⟩;have jb:=l1.l gl;have jh:=j3.l gl;have i4:=aa kb gl;obtain⟨go,gc,B⟩:=jx.shape;subst B;obtain⟨mo,mc,B⟩:=lc.shape;subst B;clear l1 j3 jv kb gl;obtain⟨nk,gr,l6,eu⟩:=cA hw [yN,yN] 135;replace gr:Hid _:=gr;have o0:w.heap.size≤hw.heap.size:=i4.size;have o1:=jb.lt;have o2:=jh.lt;have l7:=jb.l eu;have la:=jh.l eu;have lx:=jx.l eu;have ke:=aa i4 eu;clear jb jh jx lc i4 eu
 go_upto_region 4 with fail
 rw[gr.out];clear gr;have kk:=ke;have lb:=l7;have jn:=la;have js:=l6;have rg:=lx;have f6:w.heap.size<W3.heap.size∧W3.heap.size<hw.heap.size:=⟨by omega,by omega⟩;obtain⟨ab,ir⟩: ∃x,hw.heap.size=x:=⟨_,rfl⟩;obtain⟨bb,it⟩: ∃x,W3.heap.size=x:=⟨_,rfl⟩;clear l7 la l6 lx ke
 go_wp2
 try rw[ir]
 try rw[it]
 rw[ir] at js f6;rw[it] at jn f6;clear ir it
 go_loopw [8,11,12] (fun pv wv iv wr=>InvR w n k 1 R bb ab pv wv iv wr) (fun _ _ iv _=>(((k+1:Nat):Int)-intOf iv).toNat)
 case atStart=>exact⟨k+1,0,2^k/n,0,0,3,none,0,none,0,rfl,rfl,rg,jn,js,aN _ _,aN _ _,lb,kk,f6.1,f6.2,by rw[←hR.out];exact inv_zero hn.out.1,rfl⟩
 case round=>
  clear rg lb jn js kk f6;obtain⟨f,i,t,s,r,L,so,sc,ro,rc,rfl,rfl,rg,q1,q2,rs,rr,q0,ee,kn,ko,hI⟩:=hrel;obtain⟨go,gc,B⟩:=rg.shape;subst B
  by_cases ht:t=0
  ·replace hk:=hk.out
   subst ht;obtain⟨m3,kv,ef,kw⟩:=inv_end hI.out.1;have j2:=hI.out.2;subst m3;replace dc:=dc.out;replace db:=db.out;have e7:=HD.out (s-r) L;have cr:=HE.out (s-r) L;obtain⟨g,h4⟩: ∃x,aG ⟨false,s-r,0⟩ (dV ⟨false,L,0⟩)=x:=⟨_,rfl⟩;obtain⟨xh,h3⟩: ∃x,aG ⟨false,s-r,0⟩ ⟨false,L,0⟩=x:=⟨_,rfl⟩;rw[h4] at e7;rw[h3] at cr;obtain rfl:⟨g.s,g.n,g.e-(k:Int)⟩=lo:=by rw[←dc,←h4,j2];rfl
   obtain rfl:⟨xh.s,xh.n,xh.e-(k:Int)⟩=hi:=by rw[←db,←h3,j2];rfl
   have m5:g.e=0:=by rw[←h4];exact plus_e0 _ _ rfl rfl
   have m4:xh.e=0:=by rw[←h3];exact plus_e0 _ _ rfl rfl
   have f4:Hid (-1000000≤g.e∧g.e≤1000000∧ -1000000≤xh.e∧xh.e≤1000000):=⟨by omega,by omega,by omega,by omega⟩;have n2:Hid (s≤(k+2)*2^k∧r≤s):=⟨kw,kv⟩;have dd:Hid (L≤1000000):=by show L≤1000000;omega
   have iz:s-r≤(k+2)*2^k∧L≤1000000:=⟨by omega,dd.out⟩;replace e7:Hid (∀A z p o C,Rd C .u32 (.slice A (Dg.dg 4294967296 (s-r)).length z) (Dg.dg 4294967296 (s-r))→Rd C .u32 (yT p L o) (Dg.dg 4294967296 L)→yC 75 #[ydV false (.slice A (Dg.dg 4294967296 (s-r)).length z) 0,ydV false (yT p L o) 0] C (Lx C g)):=fun A z p o C h1 h2=>e7 A z p o C h1 h2 iz
   replace cr:Hid (∀A z p o C,Rd C .u32 (.slice A (Dg.dg 4294967296 (s-r)).length z) (Dg.dg 4294967296 (s-r))→Rd C .u32 (yT p L o) (Dg.dg 4294967296 L)→yC 32 #[ydV false (.slice A (Dg.dg 4294967296 (s-r)).length z) 0,ydV false (yT p L o) 0] C (Lx C xh)):=fun A z p o C h1 h2=>cr A z p o C h1 h2 iz
   have o4:IntKind.i64.wrap (-(k:Int))= -(k:Int):=IntWalk.i64_in _ ⟨by omega,by omega⟩;have ob:(Dg.dg 4294967296 0).length=0:=rfl;clear hI ef kw kv j2 dc db h4 h3 m5 m4 iz HD HE HO HN HT HS HP hR hk;obtain⟨m1,m2⟩:=q2.cs2
   go_wp2_with fail
   refine(HM.out s r _ _ _ rs rr n2.out).mono ?_;rintro H ox ⟨oi,rfl,jy,eb⟩;have l2:=q0.l eb;have ld:=rg.l eb;have lf:=rs.l eb;have lh:=rr.l eb;have kc:=aa ee eb;obtain⟨jo,jc,B⟩:=jy.shape;subst B;clear q0 q1 q2 rg rs rr ee eb m1 m2
   go_wp2_with fail
   refine(HL.out (s-r) _ _ _).mono ?_;rintro H g8 ⟨rfl,d9⟩;have je:=l2.l d9;have li:=ld.l d9;have lj:=lf.l d9;have lk:=lh.l d9;have ll:=jy.l d9;have i3:=aa kc d9;clear l2 ld lf lh jy kc d9;obtain⟨hy,gq,l3,d6⟩:=cA g8 (ydL false (.slice jo (Dg.dg 4294967296 (s-r)).length jc) 0) 48;replace gq:Hid _:=gq;have nx:w.heap.size≤g8.heap.size:=i3.size;have ny:=je.lt;have l4:=je.l d6;have lm:=li.l d6;have ln:=lj.l d6;have lq:=lk.l d6;have lr:=ll.l d6;have kd:=aa i3 d6;clear je li lj lk ll i3 d6
   go_upto_region 14 with fail
   rw[gq.out];clear gq
   go_upto_region 14 with fail
   have cz:yB hy hy.drew:=(Below.refl _ _).drew;have eg:=l4.l cz;have dq:=l3.l cz;have g4:=lm.l cz;have g5:=ln.l cz;have g6:=lq.l cz;have g7:=lr.l cz;have e9:=aa kd cz;clear l4 l3 lm ln lq lr kd cz;refine wp_region_held_drew (S:=fun wq=>au wq g8.heap.size 48 (ydL false (.slice jo (Dg.dg 4294967296 (s-r)).length jc) 0)) (by kernel_rfl) dq (fun bw=> ?_)
   generalize hy.drew=et at eg dq g4 g5 g6 g7 e9 bw⊢;refine tq 0 (ydV false (.slice jo (Dg.dg 4294967296 (s-r)).length jc) 0) rfl (fun _ j1=>fy 48 (.tmp 16) rfl g8.heap.size 0 (by kernel_rfl) _ _ j1.range underlying48 rfl (by kernel_rfl)) bw ?_
   refine tq 1 (yi (L:Int)) rfl (fun _ _=>by kernel_rfl) bw ?_
   refine tq 4 (ydV false (.slice jo (Dg.dg 4294967296 (s-r)).length jc) 0) rfl (fun _ j1=>fy 48 (.tmp 16) rfl g8.heap.size 0 (by kernel_rfl) _ _ j1.range underlying48 rfl (by kernel_rfl)) bw ?_
   refine tq 5 (yi (L:Int)) rfl (fun _ _=>by kernel_rfl) bw ?_
   refine wpAnyH_ready (rs:=[2,9]) (by kernel_rfl) (by simp) ?_;refine AllReadyH.cons rfl (fun K j=> ?_) (AllReadyH.cons rfl (fun K j=> ?_) AllReadyH.nil)
   ·go_simp
    refine(HW.out L _ dd.out).mono ?_;rintro H g9 ⟨ok,rfl,el,d0⟩;have fj:=eg.l d0;have eh:=dq.l d0;have he:=g4.l d0;have hg:=g5.l d0;have hh:=g6.l d0;have cc:=g7.l d0;have f1:=aa e9 d0;obtain⟨ao,ac,B⟩:=el.shape;subst B;clear eg dq g4 g5 g6 g7 e9 d0;refine j.out _ _ eh (fun gm=> ?_)
    clear j K;refine wpAnyH_ready (rs:=[3,9]) (by kernel_rfl) (by simp) ?_;refine AllReadyH.cons rfl (fun K j=> ?_) (AllReadyH.cons rfl (fun K j=> ?_) AllReadyH.nil)
    ·go_simp
     refine(e7.out _ _ _ _ _ cc el).mono ?_;rintro H ga ⟨op,rfl,fp,c0⟩;have fk:=fj.l c0;have ei:=eh.l c0;have hj:=he.l c0;have hm:=hg.l c0;have hp:=hh.l c0;have d4:=cc.l c0;have bs:=el.l c0;have f2:=aa f1 c0;obtain⟨A,z,B⟩:=fp.shape;subst B;clear fj eh he hg hh cc el f1 c0;refine j.out _ _ ei (fun ih=> ?_)
     clear j K;refine wpAnyH_ready (rs:=[6,9]) (by kernel_rfl) (by simp) ?_;refine AllReadyH.cons rfl (fun K j=> ?_) (AllReadyH.cons rfl (fun K j=> ?_) AllReadyH.nil)
     ·go_simp
      refine(HW.out L _ dd.out).mono ?_;rintro H gb ⟨os,rfl,em,bv⟩;have fl:=fk.l bv;have ek:=ei.l bv;have hq:=hj.l bv;have hr:=hm.l bv;have hs:=hp.l bv;have cd:=d4.l bv;have be:=bs.l bv;have bf:=fp.l bv;have f3:=aa f2 bv;obtain⟨bo,bc,B⟩:=em.shape;subst B;clear fk ei hj hm hp d4 bs fp f2 bv;refine j.out _ _ ek (fun kh=> ?_)
      clear j K;refine wpAnyH_ready (rs:=[7,9]) (by kernel_rfl) (by simp) ?_;refine AllReadyH.cons rfl (fun K j=> ?_) (AllReadyH.cons rfl (fun K j=> ?_) AllReadyH.nil)
      ·go_simp
       refine(cr.out _ _ _ _ _ cd em).mono ?_;rintro H gd ⟨ot,rfl,k0,bq⟩;have jk:=fl.l bq;have ha:=ek.l bq;have ls:=hq.l bq;have lu:=hr.l bq;have lv:=hs.l bq;have ep:=cd.l bq;have b4:=be.l bq;have b5:=bf.l bq;have ax:=em.l bq;have i6:=aa f3 bq;obtain⟨p,o,B⟩:=k0.shape;subst B;clear fl ek hq hr hs cd be bf em f3 bq;refine j.out _ _ ha (fun ki=> ?_)
       clear j K;refine tq 8 (.agg #[.bool g.s,yT A g.n z,yi g.e,.bool xh.s,yT p xh.n o,yi xh.e]) rfl (fun _ _=>by kernel_rfl) ki ?_
       refine wpAnyH_ready (rs:=[9]) (by kernel_rfl) (by simp) ?_;refine AllReadyH.cons rfl (fun K j=> ?_) AllReadyH.nil
       go_simp
       have bi:=af gd (.cells #[.bool false,yN,yi 0,.bool false,yN,yi 0] 54);have bg:=ah gd [.bool false,yN,yi 0,.bool false,yN,yi 0] 54;have my:w.heap.size≤gd.heap.size:=i6.size;have mz:=jk.lt;have n0:=ha.lt;have b3:=jk.l bi;have N:=ha.l bi;have hu:=ls.l bi;have O:=lu.l bi;have Q:=lv.l bi;have T:=ep.l bi;have U:=b4.l bi;have W:=b5.l bi;have X:=ax.l bi;have Y:=k0.l bi;have ay:=aa i6 bi;refine j.out _ _ N (fun b8=> ?_)
       clear j K;clear jk ha ls lu lv ep b4 b5 ax k0 i6 bi;generalize gd.alloc (.cells #[.bool false,yN,yi 0,.bool false,yN,yi 0] 54)=e8 at b3 N bg hu O Q T U W X Y ay b8⊢;generalize gd.heap.size=cx at bg my mz n0⊢;refine wpAnyH_ready (rs:=[10]) (by kernel_rfl) (by simp) ?_;refine AllReadyH.cons rfl (fun K j=> ?_) AllReadyH.nil
       have h:But cx e8 (e8.setCells cx 0 [.bool g.s,yT A g.n z,yi g.e,.bool xh.s,yT p xh.n o,yi xh.e]):=de _ _ _ _;have ba:e8.there cx 0 6:=dD bg;have a0:au (e8.setCells cx 0 [.bool g.s,yT A g.n z,yi g.e,.bool xh.s,yT p xh.n o,yi xh.e]) cx 54 [.bool g.s,yT A g.n z,yi g.e,.bool xh.s,yT p xh.n o,yi xh.e]:=bg.sets _ rfl;have a4:=h.rd hu (aX hu bg (by simp));have a5:=h.rd O (aX O bg (by simp));have a6:=h.rd Q (aX Q bg (by simp));have a7:=h.rd T (aX T bg (by simp));have a8:=h.rd U (aX U bg (by simp));have a9:=h.rd W (aX W bg (by simp));have ad:=h.rd X (aX X bg (by simp));have ae:=h.rd Y (aX Y bg (by simp));have a1:=h.loc b3 (by omega);have a2:=h.loc N (by omega);have Z:=h.below ay (by omega);rw[if_pos (by kernel_rfl)];refine wp_store_mid 54 (.tmp 17) (.tmp 79) rfl cx 0 #[.bool g.s,yT A g.n z,yi g.e,.bool xh.s,yT p xh.n o,yi xh.e] (by kernel_rfl) (by kernel_rfl) ba (by kernel_rfl) (by simp[Value.oneCell']) ?_;refine j.out _ _ a2 (fun c8=> ?_)
       clear j K;clear bg hu O Q T U W X Y b3 N ay h ba;refine wpAnyH_done (by kernel_rfl) ?_ _;clear bw gm ih kh ki b8 c8;change Exit.then _ _ _ _ (World.setCells e8 cx 0 [.bool g.s,yT A g.n z,yi g.e,.bool xh.s,yT p xh.n o,yi xh.e]);generalize World.setCells e8 cx 0 [.bool g.s,yT A g.n z,yi g.e,.bool xh.s,yT p xh.n o,yi xh.e]=gg at a1 a2 a0 a4 a5 a6 a7 a8 a9 ad ae Z⊢;simp only[Act.put,List.getElem_toArray,List.getElem_cons_succ,List.getElem_cons_zero];obtain⟨c2,c3,c4,c5,c6,c7⟩:=a0.cs6
       go_wp2_with fail
       refine(HC.out g xh _ _ _ _ _ f4.out).mono ?_;rintro H hx ⟨rfl,D⟩;have I:=a1.l D;have ci:=a4.l D;have cj:=a5.l D;have ck:=a6.l D;have cl:=a7.l D;have cm:=a8.l D;have al:=a9.l D;have cn:=ad.l D;have an:=ae.l D;have b7:=aa Z D;clear a1 a2 a0 a4 a5 a6 a7 a8 a9 ad ae Z D c2 c3 c4 c5 c6 c7;have hf:=fin6 (P:=Tryz.prog) I b7 (by omega) underlying54 rfl (by kernel_rfl) (.bool g.s) (yT A g.n z) (yi (g.e-(k:Int))) (.bool xh.s) (yT p xh.n o) (yi (xh.e-(k:Int)));have HH:Hid (_∧_∧_∧_):=⟨hf.1,hf.2.2.rd al (aX al I (by simp)),hf.2.2.rd an (aX an I (by simp)),hf.2.1⟩;obtain⟨⟨z0,z1,z2,z3,z4,z5⟩,y0,y1,y2,y3,y4,y5⟩:=csf6 I;clear hf I ci cj ck cl cm al cn an b7
       go_wp2
       obtain⟨hl,co,cp,bR⟩:=HH.out;exact bodyPost_ret (br results128 rfl hl) rfl ⟨_,_,rfl,co,cp,bR⟩
      ·go_simp
       have bp:=af gb (.cells #[.bool false,yN,yi 0,.bool false,yN,yi 0] 54);have h9:=ah gb [.bool false,yN,yi 0,.bool false,yN,yi 0] 54;have ms:w.heap.size≤gb.heap.size:=f3.size;have mw:=fl.lt;have mx:=ek.lt;have bm:=fl.l bp;have av:=ek.l bp;have ep:=hq.l bp;have b4:=hr.l bp;have b5:=hs.l bp;have ax:=cd.l bp;have b6:=be.l bp;have bn:=bf.l bp;have bh:=em.l bp;have bj:=aa f3 bp;refine j.out _ _ av (fun d1=> ?_)
       clear j K;clear fl ek hq hr hs cd be bf em f3 bp;generalize gb.alloc (.cells #[.bool false,yN,yi 0,.bool false,yN,yi 0] 54)=ns at bm av h9 ep b4 b5 ax b6 bn bh bj d1⊢;generalize gb.heap.size=cw at h9 ms mw mx⊢;refine wpAnyH_ready (rs:=[7]) (by kernel_rfl) (by simp) ?_;refine AllReadyH.cons rfl (fun K j=> ?_) AllReadyH.nil
       go_simp
       refine(cr.out _ _ _ _ _ ax bh).mono ?_;rintro H J ⟨k7,rfl,a3,E⟩;have b3:=bm.l E;have N:=av.l E;have F:=h9.l E;have O:=ep.l E;have Q:=b4.l E;have T:=b5.l E;have U:=ax.l E;have W:=b6.l E;have X:=bn.l E;have Y:=bh.l E;have ay:=aa bj E;obtain⟨p,o,B⟩:=a3.shape;subst B;clear bm av h9 ep b4 b5 ax b6 bn bh bj E;refine j.out _ _ N (fun b8=> ?_)
       clear j K;refine tq 8 (.agg #[.bool g.s,yT A g.n z,yi g.e,.bool xh.s,yT p xh.n o,yi xh.e]) rfl (fun _ _=>by kernel_rfl) b8 ?_
       refine wpAnyH_ready (rs:=[10]) (by kernel_rfl) (by simp) ?_;refine AllReadyH.cons rfl (fun K j=> ?_) AllReadyH.nil
       have h:But cw J (J.setCells cw 0 [.bool g.s,yT A g.n z,yi g.e,.bool xh.s,yT p xh.n o,yi xh.e]):=de _ _ _ _;have ba:J.there cw 0 6:=dD F;have a0:au (J.setCells cw 0 [.bool g.s,yT A g.n z,yi g.e,.bool xh.s,yT p xh.n o,yi xh.e]) cw 54 [.bool g.s,yT A g.n z,yi g.e,.bool xh.s,yT p xh.n o,yi xh.e]:=F.sets _ rfl;have a4:=h.rd O (aX O F (by simp));have a5:=h.rd Q (aX Q F (by simp));have a6:=h.rd T (aX T F (by simp));have a7:=h.rd U (aX U F (by simp));have a8:=h.rd W (aX W F (by simp));have a9:=h.rd X (aX X F (by simp));have ad:=h.rd Y (aX Y F (by simp));have ae:=h.rd a3 (aX a3 F (by simp));have a1:=h.loc b3 (by omega);have a2:=h.loc N (by omega);have Z:=h.below ay (by omega);rw[if_pos (by kernel_rfl)];refine wp_store_mid 54 (.tmp 17) (.tmp 79) rfl cw 0 #[.bool g.s,yT A g.n z,yi g.e,.bool xh.s,yT p xh.n o,yi xh.e] (by kernel_rfl) (by kernel_rfl) ba (by kernel_rfl) (by simp[Value.oneCell']) ?_;refine j.out _ _ a2 (fun c8=> ?_)
       clear j K;clear F O Q T U W X Y a3 b3 N ay h ba;refine wpAnyH_done (by kernel_rfl) ?_ _;clear bw gm ih kh d1 b8 c8;change Exit.then _ _ _ _ (World.setCells J cw 0 [.bool g.s,yT A g.n z,yi g.e,.bool xh.s,yT p xh.n o,yi xh.e]);generalize World.setCells J cw 0 [.bool g.s,yT A g.n z,yi g.e,.bool xh.s,yT p xh.n o,yi xh.e]=gg at a1 a2 a0 a4 a5 a6 a7 a8 a9 ad ae Z⊢;simp only[Act.put,List.getElem_toArray,List.getElem_cons_succ,List.getElem_cons_zero];obtain⟨c2,c3,c4,c5,c6,c7⟩:=a0.cs6
       go_wp2_with fail
       refine(HC.out g xh _ _ _ _ _ f4.out).mono ?_;rintro H hx ⟨rfl,D⟩;have I:=a1.l D;have ci:=a4.l D;have cj:=a5.l D;have ck:=a6.l D;have cl:=a7.l D;have cm:=a8.l D;have al:=a9.l D;have cn:=ad.l D;have an:=ae.l D;have b7:=aa Z D;clear a1 a2 a0 a4 a5 a6 a7 a8 a9 ad ae Z D c2 c3 c4 c5 c6 c7;have hf:=fin6 (P:=Tryz.prog) I b7 (by omega) underlying54 rfl (by kernel_rfl) (.bool g.s) (yT A g.n z) (yi (g.e-(k:Int))) (.bool xh.s) (yT p xh.n o) (yi (xh.e-(k:Int)));have HH:Hid (_∧_∧_∧_):=⟨hf.1,hf.2.2.rd al (aX al I (by simp)),hf.2.2.rd an (aX an I (by simp)),hf.2.1⟩;obtain⟨⟨z0,z1,z2,z3,z4,z5⟩,y0,y1,y2,y3,y4,y5⟩:=csf6 I;clear hf I ci cj ck cl cm al cn an b7
       go_wp2
       obtain⟨hl,co,cp,bR⟩:=HH.out;exact bodyPost_ret (br results128 rfl hl) rfl ⟨_,_,rfl,co,cp,bR⟩
     ·go_simp
      have bt:=af ga (.cells #[.bool false,yN,yi 0,.bool false,yN,yi 0] 54);have h8:=ah ga [.bool false,yN,yi 0,.bool false,yN,yi 0] 54;have mp:w.heap.size≤ga.heap.size:=f2.size;have mq:=fk.lt;have mr:=ei.lt;have ca:=fk.l bt;have bl:=ei.l bt;have cd:=hj.l bt;have be:=hm.l bt;have bf:=hp.l bt;have ce:=d4.l bt;have cg:=bs.l bt;have ch:=fp.l bt;have bz:=aa f2 bt;refine j.out _ _ bl (fun ed=> ?_)
      clear j K;clear fk ei hj hm hp d4 bs fp f2 bt;generalize ga.alloc (.cells #[.bool false,yN,yi 0,.bool false,yN,yi 0] 54)=np at ca bl h8 cd be bf ce cg ch bz ed⊢;generalize ga.heap.size=cv at h8 mp mq mr⊢;refine wpAnyH_ready (rs:=[6]) (by kernel_rfl) (by simp) ?_;refine AllReadyH.cons rfl (fun K j=> ?_) AllReadyH.nil
      go_simp
      refine(HW.out L _ dd.out).mono ?_;rintro H lz ⟨ly,rfl,bd,G⟩;have bm:=ca.l G;have av:=bl.l G;have d3:=h8.l G;have b4:=cd.l G;have b5:=be.l G;have ax:=bf.l G;have b6:=ce.l G;have bn:=cg.l G;have bh:=ch.l G;have bj:=aa bz G;obtain⟨bo,bc,B⟩:=bd.shape;subst B;clear ca bl h8 cd be bf ce cg ch bz G;refine j.out _ _ av (fun d1=> ?_)
      clear j K;refine wpAnyH_ready (rs:=[7]) (by kernel_rfl) (by simp) ?_;refine AllReadyH.cons rfl (fun K j=> ?_) AllReadyH.nil
      go_simp
      refine(cr.out _ _ _ _ _ b6 bd).mono ?_;rintro H J ⟨k7,rfl,a3,E⟩;have b3:=bm.l E;have N:=av.l E;have F:=d3.l E;have O:=b4.l E;have Q:=b5.l E;have T:=ax.l E;have U:=b6.l E;have W:=bn.l E;have X:=bh.l E;have Y:=bd.l E;have ay:=aa bj E;obtain⟨p,o,B⟩:=a3.shape;subst B;clear bm av d3 b4 b5 ax b6 bn bh bd bj E;refine j.out _ _ N (fun b8=> ?_)
      clear j K;refine tq 8 (.agg #[.bool g.s,yT A g.n z,yi g.e,.bool xh.s,yT p xh.n o,yi xh.e]) rfl (fun _ _=>by kernel_rfl) b8 ?_
      refine wpAnyH_ready (rs:=[10]) (by kernel_rfl) (by simp) ?_;refine AllReadyH.cons rfl (fun K j=> ?_) AllReadyH.nil
      have h:But cv J (J.setCells cv 0 [.bool g.s,yT A g.n z,yi g.e,.bool xh.s,yT p xh.n o,yi xh.e]):=de _ _ _ _;have ba:J.there cv 0 6:=dD F;have a0:au (J.setCells cv 0 [.bool g.s,yT A g.n z,yi g.e,.bool xh.s,yT p xh.n o,yi xh.e]) cv 54 [.bool g.s,yT A g.n z,yi g.e,.bool xh.s,yT p xh.n o,yi xh.e]:=F.sets _ rfl;have a4:=h.rd O (aX O F (by simp));have a5:=h.rd Q (aX Q F (by simp));have a6:=h.rd T (aX T F (by simp));have a7:=h.rd U (aX U F (by simp));have a8:=h.rd W (aX W F (by simp));have a9:=h.rd X (aX X F (by simp));have ad:=h.rd Y (aX Y F (by simp));have ae:=h.rd a3 (aX a3 F (by simp));have a1:=h.loc b3 (by omega);have a2:=h.loc N (by omega);have Z:=h.below ay (by omega);rw[if_pos (by kernel_rfl)];refine wp_store_mid 54 (.tmp 17) (.tmp 79) rfl cv 0 #[.bool g.s,yT A g.n z,yi g.e,.bool xh.s,yT p xh.n o,yi xh.e] (by kernel_rfl) (by kernel_rfl) ba (by kernel_rfl) (by simp[Value.oneCell']) ?_;refine j.out _ _ a2 (fun c8=> ?_)
      clear j K;clear F O Q T U W X Y a3 b3 N ay h ba;refine wpAnyH_done (by kernel_rfl) ?_ _;clear bw gm ih ed d1 b8 c8;change Exit.then _ _ _ _ (World.setCells J cv 0 [.bool g.s,yT A g.n z,yi g.e,.bool xh.s,yT p xh.n o,yi xh.e]);generalize World.setCells J cv 0 [.bool g.s,yT A g.n z,yi g.e,.bool xh.s,yT p xh.n o,yi xh.e]=gg at a1 a2 a0 a4 a5 a6 a7 a8 a9 ad ae Z⊢;simp only[Act.put,List.getElem_toArray,List.getElem_cons_succ,List.getElem_cons_zero];obtain⟨c2,c3,c4,c5,c6,c7⟩:=a0.cs6
      go_wp2_with fail
      refine(HC.out g xh _ _ _ _ _ f4.out).mono ?_;rintro H hx ⟨rfl,D⟩;have I:=a1.l D;have ci:=a4.l D;have cj:=a5.l D;have ck:=a6.l D;have cl:=a7.l D;have cm:=a8.l D;have al:=a9.l D;have cn:=ad.l D;have an:=ae.l D;have b7:=aa Z D;clear a1 a2 a0 a4 a5 a6 a7 a8 a9 ad ae Z D c2 c3 c4 c5 c6 c7;have hf:=fin6 (P:=Tryz.prog) I b7 (by omega) underlying54 rfl (by kernel_rfl) (.bool g.s) (yT A g.n z) (yi (g.e-(k:Int))) (.bool xh.s) (yT p xh.n o) (yi (xh.e-(k:Int)));have HH:Hid (_∧_∧_∧_):=⟨hf.1,hf.2.2.rd al (aX al I (by simp)),hf.2.2.rd an (aX an I (by simp)),hf.2.1⟩;obtain⟨⟨z0,z1,z2,z3,z4,z5⟩,y0,y1,y2,y3,y4,y5⟩:=csf6 I;clear hf I ci cj ck cl cm al cn an b7
      go_wp2
      obtain⟨hl,co,cp,bR⟩:=HH.out;exact bodyPost_ret (br results128 rfl hl) rfl ⟨_,_,rfl,co,cp,bR⟩
    ·go_simp
     have bx:=af g9 (.cells #[.bool false,yN,yi 0,.bool false,yN,yi 0] 54);have h7:=ah g9 [.bool false,yN,yi 0,.bool false,yN,yi 0] 54;have ml:w.heap.size≤g9.heap.size:=f1.size;have mm:=fj.lt;have mn:=eh.lt;have ej:=fj.l bx;have d2:=eh.l bx;have d4:=he.l bx;have bs:=hg.l bx;have en:=hh.l bx;have e5:=cc.l bx;have d5:=el.l bx;have ea:=aa f1 bx;refine j.out _ _ d2 (fun gp=> ?_)
     clear j K;clear fj eh he hg hh cc el f1 bx;generalize g9.alloc (.cells #[.bool false,yN,yi 0,.bool false,yN,yi 0] 54)=nn at ej d2 h7 d4 bs en e5 d5 ea gp⊢;generalize g9.heap.size=ct at h7 ml mm mn⊢;refine wpAnyH_ready (rs:=[3]) (by kernel_rfl) (by simp) ?_;refine AllReadyH.cons rfl (fun K j=> ?_) AllReadyH.nil
     go_simp
     refine(e7.out _ _ _ _ _ e5 d5).mono ?_;rintro H nh ⟨na,rfl,dv,M⟩;have ca:=ej.l M;have bl:=d2.l M;have fn:=h7.l M;have be:=d4.l M;have bf:=bs.l M;have ce:=en.l M;have cg:=e5.l M;have ch:=d5.l M;have bz:=aa ea M;obtain⟨A,z,B⟩:=dv.shape;subst B;clear ej d2 h7 d4 bs en e5 d5 ea M;refine j.out _ _ bl (fun ed=> ?_)
     clear j K;refine wpAnyH_ready (rs:=[6]) (by kernel_rfl) (by simp) ?_;refine AllReadyH.cons rfl (fun K j=> ?_) AllReadyH.nil
     go_simp
     refine(HW.out L _ dd.out).mono ?_;rintro H lz ⟨ly,rfl,bd,G⟩;have bm:=ca.l G;have av:=bl.l G;have d3:=fn.l G;have b4:=be.l G;have b5:=bf.l G;have ax:=ce.l G;have b6:=cg.l G;have bn:=ch.l G;have bh:=dv.l G;have bj:=aa bz G;obtain⟨bo,bc,B⟩:=bd.shape;subst B;clear ca bl fn be bf ce cg ch dv bz G;refine j.out _ _ av (fun d1=> ?_)
     clear j K;refine wpAnyH_ready (rs:=[7]) (by kernel_rfl) (by simp) ?_;refine AllReadyH.cons rfl (fun K j=> ?_) AllReadyH.nil
     go_simp
     refine(cr.out _ _ _ _ _ b6 bd).mono ?_;rintro H J ⟨k7,rfl,a3,E⟩;have b3:=bm.l E;have N:=av.l E;have F:=d3.l E;have O:=b4.l E;have Q:=b5.l E;have T:=ax.l E;have U:=b6.l E;have W:=bn.l E;have X:=bh.l E;have Y:=bd.l E;have ay:=aa bj E;obtain⟨p,o,B⟩:=a3.shape;subst B;clear bm av d3 b4 b5 ax b6 bn bh bd bj E;refine j.out _ _ N (fun b8=> ?_)
     clear j K;refine tq 8 (.agg #[.bool g.s,yT A g.n z,yi g.e,.bool xh.s,yT p xh.n o,yi xh.e]) rfl (fun _ _=>by kernel_rfl) b8 ?_
     refine wpAnyH_ready (rs:=[10]) (by kernel_rfl) (by simp) ?_;refine AllReadyH.cons rfl (fun K j=> ?_) AllReadyH.nil
     have h:But ct J (J.setCells ct 0 [.bool g.s,yT A g.n z,yi g.e,.bool xh.s,yT p xh.n o,yi xh.e]):=de _ _ _ _;have ba:J.there ct 0 6:=dD F;have a0:au (J.setCells ct 0 [.bool g.s,yT A g.n z,yi g.e,.bool xh.s,yT p xh.n o,yi xh.e]) ct 54 [.bool g.s,yT A g.n z,yi g.e,.bool xh.s,yT p xh.n o,yi xh.e]:=F.sets _ rfl;have a4:=h.rd O (aX O F (by simp));have a5:=h.rd Q (aX Q F (by simp));have a6:=h.rd T (aX T F (by simp));have a7:=h.rd U (aX U F (by simp));have a8:=h.rd W (aX W F (by simp));have a9:=h.rd X (aX X F (by simp));have ad:=h.rd Y (aX Y F (by simp));have ae:=h.rd a3 (aX a3 F (by simp));have a1:=h.loc b3 (by omega);have a2:=h.loc N (by omega);have Z:=h.below ay (by omega);rw[if_pos (by kernel_rfl)];refine wp_store_mid 54 (.tmp 17) (.tmp 79) rfl ct 0 #[.bool g.s,yT A g.n z,yi g.e,.bool xh.s,yT p xh.n o,yi xh.e] (by kernel_rfl) (by kernel_rfl) ba (by kernel_rfl) (by simp[Value.oneCell']) ?_;refine j.out _ _ a2 (fun c8=> ?_)
     clear j K;clear F O Q T U W X Y a3 b3 N ay h ba;refine wpAnyH_done (by kernel_rfl) ?_ _;clear bw gm gp ed d1 b8 c8;change Exit.then _ _ _ _ (World.setCells J ct 0 [.bool g.s,yT A g.n z,yi g.e,.bool xh.s,yT p xh.n o,yi xh.e]);generalize World.setCells J ct 0 [.bool g.s,yT A g.n z,yi g.e,.bool xh.s,yT p xh.n o,yi xh.e]=gg at a1 a2 a0 a4 a5 a6 a7 a8 a9 ad ae Z⊢;simp only[Act.put,List.getElem_toArray,List.getElem_cons_succ,List.getElem_cons_zero];obtain⟨c2,c3,c4,c5,c6,c7⟩:=a0.cs6
     go_wp2_with fail
     refine(HC.out g xh _ _ _ _ _ f4.out).mono ?_;rintro H hx ⟨rfl,D⟩;have I:=a1.l D;have ci:=a4.l D;have cj:=a5.l D;have ck:=a6.l D;have cl:=a7.l D;have cm:=a8.l D;have al:=a9.l D;have cn:=ad.l D;have an:=ae.l D;have b7:=aa Z D;clear a1 a2 a0 a4 a5 a6 a7 a8 a9 ad ae Z D c2 c3 c4 c5 c6 c7;have hf:=fin6 (P:=Tryz.prog) I b7 (by omega) underlying54 rfl (by kernel_rfl) (.bool g.s) (yT A g.n z) (yi (g.e-(k:Int))) (.bool xh.s) (yT p xh.n o) (yi (xh.e-(k:Int)));have HH:Hid (_∧_∧_∧_):=⟨hf.1,hf.2.2.rd al (aX al I (by simp)),hf.2.2.rd an (aX an I (by simp)),hf.2.1⟩;obtain⟨⟨z0,z1,z2,z3,z4,z5⟩,y0,y1,y2,y3,y4,y5⟩:=csf6 I;clear hf I ci cj ck cl cm al cn an b7
     go_wp2
     obtain⟨hl,co,cp,bR⟩:=HH.out;exact bodyPost_ret (br results128 rfl hl) rfl ⟨_,_,rfl,co,cp,bR⟩
   ·go_simp
    have cy:=af et (.cells #[.bool false,yN,yi 0,.bool false,yN,yi 0] 54);have h5:=ah et [.bool false,yN,yi 0,.bool false,yN,yi 0] 54;have me:w.heap.size≤et.heap.size:=e9.size;have mf:=eg.lt;have mk:=dq.lt;have jj:=eg.l cy;have h6:=dq.l cy;have cc:=g4.l cy;have k4:=g5.l cy;have k5:=g6.l cy;have k6:=g7.l cy;have i5:=aa e9 cy;refine j.out _ _ h6 (fun kf=> ?_)
    clear j K;clear eg dq g4 g5 g6 g7 e9 cy;generalize et.alloc (.cells #[.bool false,yN,yi 0,.bool false,yN,yi 0] 54)=nl at jj h6 h5 cc k4 k5 k6 i5 kf⊢;generalize et.heap.size=cs at h5 me mf mk⊢;refine wpAnyH_ready (rs:=[2]) (by kernel_rfl) (by simp) ?_;refine AllReadyH.cons rfl (fun K j=> ?_) AllReadyH.nil
    go_simp
    refine(HW.out L _ dd.out).mono ?_;rintro H oy ⟨oq,rfl,hb,c1⟩;have ej:=jj.l c1;have d2:=h6.l c1;have l5:=h5.l c1;have bs:=cc.l c1;have en:=k4.l c1;have e5:=k5.l c1;have d5:=k6.l c1;have ea:=aa i5 c1;obtain⟨ao,ac,B⟩:=hb.shape;subst B;clear jj h6 h5 cc k4 k5 k6 i5 c1;refine j.out _ _ d2 (fun gp=> ?_)
    clear j K;refine wpAnyH_ready (rs:=[3]) (by kernel_rfl) (by simp) ?_;refine AllReadyH.cons rfl (fun K j=> ?_) AllReadyH.nil
    go_simp
    refine(e7.out _ _ _ _ _ d5 hb).mono ?_;rintro H nh ⟨na,rfl,dv,M⟩;have ca:=ej.l M;have bl:=d2.l M;have fn:=l5.l M;have be:=bs.l M;have bf:=en.l M;have ce:=e5.l M;have cg:=d5.l M;have ch:=hb.l M;have bz:=aa ea M;obtain⟨A,z,B⟩:=dv.shape;subst B;clear ej d2 l5 bs en e5 d5 hb ea M;refine j.out _ _ bl (fun ed=> ?_)
    clear j K;refine wpAnyH_ready (rs:=[6]) (by kernel_rfl) (by simp) ?_;refine AllReadyH.cons rfl (fun K j=> ?_) AllReadyH.nil
    go_simp
    refine(HW.out L _ dd.out).mono ?_;rintro H lz ⟨ly,rfl,bd,G⟩;have bm:=ca.l G;have av:=bl.l G;have d3:=fn.l G;have b4:=be.l G;have b5:=bf.l G;have ax:=ce.l G;have b6:=cg.l G;have bn:=ch.l G;have bh:=dv.l G;have bj:=aa bz G;obtain⟨bo,bc,B⟩:=bd.shape;subst B;clear ca bl fn be bf ce cg ch dv bz G;refine j.out _ _ av (fun d1=> ?_)
    clear j K;refine wpAnyH_ready (rs:=[7]) (by kernel_rfl) (by simp) ?_;refine AllReadyH.cons rfl (fun K j=> ?_) AllReadyH.nil
    go_simp
    refine(cr.out _ _ _ _ _ b6 bd).mono ?_;rintro H J ⟨k7,rfl,a3,E⟩;have b3:=bm.l E;have N:=av.l E;have F:=d3.l E;have O:=b4.l E;have Q:=b5.l E;have T:=ax.l E;have U:=b6.l E;have W:=bn.l E;have X:=bh.l E;have Y:=bd.l E;have ay:=aa bj E;obtain⟨p,o,B⟩:=a3.shape;subst B;clear bm av d3 b4 b5 ax b6 bn bh bd bj E;refine j.out _ _ N (fun b8=> ?_)
    clear j K;refine tq 8 (.agg #[.bool g.s,yT A g.n z,yi g.e,.bool xh.s,yT p xh.n o,yi xh.e]) rfl (fun _ _=>by kernel_rfl) b8 ?_
    refine wpAnyH_ready (rs:=[10]) (by kernel_rfl) (by simp) ?_;refine AllReadyH.cons rfl (fun K j=> ?_) AllReadyH.nil
    have h:But cs J (J.setCells cs 0 [.bool g.s,yT A g.n z,yi g.e,.bool xh.s,yT p xh.n o,yi xh.e]):=de _ _ _ _;have ba:J.there cs 0 6:=dD F;have a0:au (J.setCells cs 0 [.bool g.s,yT A g.n z,yi g.e,.bool xh.s,yT p xh.n o,yi xh.e]) cs 54 [.bool g.s,yT A g.n z,yi g.e,.bool xh.s,yT p xh.n o,yi xh.e]:=F.sets _ rfl;have a4:=h.rd O (aX O F (by simp));have a5:=h.rd Q (aX Q F (by simp));have a6:=h.rd T (aX T F (by simp));have a7:=h.rd U (aX U F (by simp));have a8:=h.rd W (aX W F (by simp));have a9:=h.rd X (aX X F (by simp));have ad:=h.rd Y (aX Y F (by simp));have ae:=h.rd a3 (aX a3 F (by simp));have a1:=h.loc b3 (by omega);have a2:=h.loc N (by omega);have Z:=h.below ay (by omega);rw[if_pos (by kernel_rfl)];refine wp_store_mid 54 (.tmp 17) (.tmp 79) rfl cs 0 #[.bool g.s,yT A g.n z,yi g.e,.bool xh.s,yT p xh.n o,yi xh.e] (by kernel_rfl) (by kernel_rfl) ba (by kernel_rfl) (by simp[Value.oneCell']) ?_;refine j.out _ _ a2 (fun c8=> ?_)
    clear j K;clear F O Q T U W X Y a3 b3 N ay h ba;refine wpAnyH_done (by kernel_rfl) ?_ _;clear bw kf gp ed d1 b8 c8;change Exit.then _ _ _ _ (World.setCells J cs 0 [.bool g.s,yT A g.n z,yi g.e,.bool xh.s,yT p xh.n o,yi xh.e]);generalize World.setCells J cs 0 [.bool g.s,yT A g.n z,yi g.e,.bool xh.s,yT p xh.n o,yi xh.e]=gg at a1 a2 a0 a4 a5 a6 a7 a8 a9 ad ae Z⊢;simp only[Act.put,List.getElem_toArray,List.getElem_cons_succ,List.getElem_cons_zero];obtain⟨c2,c3,c4,c5,c6,c7⟩:=a0.cs6
    go_wp2_with fail
    refine(HC.out g xh _ _ _ _ _ f4.out).mono ?_;rintro H hx ⟨rfl,D⟩;have I:=a1.l D;have ci:=a4.l D;have cj:=a5.l D;have ck:=a6.l D;have cl:=a7.l D;have cm:=a8.l D;have al:=a9.l D;have cn:=ad.l D;have an:=ae.l D;have b7:=aa Z D;clear a1 a2 a0 a4 a5 a6 a7 a8 a9 ad ae Z D c2 c3 c4 c5 c6 c7;have hf:=fin6 (P:=Tryz.prog) I b7 (by omega) underlying54 rfl (by kernel_rfl) (.bool g.s) (yT A g.n z) (yi (g.e-(k:Int))) (.bool xh.s) (yT p xh.n o) (yi (xh.e-(k:Int)));have HH:Hid (_∧_∧_∧_):=⟨hf.1,hf.2.2.rd al (aX al I (by simp)),hf.2.2.rd an (aX an I (by simp)),hf.2.1⟩;obtain⟨⟨z0,z1,z2,z3,z4,z5⟩,y0,y1,y2,y3,y4,y5⟩:=csf6 I;clear hf I ci cj ck cl cm al cn an b7
    go_wp2
    obtain⟨hl,co,cp,bR⟩:=HH.out;exact bodyPost_ret (br results128 rfl hl) rfl ⟨_,_,rfl,co,cp,bR⟩
  ·have m8:=hk.out
   have gx:t≤2^k:=hI.out.1.2.2.2.2.1;have kl:s≤i*2^k:=hI.out.1.2.2.2.1;have m7:i+f≤k+1:=hI.out.1.2.2.1;have m6:f≠0:=by rintro rfl;exact ht (by simpa using hI.out.1.2.1)
   have ef:i≤k:=by omega
   have gy:s≤(k+2)*2^k:=Nat.le_trans kl (Nat.mul_le_mul_right _ (by omega));have gz:t≤2^k:=gx;have iw:r≤s:=by
    rcases Nat.mod_two_eq_zero_or_one i with c|c
    ·exact hI.out.1.2.2.2.2.2.1 c
    ·exact Nat.le_trans (Nat.le_add_right _ _) (hI.out.1.2.2.2.2.2.2.1 c)
   have nu:0< (Dg.dg 4294967296 t).length:=by
    rcases Nat.eq_zero_or_pos (Dg.dg 4294967296 t).length with c|c
    ·exact absurd ((Dg.dg_nil_iff 4294967296 _ (by omega)).1 (List.length_eq_zero_iff.1 c)) ht
    ·exact c
   obtain⟨d,hd⟩: ∃x,x=2*i+1:=⟨_,rfl⟩;obtain⟨i1,h0⟩: ∃x,x=i+1:=⟨_,rfl⟩;obtain⟨es,kx⟩: ∃x,x=L+3:=⟨_,rfl⟩;have n5:=hI.out.2;obtain⟨i2,km⟩: ∃x,2*(i:Int)=x:=⟨_,rfl⟩;have o6:IntKind.i64.wrap (2*(i:Int))=i2:=by rw[km];exact IntWalk.i64_in _ ⟨by omega,by omega⟩
   have o7:IntKind.i64.wrap (i2+1)=(d:Int):=by rw[show i2+1=(d:Int) by omega];exact IntWalk.i64_in _ ⟨by omega,by omega⟩
   have o8:IntKind.u32.wrap d=(d:Int):=IntWalk.u32_in _ ⟨by omega,by omega⟩;have o9:IntKind.i64.wrap ((L:Int)+3)=(es:Int):=by rw[show(L:Int)+3=(es:Int) by omega];exact IntWalk.i64_in _ ⟨by omega,by omega⟩
   have oa:IntKind.i64.wrap ((i:Int)+1)=(i1:Int):=by rw[show(i:Int)+1=(i1:Int) by omega];exact IntWalk.i64_in _ ⟨by omega,by omega⟩
   have ku:Hid (0<d∧d<4294967296∧t≤2^k):=⟨by omega,by omega,gx⟩;have ks:Hid (0<n*n∧t≤2^k):=⟨Nat.mul_pos (by have:=hn.out;omega) (by have:=hn.out;omega),gx⟩;replace ef:Hid _:=ef;clear kl m7 m6 gx km n5 m8
   rcases Nat.mod_two_eq_zero_or_one i with n3|n3
   ·have f5:1*(i % 2)=0:=by omega
    obtain⟨f',hf,da⟩:=inv_up hn.out.1 hI.out.1 ht f5 (by omega);rw[←h0,←hd] at da;have ic:Hid (InvN n k 1 R f' i1 (t/(n*n)) (s+t/d) r∧es=3+3*i1):=⟨da,by have:=hI.out.2;omega⟩;have j0:Hid (s≤(k+2)*2^k∧t/d≤2^k):=⟨gy,Nat.le_trans (Nat.div_le_self _ _) gz⟩;clear da hf f5 hI hd gz gy iw;have n1:(i:Int).tmod 2=0:=by rw[Int.tmod_eq_emod_of_nonneg (by omega)];omega
    replace ht:Hid _:=ht;have ma:=q0.lt;have mb:=q1.lt;have md:=q2.lt;have ap:=af wr (.cells #[.int .u32 d] 36);have f7:=ah wr [.int .u32 d] 36;have f8:=q0.l ap;have f9:=q1.l ap;have fa:=q2.l ap;have dy:=rg.l ap;have fr:=rs.l ap;have fs:=rr.l ap;have ev:=aa ee ap
    go_wp2_with fail
    refine(HO.out t d _ _ _ dy f7 ku.out).mono ?_;rintro H nd ⟨n6,nb,rfl,ds,g3,aq⟩;have fb:=f8.l aq;have fc:=f9.l aq;have dl:=fa.l aq;have ft:=dy.l aq;have fv:=fr.l aq;have fx:=fs.l aq;have ex:=aa ev aq;obtain⟨p,o,B⟩:=ds.shape;subst B;obtain⟨mo,mc,B⟩:=g3.shape;subst B;clear f8 f9 fa f7 dy fr fs ev aq q0 q1 q2 rg rs rr ee ap;have i7:=dl.c 0 rfl
    go_wp2_with fail
    refine(HP.out s (t/d) _ _ _ fv ds j0.out).mono ?_;rintro H e6 ⟨n7,rfl,cb,az⟩;have fd:=fb.l az;have fe:=fc.l az;have b1:=dl.l az;have e0:=ft.l az;have e1:=fx.l az;have ey:=aa ex az;obtain⟨zo,zc,B⟩:=cb.shape;subst B;clear fb fc dl ft fv fx ds g3 ex az i7;have h:=ag e6 ab 0 (.slice zo (Dg.dg 4294967296 (s+t/d)).length zc);have dn:au (e6.setCell ⟨ab,0,none⟩ (.slice zo (Dg.dg 4294967296 (s+t/d)).length zc)) ab 135 [.slice zo (Dg.dg 4294967296 (s+t/d)).length zc,yT ro r rc]:=(b1.set 0 (.slice zo (Dg.dg 4294967296 (s+t/d)).length zc));have i8:=b1.c 0 rfl;have k8:=b1.f 0;have dp:=h.loc fd (by omega);have c9:=h.loc fe (by omega);have e2:=h.rd e0 (aX e0 b1 (by simp));have e3:=h.rd e1 (aX e1 b1 (by simp));have e4:=h.rd cb (aX cb b1 (by simp));have d7:=h.below ey (by omega);clear h
    go_upto_region 11 with fail
    generalize e6.setCell ⟨ab,0,none⟩ (.slice zo (Dg.dg 4294967296 (s+t/d)).length zc)=m0 at dp c9 dn e2 e3 e4 d7⊢;clear b1 fd fe e0 e1 cb ey i8 k8
    go_wp2_with fail
    refine(HT.out _ _ c9).mono ?_;rintro H nf ⟨n8,rfl,dt,ar⟩;have ff:=dp.l ar;have fg:=c9.l ar;have fi:=dn.l ar;have g0:=e2.l ar;have g1:=e3.l ar;have g2:=e4.l ar;have f0:=aa d7 ar;obtain⟨vo,vc,B⟩:=dt.shape;subst B;clear dp c9 dn e2 e3 e4 d7 ar
    go_wp2_with fail
    refine(HN.out t (n*n) _ _ _ g0 dt ks.out).mono ?_;rintro H ng ⟨n9,nc,rfl,fo,k3,b0⟩;have j4:=ff.l b0;have j5:=fg.l b0;have j6:=fi.l b0;have k1:=g1.l b0;have k2:=g2.l b0;have i0:=aa f0 b0;obtain⟨eo,ec,B⟩:=fo.shape;subst B;obtain⟨oo,oc,B⟩:=k3.shape;subst B;clear ff fg fi g0 g1 g2 dt f0 b0
    go_wp2
    go_roundw
    case rel=>exact⟨f',i1,t/(n*n),s+t/d,r,es,_,_,_,_,by first|rfl| (rw[kx];rfl)| (congr 1;omega),by first|rfl| (rw[h0];rfl)| (congr 1;omega),fo,j5,j6,k2,k1,j4,i0,kn,ko,ic⟩
    case measure=>have:=ef.out;simp[intOf];omega
   ·have f5:1*(i % 2)=1:=by omega
    obtain⟨f',hf,da⟩:=inv_down hn.out.1 hI.out.1 ht f5;rw[←h0,←hd] at da;have ic:Hid (InvN n k 1 R f' i1 (t/(n*n)) s (r+t/d)∧es=3+3*i1):=⟨da,by have:=hI.out.2;omega⟩;have j0:Hid (r≤(k+2)*2^k∧t/d≤2^k):=⟨Nat.le_trans iw gy,Nat.le_trans (Nat.div_le_self _ _) gz⟩;clear da hf f5 hI hd gz gy iw;have n1:(i:Int).tmod 2=1:=by rw[Int.tmod_eq_emod_of_nonneg (by omega)];omega
    replace ht:Hid _:=ht;have ma:=q0.lt;have mb:=q1.lt;have md:=q2.lt;have ap:=af wr (.cells #[.int .u32 d] 36);have f7:=ah wr [.int .u32 d] 36;have f8:=q0.l ap;have f9:=q1.l ap;have fa:=q2.l ap;have dy:=rg.l ap;have fr:=rs.l ap;have fs:=rr.l ap;have ev:=aa ee ap
    go_wp2_with fail
    refine(HO.out t d _ _ _ dy f7 ku.out).mono ?_;rintro H nd ⟨n6,nb,rfl,ds,g3,aq⟩;have fb:=f8.l aq;have fc:=f9.l aq;have dl:=fa.l aq;have ft:=dy.l aq;have fv:=fr.l aq;have fx:=fs.l aq;have ex:=aa ev aq;obtain⟨p,o,B⟩:=ds.shape;subst B;obtain⟨mo,mc,B⟩:=g3.shape;subst B;clear f8 f9 fa f7 dy fr fs ev aq q0 q1 q2 rg rs rr ee ap;have i7:=dl.c 1 rfl
    go_wp2_with fail
    refine(HP.out r (t/d) _ _ _ fx ds j0.out).mono ?_;rintro H e6 ⟨n7,rfl,cb,az⟩;have fd:=fb.l az;have fe:=fc.l az;have b1:=dl.l az;have e0:=ft.l az;have e1:=fv.l az;have ey:=aa ex az;obtain⟨zo,zc,B⟩:=cb.shape;subst B;clear fb fc dl ft fv fx ds g3 ex az i7;have h:=ag e6 ab 1 (.slice zo (Dg.dg 4294967296 (r+t/d)).length zc);have dn:au (e6.setCell ⟨ab,1,none⟩ (.slice zo (Dg.dg 4294967296 (r+t/d)).length zc)) ab 135 [yT so s sc,.slice zo (Dg.dg 4294967296 (r+t/d)).length zc]:=(b1.set 1 (.slice zo (Dg.dg 4294967296 (r+t/d)).length zc));have i8:=b1.c 1 rfl;have k8:=b1.f 1;have dp:=h.loc fd (by omega);have c9:=h.loc fe (by omega);have e2:=h.rd e0 (aX e0 b1 (by simp));have e3:=h.rd e1 (aX e1 b1 (by simp));have e4:=h.rd cb (aX cb b1 (by simp));have d7:=h.below ey (by omega);clear h
    go_upto_region 11 with fail
    generalize e6.setCell ⟨ab,1,none⟩ (.slice zo (Dg.dg 4294967296 (r+t/d)).length zc)=m0 at dp c9 dn e2 e3 e4 d7⊢;clear b1 fd fe e0 e1 cb ey i8 k8
    go_wp2_with fail
    refine(HT.out _ _ c9).mono ?_;rintro H nf ⟨n8,rfl,dt,ar⟩;have ff:=dp.l ar;have fg:=c9.l ar;have fi:=dn.l ar;have g0:=e2.l ar;have g1:=e3.l ar;have g2:=e4.l ar;have f0:=aa d7 ar;obtain⟨vo,vc,B⟩:=dt.shape;subst B;clear dp c9 dn e2 e3 e4 d7 ar
    go_wp2_with fail
    refine(HN.out t (n*n) _ _ _ g0 dt ks.out).mono ?_;rintro H ng ⟨n9,nc,rfl,fo,k3,b0⟩;have j4:=ff.l b0;have j5:=fg.l b0;have j6:=fi.l b0;have k1:=g1.l b0;have k2:=g2.l b0;have i0:=aa f0 b0;obtain⟨eo,ec,B⟩:=fo.shape;subst B;obtain⟨oo,oc,B⟩:=k3.shape;subst B;clear ff fg fi g0 g1 g2 dt f0 b0
    go_wp2
    go_roundw
    case rel=>exact⟨f',i1,t/(n*n),s,r+t/d,es,_,_,_,_,by first|rfl| (rw[kx];rfl)| (congr 1;omega),by first|rfl| (rw[h0];rfl)| (congr 1;omega),fo,j5,j6,k1,k2,j4,i0,kn,ko,ic⟩
    case measure=>have:=ef.out;simp[intOf];omega
end Go.Proofs.YthhiidikgchdeabGreatDoor
