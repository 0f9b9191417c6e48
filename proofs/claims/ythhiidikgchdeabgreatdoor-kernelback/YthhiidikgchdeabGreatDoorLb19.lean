/- Texts laid together. -/
import Derived.Test.YthhiidikgchdeabGreatDoorLb13
import Derived.Test.YthhiidikgchdeabGreatDoorLb14
set_option maxRecDepth 100000
set_option maxHeartbeats 1600000
namespace Go.Proofs.YthhiidikgchdeabGreatDoor
open _root_.Go.Proofs.Tryz
open Go.RowKit
theorem Zm (c:Bool)(a:Option Addr)(b n:Nat)(e x:Int)(w:World)(t:Rd w .u32 (.slice a (Dg.dg 4294967296 n).length b) (Dg.dg 4294967296 n))(A:(Dg.dg 4294967296 n).length≤900000000)
  (_h1: -4000000000≤e) (_h2:e≤4000000000) (_h3: -4000000000≤x) (H:x≤e) (I:e-x≤10000000000):
  Calls Tryz.prog 67 #[.agg #[.bool c,.slice a (Dg.dg 4294967296 n).length b,.int .i64 e],.int .i64 x] w (Num w (n*2^ (e-x).toNat)):=by
 have j:Hid (∀d,Below w.heap.size w d→Calls Tryz.prog 102 #[.slice a (Dg.dg 4294967296 n).length b,.int .i64 (e-x)] d (Num d (n*2^ (e-x).toNat))):=fun d z=>by
  have:=eO _ _ (e-x) d (t.l z) (Dg.small_dg _ _ (by omega)) (by omega) (by omega) (by omega)
  rwa [Dg.vl_dg _ _ (by omega),CE n _ (by omega)] at this
 obtain⟨m,r⟩: ∃m,(Dg.dg 4294967296 n).length=m:=⟨_,rfl⟩;obtain⟨q,s⟩: ∃q,n*2^ (e-x).toNat=q:=⟨_,rfl⟩;rw[r,s] at j⊢;clear r t A s;have f:=aA w (.bool c) (.slice a m b) (.int .i64 e) 48;have p:=af w (.cells #[.bool c,.slice a m b,.int .i64 e] 48);have h:Below (w.alloc (.cells #[.bool c,.slice a m b,.int .i64 e] 48)).heap.size (w.alloc (.cells #[.bool c,.slice a m b,.int .i64 e] 48)) (w.alloc (.cells #[.bool c,.slice a m b,.int .i64 e] 48)).drew:=(Below.refl _ _).drew;have f:=f.l h;have v:=aa p h;clear p h;have G:IntKind.i64.wrap (e-x)=e-x:=IntWalk.i64_in _ ⟨by omega,by omega⟩;obtain⟨-,⟨D,E,F⟩,-⟩:=id f
 go_enter func67,ntmps67
 go_wp2_with fail
 go_region_held3 (fun i=>i.cell? ⟨w.heap.size,0,none⟩=some (.bool c)∧i.cell? ⟨w.heap.size,1,none⟩=some (.slice a m b)∧i.cell? ⟨w.heap.size,2,none⟩=some (.int .i64 e)) (go_keep) (first
  | (go_at_call 65;refine(cN c a m b e _).mono ?_;rintro x M ⟨rfl,k⟩;have u:=f.l k;have g:=aa v k;obtain⟨-,⟨J,p1,p2⟩,-⟩:=id u)
  | (go_at_call 102;refine(j.out _ g).mono ?_;rintro x N ⟨L,rfl,C,o⟩;have B:=u.l o;have y:=aa g o;obtain⟨-,⟨K,q1,q2⟩,-⟩:=id B))
 all_goals go_wp2
 go_ret
 exact⟨_,rfl,C.lower g.size,y⟩
theorem uj (v u:Value)(a b:ak)(w:World)(hv:Dv w v a)(hu:Dv w u b)(b2:(Dg.dg 4294967296 a.n).length≤200000000)(b5:(Dg.dg 4294967296 b.n).length≤200000000)
  (bl: -2000000000≤a.e) (bm:a.e≤2000000000) (bp: -2000000000≤b.e) (bq:b.e≤2000000000):
  Calls Tryz.prog 32 #[v,u] w (jN w (aG a b)):=by
 obtain⟨s0,rfl,ra⟩:=hv;obtain⟨T,Z,rfl⟩:=ra.shape;obtain⟨s1,rfl,rb⟩:=hu;obtain⟨W,cb,rfl⟩:=rb.shape;obtain⟨i,an,c⟩:=a;obtain⟨G,bn,d⟩:=b;simp only at ra rb b2 b5 bl bm bp bq⊢;have a7:Hid (∀f,Below w.heap.size w f→Calls Tryz.prog 67 #[.agg #[.bool i,.slice T (Dg.dg 4294967296 an).length Z,.int .i64 c],.int .i64 (min c d)] f (Num f (an*2^ (c-min c d).toNat))):=fun f b1=>
  Zm i T Z an c (min c d) f (ra.l b1) (by omega) (by omega) (by omega) (by omega) (by omega) (by omega)
 have a8:Hid (∀f,Below w.heap.size w f→Calls Tryz.prog 67 #[.agg #[.bool G,.slice W (Dg.dg 4294967296 bn).length cb,.int .i64 d],.int .i64 (min c d)] f (Num f (bn*2^ (d-min c d).toNat))):=fun f b1=>
  Zm G W cb bn d (min c d) f (rb.l b1) (by omega) (by omega) (by omega) (by omega) (by omega) (by omega)
 have lX:=CF an (c-min c d).toNat 200000000 325000001 b2 (by omega);have lY:=CF bn (d-min c d).toNat 200000000 325000001 b5 (by omega);unfold aG;simp only;obtain⟨X,hX⟩: ∃X,an*2^ (c-min c d).toNat=X:=⟨_,rfl⟩;obtain⟨Y,hY⟩: ∃Y,bn*2^ (d-min c d).toNat=Y:=⟨_,rfl⟩;obtain⟨ma,bh⟩: ∃m,(Dg.dg 4294967296 an).length=m:=⟨_,rfl⟩;obtain⟨mb,bi⟩: ∃m,(Dg.dg 4294967296 bn).length=m:=⟨_,rfl⟩;rw[hX] at a7 lX⊢;rw[hY] at a8 lY⊢;rw[bh] at a7⊢;rw[bi] at a8⊢;obtain⟨x,hx⟩: ∃x,min c d=x:=⟨_,rfl⟩;have HX:Hid _:=hx;have bj:Hid (∀j k f,Rd f .u32 j (Dg.dg 4294967296 X)→Rd f .u32 k (Dg.dg 4294967296 Y)→Calls Tryz.prog 68 #[j,k] f (Num f (X+Y))):=fun j k f h1 h2=>by
  have:=rj j k _ _ f h1 h2 (Dg.small_dg _ _ (by omega)) (Dg.small_dg _ _ (by omega)) (by omega) (by omega)
  rwa [Dg.vl_dg _ _ (by omega),Dg.vl_dg _ _ (by omega)] at this
 have az:Hid (∀j k f,Rd f .u32 j (Dg.dg 4294967296 X)→Rd f .u32 k (Dg.dg 4294967296 Y)→Calls Tryz.prog 69 #[j,k] f fun e w'=>e= .returned (.int .i64 (dm X Y))∧Below f.heap.size f w'):=fun j k f h1 h2=>by
  have:=jF j k _ _ f h1 h2 (Dg.small_dg _ _ (by omega)) (Dg.small_dg _ _ (by omega)) (Dg.norm_dg _ _ (by omega)) (Dg.norm_dg _ _ (by omega))
  rwa [Dg.vl_dg _ _ (by omega),Dg.vl_dg _ _ (by omega)] at this
 have bb:Hid (∀P Q j k f,P≤Q→(Dg.dg 4294967296 Q).length≤900000000→Rd f .u32 j (Dg.dg 4294967296 Q)→Rd f .u32 k (Dg.dg 4294967296 P)→Calls Tryz.prog 70 #[j,k] f (Num f (Q-P))):=fun P Q j k f bf hl h1 h2=>by
  have:=zL j k _ _ f h1 h2 (Dg.small_dg _ _ (by omega)) (Dg.small_dg _ _ (by omega)) (by omega) (aH _ _ _ (by omega) bf) (by rw[Dg.vl_dg _ _ (by omega),Dg.vl_dg _ _ (by omega)];exact bf)
  rwa [Dg.vl_dg _ _ (by omega),Dg.vl_dg _ _ (by omega)] at this
 clear hX hY bh bi hx ra rb b2 b5;obtain⟨A,hA⟩: ∃A,w.alloc (.cells #[.bool i,.slice T ma Z,.int .i64 c] 48)=A:=⟨_,rfl⟩;have J:=aA w (.bool i) (.slice T ma Z) (.int .i64 c) 48;have bA:=af w (.cells #[.bool i,.slice T ma Z,.int .i64 c] 48);have sA:A.heap.size=w.heap.size+1:=by rw[←hA,World.size_alloc]
 rw[hA] at J bA;obtain⟨B,hB⟩: ∃B,A.alloc (.cells #[.bool G,.slice W mb cb,.int .i64 d] 48)=B:=⟨_,rfl⟩;have I:=aA A (.bool G) (.slice W mb cb) (.int .i64 d) 48;have bB:=af A (.cells #[.bool G,.slice W mb cb,.int .i64 d] 48);have sB:B.heap.size=w.heap.size+1+1:=by rw[←hB,World.size_alloc,sA]
 rw[hB] at I bB;rw[sA] at I;have R:=aA B (.bool false) (.slice none 0 0) (.int .i64 0) 48;have bC:=af B (.cells #[.bool false,.slice none 0 0,.int .i64 0] 48);rw[sB] at R;have g:Below (B.alloc (.cells #[.bool false,.slice none 0 0,.int .i64 0] 48)).heap.size (B.alloc (.cells #[.bool false,.slice none 0 0,.int .i64 0] 48)) (B.alloc (.cells #[.bool false,.slice none 0 0,.int .i64 0] 48)).drew:=(Below.refl _ _).drew;have J:=((J.l bB).l bC).l g;have I:=(I.l bC).l g;have R:=R.l g;have O:=aa (aa (aa bA bB) bC) g;rw[←hB,←hA] at J I R O;clear bA bB bC g sA sB hA hB;have bt:w.heap.size+1+1≠w.heap.size:=by omega
 have bu:w.heap.size≠w.heap.size+1+1:=by omega
 by_cases hs:i=G
 ·subst hs
  rw[if_pos rfl]
  go_enter func32,ntmps32
  obtain⟨-,⟨ad,al,ap⟩,-⟩:=id J;obtain⟨-,⟨aq,ar,av⟩,-⟩:=id I
  go_wp2_with fail
  go_region_held3 (fun h=>(h.cell? ⟨w.heap.size,0,none⟩=some (.bool i)∧h.cell? ⟨w.heap.size,1,none⟩=some (.slice T ma Z)∧h.cell? ⟨w.heap.size,2,none⟩=some (.int .i64 c))∧h.cell? ⟨w.heap.size+1,0,none⟩=some (.bool i)∧h.cell? ⟨w.heap.size+1,1,none⟩=some (.slice W mb cb)∧h.cell? ⟨w.heap.size+1,2,none⟩=some (.int .i64 d)) (go_keep) (first
   | (go_at_call 67;refine(a7.out _ O).mono ?_;rintro z w3 ⟨j,rfl,o1,q⟩;have M:=J.l q;have N:=I.l q;have a2:=R.l q;have L:=aa O q;obtain⟨-,⟨p0,p1,p2⟩,-⟩:=id M;obtain⟨-,⟨p3,p4,p5⟩,-⟩:=id N;clear O)
   | (go_at_call 67;refine(a8.out _ L).mono ?_;rintro z w4 ⟨k,rfl,o2,o⟩;have E:=M.l o;have F:=N.l o;have K:=a2.l o;have S:=aa L o;obtain⟨-,⟨q0,q1,q2⟩,-⟩:=id E;obtain⟨-,⟨q3,q4,q5⟩,-⟩:=id F))
  clear J I R M N a2 p0 p1 p2 p3 p4 p5 ad al ap aq ar av L;have p:=(o1.l o).rd;have t:=o2.rd;clear o1 o2 q o;have g:Below w4.heap.size w4 w4.drew:=(Below.refl _ _).drew;have a0:=E.l g;have a1:=F.l g;have a3:=K.l g;have U:=aa S g;have p:=p.l g;have t:=t.l g;obtain⟨-,⟨c0,c1,c2⟩,-⟩:=id a0;obtain⟨-,⟨c3,c4,c5⟩,-⟩:=id a1;clear E F K g q0 q1 q2 q3 q4 q5
  go_wp2
  go_region_held3 (fun h=>h.cell? ⟨w.heap.size,0,none⟩=some (.bool i)) (go_keep) (first
   | (go_at_call 68;refine(bj.out j k _ p t).mono ?_;rintro z w6 ⟨vs,rfl,o6,H⟩;have a5:=a0.l H;have a6:=a1.l H;have ay:=a3.l H;have a9:=aa U H;obtain⟨C,y,ax⟩:=o6.rd.shape;subst ax;obtain⟨-,⟨t0,t1,t2⟩,-⟩:=id a5;clear p)
   | (go_at_call 64;refine(l9 i C _ y _ _).mono ?_;rintro z w7 ⟨rfl,s⟩;have b0:=a5.l s;have ba:=a6.l s;have a4:=ay.l s;have ac:=aa a9 s;obtain⟨-,⟨u0,u1,u2⟩,-⟩:=id b0;obtain⟨bc,⟨d0,d1,d2⟩,f0,f1,f2⟩:=id a4))
  all_goals go_wp2
  obtain⟨-,⟨g0,g1,g2⟩,-⟩:=aD a4 (.bool i) (.slice C (Dg.dg 4294967296 (X+Y)).length y) (.int .i64 (min c d));have o7:=(o6.l s).apart3 (b:=w.heap.size+1+1) a3.1 (.bool i) (.slice C (Dg.dg 4294967296 (X+Y)).length y) (.int .i64 (min c d));have b8:=am ac (show w.heap.size≤w.heap.size+1+1 by omega) (.bool i) (.slice C (Dg.dg 4294967296 (X+Y)).length y) (.int .i64 (min c d))
  refine bodyPost_ret (v:= .agg #[.bool i,.slice C (Dg.dg 4294967296 (X+Y)).length y,.int .i64 (min c d)]) (by simp[results,results32,go_sem,g0,g1,g2]) rfl ?_;exact⟨_,rfl,o7.lower U.size,b8⟩
 ·rw[if_neg hs]
  have bs:(i==G)=false:=by simp[hs]
  by_cases bg:X<Y
  ·rw[if_pos bg]
   rw[gX (by omega)] at az
   go_enter func32,ntmps32
   obtain⟨-,⟨ad,al,ap⟩,-⟩:=id J;obtain⟨-,⟨aq,ar,av⟩,-⟩:=id I
   go_wp2_with fail
   go_region_held3 (fun h=>(h.cell? ⟨w.heap.size,0,none⟩=some (.bool i)∧h.cell? ⟨w.heap.size,1,none⟩=some (.slice T ma Z)∧h.cell? ⟨w.heap.size,2,none⟩=some (.int .i64 c))∧h.cell? ⟨w.heap.size+1,0,none⟩=some (.bool G)∧h.cell? ⟨w.heap.size+1,1,none⟩=some (.slice W mb cb)∧h.cell? ⟨w.heap.size+1,2,none⟩=some (.int .i64 d)) (go_keep) (first
    | (go_at_call 67;refine(a7.out _ O).mono ?_;rintro z w3 ⟨j,rfl,o1,q⟩;have M:=J.l q;have N:=I.l q;have a2:=R.l q;have L:=aa O q;obtain⟨-,⟨p0,p1,p2⟩,-⟩:=id M;obtain⟨-,⟨p3,p4,p5⟩,-⟩:=id N;clear O)
    | (go_at_call 67;refine(a8.out _ L).mono ?_;rintro z w4 ⟨k,rfl,o2,o⟩;have E:=M.l o;have F:=N.l o;have K:=a2.l o;have S:=aa L o;obtain⟨-,⟨q0,q1,q2⟩,-⟩:=id E;obtain⟨-,⟨q3,q4,q5⟩,-⟩:=id F))
   clear J I R M N a2 p0 p1 p2 p3 p4 p5 ad al ap aq ar av L;have p:=(o1.l o).rd;have t:=o2.rd;clear o1 o2 q o
   go_wp2_with fail
   refine(az.out j k w4 p t).mono ?_;rintro z w9 ⟨rfl,D⟩;have E:=E.l D;have F:=F.l D;have K:=K.l D;have S:=aa S D;have p:=p.l D;have t:=t.l D;clear D;have g:Below w9.heap.size w9 w9.drew:=(Below.refl _ _).drew;have a0:=E.l g;have a1:=F.l g;have a3:=K.l g;have U:=aa S g;have p:=p.l g;have t:=t.l g;obtain⟨-,⟨c0,c1,c2⟩,-⟩:=id a0;obtain⟨-,⟨c3,c4,c5⟩,-⟩:=id a1;clear E F K g q0 q1 q2 q3 q4 q5
   go_wp2
   go_region_held3 (fun h=>h.cell? ⟨w.heap.size+1,0,none⟩=some (.bool G)) (go_keep) (first
    | (go_at_call 70;refine(bb.out X Y k j _ (by omega) (by omega) t p).mono ?_;rintro z w6 ⟨vs,rfl,o6,H⟩;have a5:=a0.l H;have a6:=a1.l H;have ay:=a3.l H;have a9:=aa U H;obtain⟨C,y,ax⟩:=o6.rd.shape;subst ax;obtain⟨-,⟨t0,t1,t2⟩,-⟩:=id a6;clear p)
    | (go_at_call 64;refine(l9 G C _ y _ _).mono ?_;rintro z w7 ⟨rfl,s⟩;have b0:=a5.l s;have ba:=a6.l s;have a4:=ay.l s;have ac:=aa a9 s;obtain⟨-,⟨u0,u1,u2⟩,-⟩:=id ba;obtain⟨bc,⟨d0,d1,d2⟩,f0,f1,f2⟩:=id a4))
   all_goals go_wp2
   obtain⟨-,⟨g0,g1,g2⟩,-⟩:=aD a4 (.bool G) (.slice C (Dg.dg 4294967296 (Y-X)).length y) (.int .i64 (min c d));have o7:=(o6.l s).apart3 (b:=w.heap.size+1+1) a3.1 (.bool G) (.slice C (Dg.dg 4294967296 (Y-X)).length y) (.int .i64 (min c d));have b8:=am ac (show w.heap.size≤w.heap.size+1+1 by omega) (.bool G) (.slice C (Dg.dg 4294967296 (Y-X)).length y) (.int .i64 (min c d))
   refine bodyPost_ret (v:= .agg #[.bool G,.slice C (Dg.dg 4294967296 (Y-X)).length y,.int .i64 (min c d)]) (by simp[results,results32,go_sem,g0,g1,g2]) rfl ?_;exact⟨_,rfl,o7.lower U.size,b8⟩
  ·rw[if_neg bg]
   have hd:=abX (a:=(X:Int)) (b:=(Y:Int)) (by omega);obtain⟨r,hr⟩: ∃r,dm X Y=r:=⟨_,rfl⟩;rw[hr] at hd az;clear hr
   go_enter func32,ntmps32
   obtain⟨-,⟨ad,al,ap⟩,-⟩:=id J;obtain⟨-,⟨aq,ar,av⟩,-⟩:=id I
   go_wp2_with fail
   go_region_held3 (fun h=>(h.cell? ⟨w.heap.size,0,none⟩=some (.bool i)∧h.cell? ⟨w.heap.size,1,none⟩=some (.slice T ma Z)∧h.cell? ⟨w.heap.size,2,none⟩=some (.int .i64 c))∧h.cell? ⟨w.heap.size+1,0,none⟩=some (.bool G)∧h.cell? ⟨w.heap.size+1,1,none⟩=some (.slice W mb cb)∧h.cell? ⟨w.heap.size+1,2,none⟩=some (.int .i64 d)) (go_keep) (first
    | (go_at_call 67;refine(a7.out _ O).mono ?_;rintro z w3 ⟨j,rfl,o1,q⟩;have M:=J.l q;have N:=I.l q;have a2:=R.l q;have L:=aa O q;obtain⟨-,⟨p0,p1,p2⟩,-⟩:=id M;obtain⟨-,⟨p3,p4,p5⟩,-⟩:=id N;clear O)
    | (go_at_call 67;refine(a8.out _ L).mono ?_;rintro z w4 ⟨k,rfl,o2,o⟩;have E:=M.l o;have F:=N.l o;have K:=a2.l o;have S:=aa L o;obtain⟨-,⟨q0,q1,q2⟩,-⟩:=id E;obtain⟨-,⟨q3,q4,q5⟩,-⟩:=id F))
   clear J I R M N a2 p0 p1 p2 p3 p4 p5 ad al ap aq ar av L;have p:=(o1.l o).rd;have t:=o2.rd;clear o1 o2 q o
   go_wp2_with fail
   refine(az.out j k w4 p t).mono ?_;rintro z w9 ⟨rfl,D⟩;have E:=E.l D;have F:=F.l D;have K:=K.l D;have S:=aa S D;have p:=p.l D;have t:=t.l D;clear D;have g:Below w9.heap.size w9 w9.drew:=(Below.refl _ _).drew;have a0:=E.l g;have a1:=F.l g;have a3:=K.l g;have U:=aa S g;have p:=p.l g;have t:=t.l g;obtain⟨-,⟨c0,c1,c2⟩,-⟩:=id a0;obtain⟨-,⟨c3,c4,c5⟩,-⟩:=id a1;clear E F K g q0 q1 q2 q3 q4 q5
   go_wp2
   go_region_held3 (fun h=>h.cell? ⟨w.heap.size,0,none⟩=some (.bool i)) (go_keep) (first
    | (go_at_call 70;refine(bb.out Y X j k _ (by omega) (by omega) p t).mono ?_;rintro z w6 ⟨vs,rfl,o6,H⟩;have a5:=a0.l H;have a6:=a1.l H;have ay:=a3.l H;have a9:=aa U H;obtain⟨C,y,ax⟩:=o6.rd.shape;subst ax;obtain⟨-,⟨t0,t1,t2⟩,-⟩:=id a5;clear p)
    | (go_at_call 64;refine(l9 i C _ y _ _).mono ?_;rintro z w7 ⟨rfl,s⟩;have b0:=a5.l s;have ba:=a6.l s;have a4:=ay.l s;have ac:=aa a9 s;obtain⟨-,⟨u0,u1,u2⟩,-⟩:=id b0;obtain⟨bc,⟨d0,d1,d2⟩,f0,f1,f2⟩:=id a4))
   all_goals go_wp2
   obtain⟨-,⟨g0,g1,g2⟩,-⟩:=aD a4 (.bool i) (.slice C (Dg.dg 4294967296 (X-Y)).length y) (.int .i64 (min c d));have o7:=(o6.l s).apart3 (b:=w.heap.size+1+1) a3.1 (.bool i) (.slice C (Dg.dg 4294967296 (X-Y)).length y) (.int .i64 (min c d));have b8:=am ac (show w.heap.size≤w.heap.size+1+1 by omega) (.bool i) (.slice C (Dg.dg 4294967296 (X-Y)).length y) (.int .i64 (min c d))
   refine bodyPost_ret (v:= .agg #[.bool i,.slice C (Dg.dg 4294967296 (X-Y)).length y,.int .i64 (min c d)]) (by simp[results,results32,go_sem,g0,g1,g2]) rfl ?_;exact⟨_,rfl,o7.lower U.size,b8⟩
end Go.Proofs.YthhiidikgchdeabGreatDoor
