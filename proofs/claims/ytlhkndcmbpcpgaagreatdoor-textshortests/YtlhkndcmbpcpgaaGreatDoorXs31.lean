/- Texts laid together. -/
import Derived.Test.YtlhkndcmbpcpgaaGreatDoorXs23
import Derived.Test.YtlhkndcmbpcpgaaGreatDoorXs30
set_option maxRecDepth 100000
set_option maxHeartbeats 3200000
namespace Go.Proofs.YtlhkndcmbpcpgaaGreatDoor
open _root_.Go.Proofs.Tryz
open Go.RowKit
theorem adk {K:Nat}{a:ak}{e:Int}(b: -(K:Int)≤e)(c:e≤a.e):V K a=sz a.s (a.n*2^ (a.e-e).toNat)*((2^ (e+K).toNat:Nat):Int):=by
 rw[eV,Y5,Nat.mul_assoc,←Nat.pow_add];have:(a.e+K).toNat=(a.e-e).toNat+(e+K).toNat:=by omega
 rw[this]
theorem dH {K:Nat}{a b:ak}(d: -(K:Int)≤a.e)(f: -(K:Int)≤b.e):V K (aG a b)=V K a+V K b:=by
 have c: -(K:Int)≤min a.e b.e:=by omega
 rw[adk c (Int.min_le_left a.e b.e),adk c (Int.min_le_right a.e b.e),←Int.add_mul,Y6];unfold aG V;simp only
 split
 ·rfl
 ·split<;>rfl
theorem acz {K:Nat}{a:ak}{e:Int}(c: -(K:Int)≤e)(b:a.n=0∨e≤a.e):V K a=sz a.s (a.n*2^ (max 0 (a.e-e)).toNat)*((2^ (e+K).toNat:Nat):Int):=by
 rcases b with b|b
 ·rw[eV,b,Nat.zero_mul,Nat.zero_mul];simp[sz]
 ·rw[adk c b]
  have:max 0 (a.e-e)=a.e-e:=by omega
  rw[this]
theorem zx {K:Nat}{a b:ak}(i: -(K:Int)≤a.e)(j: -(K:Int)≤b.e):V K (cO a b)=V K a+V K b:=by
 obtain⟨e,c⟩: ∃e,(if b.n=0 then a.e else if a.n=0 then b.e else min a.e b.e)=e:=⟨_,rfl⟩
 have d: -(K:Int)≤e:=by rw[←c];split<;>(try split)<;>omega
 have g:a.n=0∨e≤a.e:=by
  rw[←c]
  by_cases x:b.n=0
  ·rw[if_pos x];exact .inr (Int.le_refl _)
  ·rw[if_neg x]
   by_cases y:a.n=0
   ·exact .inl y
   ·rw[if_neg y];exact .inr (Int.min_le_left _ _)
 have h:b.n=0∨e≤b.e:=by
  rw[←c]
  by_cases x:b.n=0
  ·exact .inl x
  ·rw[if_neg x]
   by_cases y:a.n=0
   ·rw[if_pos y];exact .inr (Int.le_refl _)
   ·rw[if_neg y];exact .inr (Int.min_le_right _ _)
 rw[acz d g,acz d h,←Int.add_mul,Y6];unfold cO V;simp only[c]
 split
 ·rfl
 ·by_cases f:b.n*2^ (max 0 (b.e-e)).toNat≤a.n*2^ (max 0 (a.e-e)).toNat
  ·rw[if_pos f,if_neg (by omega)]
  ·rw[if_neg f,if_pos (by omega)]
theorem zy {K:Nat}{a b:ak}(i: -(K:Int)≤a.e)(j: -(K:Int)≤b.e): -(K:Int)≤(cO a b).e:=by
 obtain⟨e,f⟩: ∃e,(if b.n=0 then a.e else if a.n=0 then b.e else min a.e b.e)=e:=⟨_,rfl⟩
 have g: -(K:Int)≤e:=by rw[←f];split<;>(try split)<;>omega
 have h:(cO a b).e=e:=by
  unfold cO;simp only[f]
  by_cases c:a.s=b.s
  ·rw[if_pos c]
  ·rw[if_neg c]
   by_cases d:b.n*2^ (max 0 (b.e-e)).toNat≤a.n*2^ (max 0 (a.e-e)).toNat
   ·rw[if_pos d]
   ·rw[if_neg d]
 rw[h];exact g
theorem pC (K:Nat)(a:ak):V K (dV a)= -V K a:=by
 unfold V dV sz
 cases a.s<;>simp[Int.neg_mul]
theorem Di (K:Nat)(a:ak):sgn (V K a)=if a.n=0 then 0 else if a.s then-1 else 1:=by
 rw[eV];have c:0<2^ (a.e+K).toNat:=Nat.pow_pos (by omega)
 by_cases h:a.n=0
 ·rw[if_pos h,h,Nat.zero_mul];simp[sz,sgn]
 ·rw[if_neg h]
  have b:0<a.n*2^ (a.e+K).toNat:=Nat.mul_pos (by omega) c;generalize a.n*2^ (a.e+K).toNat=q at b;unfold sz sgn
  cases a.s
  ·simp;omega
  ·simp;omega
theorem NT (R D L G:Int)(gr qs:Bool)(no:Option Addr)(c:Nat)(b:Option Addr)(a:Nat)(N M:Nat)(E way:Int)(w:World)(j:bk R D L G=0)(k:iC way=true)
  (h:Rd w .i64 (yS no N c) (Dg.dg 65536 N)) (i:Rd w .i64 (yS b M a) (Dg.dg 65536 M)) (d:(Dg.dg 65536 N).length≤20000) (e:(Dg.dg 65536 M).length≤20000) (g:N≠0) (f:M≠0) (l: -20000≤E) (m:E≤20000):
  yC 61 #[yrV qs (yS no N c) (yS b M a) E,ygV R D L G gr,yi way] w (GT w (cI R D L G gr qs N M E way)):=by
 have o:=vR d;have n:=vR e;exact KU R D L G gr qs no c b a N M E way w j k h i d e g f (by omega) (by omega) (by omega) (by omega)
theorem M9 {xs a:List Nat}{E R D L G way:Int}(h: ¬eA xs a E=0):eE xs a E R D L G way=eA xs a E:=by
 have e:jg (eA xs a E) (bk R D L G)=eA xs a E:=if_neg h;unfold eE;rw[e,if_neg h]
theorem Na {xs a:List Nat}{E R D L G way:Int}(h:eA xs a E=0)(b: ¬bk R D L G=0):eE xs a E R D L G way=bk R D L G:=by
 have e:jg (eA xs a E) (bk R D L G)=bk R D L G:=if_pos h;unfold eE;rw[e,if_neg b]
theorem S5 {k:Nat}(s:ByteArray):aR k s<2^exN k:=gh _ _ _
theorem GM {k:Nat}(a:1≤k∧k≤8)(s:ByteArray):aR k s<65536:=by
 have b:=S5 (k:=k) s;have c:(2:Nat)^exN k≤2^15:=Nat.pow_le_pow_right (by omega) (fZ a).2.1;omega
theorem S6 {k:Nat}(s:ByteArray):aU k s<2^frN k:=gh _ _ _
theorem vW {k:Nat}(a:1≤k∧k≤8)(s:ByteArray):aU k s<18446744073709551616:=by
 have b:=S6 (k:=k) s;have c:(2:Nat)^frN k≤2^64:=Nat.pow_le_pow_right (by omega) (fZ a).2.2.2.1;omega
theorem CB (a b:ak):dJ (aG a (dV b))=sgn (V (a.e.natAbs+b.e.natAbs) a-V (a.e.natAbs+b.e.natAbs) b):=by
 have f: -((a.e.natAbs+b.e.natAbs:Nat):Int)≤a.e:=by omega
 have g: -((a.e.natAbs+b.e.natAbs:Nat):Int)≤(dV b).e:=by show _≤b.e;omega
 have c:=dH f g;rw[pC] at c;have d:=Di (a.e.natAbs+b.e.natAbs) (aG a (dV b));rw[c] at d;unfold dJ;rw[←d]
 congr 1
theorem tRatio_err (h:Int)(ng:Bool)(n:ByteArray)(p:Int)(q:ByteArray)(w:World)(z: ¬h=0)
  (a:yH w 106 #[.string q] (.tuple #[.agg #[.bool ng,.string n,yi p],yi h])):
  yC 65 #[.string q] w (yR w (.tuple #[yrV false yN yN 0,yi h])):=by
 replace a:Hid _:=a;obtain⟨y,c,o,e⟩:=cA w (yrL false yN yN 0) 128;replace c:Hid _:=c
 go_enter func65,ntmps65
 go_upto_region 1 with fail
 rw[c.out];clear c
 go_wp2_with fail
 refine(a.out _ e).mono ?_;rintro K r ⟨rfl,g⟩;have k:=o.l g;have f:=aa e g;clear o e g a;obtain⟨x,b,v,d⟩:=cA r [.bool ng,.string n,yi p] 170;replace b:Hid _:=b;have A:w.heap.size≤r.heap.size:=f.size;have B:=k.lt;have j:=k.l d;have m:=aa f d;clear k f d v
 go_upto_region 2 with fail
 rw[b.out];clear b;have i:=afz (P:=Tryz.prog) j m (by omega) underlying128 rfl (by kernel_rfl) (.bool false) yN yN (yi 0);have s:Hid (_∧_):=⟨i.1,i.2.1⟩;obtain⟨⟨G,H,I,J⟩,C,D,E,F⟩:=afB j;clear i j m
 go_wp2
 obtain⟨u,t⟩:=s.out;exact bodyPost_ret (aj results65 rfl rfl u) rfl ⟨rfl,t⟩
theorem tRatio_ok (x:Bool)(a b:Nat)(t:Int)(ng:Bool)(s:ByteArray)(p:Int)(D:ByteArray)(w:World)
  (e:yH w 106 #[.string D] (.tuple #[.agg #[.bool ng,.string s,yi p],yi 0]))
  (f: ∀y,yB w y→yC 107 #[.agg #[.bool ng,.string s,yi p]] y (RtR y x a b t)):
  yC 65 #[.string D] w (RtE w x a b t 0):=by
 replace e:Hid _:=e;replace f:Hid _:=f;obtain⟨U,h,A,n⟩:=cA w (yrL false yN yN 0) 128;replace h:Hid _:=h
 go_enter func65,ntmps65
 go_upto_region 1 with fail
 rw[h.out];clear h
 go_wp2_with fail
 refine(e.out _ n).mono ?_;rintro S E ⟨rfl,r⟩;have v:=A.l r;have o:=aa n r;clear A n r e;obtain⟨T,g,B,k⟩:=cA E [.bool ng,.string s,yi p] 170;replace g:Hid _:=g;have W:w.heap.size≤E.heap.size:=o.size;have X:=v.lt;have C:=v.l k;have m:=aa o k;clear v o k
 go_upto_region 2 with fail
 rw[g.out];clear g;obtain⟨L,M,N⟩:=B.cs3
 go_wp2_with fail
 refine(f.out _ m).mono ?_;rintro S a0 ⟨Y,Z,rfl,i,j,q⟩;have d:=C.l q;have z:=aa m q;obtain⟨H,G,u⟩:=i.shape;subst u;obtain⟨K,J,u⟩:=j.shape;subst u;clear C B m q f L M N;have c:=afz (P:=Tryz.prog) d z (by omega) underlying128 rfl (by kernel_rfl) (.bool x) (yT H a G) (yT K b J) (yi t);have F:Hid (_∧_∧_∧_):=⟨c.1,c.2.2.rd i (aX i d (by simp)),c.2.2.rd j (aX j d (by simp)),c.2.1⟩;obtain⟨⟨z0,z1,z2,z3⟩,y0,y1,y2,y3⟩:=afB d;clear c d i j z
 go_wp2
 obtain⟨O,Q,R,I⟩:=F.out;exact bodyPost_ret (aj results65 rfl rfl O) rfl ⟨_,_,rfl,Q,R,I⟩
theorem tparse_err (f n way g:Int)(l:ByteArray)(w:World)(t:(f==0)=false)(s: ¬g=0)
  (b:yJ 64 #[yi n] (yi f))
  (a:yH w 65 #[.string l] (.tuple #[yrV false yN yN 0,yi g])):
  yC 30 #[yi n,.string l,yi way] w (yR w (.tuple #[.string ⟨#[]⟩,yi 0,yi g])):=by
 replace b:Hid _:=b;replace a:Hid _:=a
 go_enter func30,ntmps30
 have i:=Below.refl w.heap.size w
 go_wp2_with fail
 refine(b.out _).mono ?_;rintro q v ⟨rfl,j⟩;have d:=aa i j;clear i j b
 go_wp2_with fail
 refine(a.out _ d).mono ?_;rintro q m ⟨rfl,k⟩;have e:=aa d k;clear d k a;obtain⟨r,c,p,h⟩:=cA m (yrL false yN yN 0) 128;replace c:Hid _:=c;have u:w.heap.size≤m.heap.size:=e.size;have o:=aa e h;clear e h p
 go_upto_region 4 with fail
 rw[c.out];clear c
 go_wp2
 go_ret3
 exact⟨rfl,o⟩
theorem tparse_ok (f n way fl C s:Int)(u:Bool)(a b:Nat)(H G:ByteArray)(w:World)(Q:(f==0)=false)
  (g:yJ 64 #[yi n] (yi f))
  (e: ∀c,yB w c→yC 65 #[.string H] c (RtE c u a b s 0))
  (d: ∀j h m k c,yB w c→Rd c .u32 (yT j a h) (Dg.dg 4294967296 a)→Rd c .u32 (yT m b k) (Dg.dg 4294967296 b)→yC 66 #[yi n,yrV u (yT j a h) (yT m b k) s,yi way] c (yR c (.tuple #[.string G,yi fl,yi C]))):
  yC 30 #[yi n,.string H,yi way] w (yR w (.tuple #[.string G,yi fl,yi C])):=by
 replace g:Hid _:=g;replace e:Hid _:=e;replace d:Hid _:=d
 go_enter func30,ntmps30
 have y:=Below.refl w.heap.size w
 go_wp2_with fail
 refine(g.out _).mono ?_;rintro J c ⟨rfl,z⟩;have r:=aa y z;clear y z g
 go_wp2_with fail
 refine(e.out _ r).mono ?_;rintro J I ⟨S,T,rfl,v,x,B⟩;have p:=aa r B;obtain⟨j,h,t⟩:=v.shape;subst t;obtain⟨m,k,t⟩:=x.shape;subst t;clear r B e;obtain⟨P,o,D,i⟩:=cA I (yrL u (yT j a h) (yT m b k) s) 128;replace o:Hid _:=o;have R:w.heap.size≤I.heap.size:=p.size;have E:=v.l i;have F:=x.l i;have q:=aa p i;clear v x p i
 go_upto_region 4 with fail
 rw[o.out];clear o;obtain⟨L,M,N,O⟩:=D.cs4
 go_wp2_with fail
 refine(d.out _ _ _ _ _ q E F).mono ?_;rintro J U ⟨rfl,A⟩;have K:=aa q A;clear D E F q A d L M N O
 go_wp2
 go_ret3
 exact⟨rfl,K⟩
abbrev H6:=codecRead_len_mg.1
abbrev GA:=codecRead_len_mg.2
theorem Xt (n:Int)(R sz j:Nat)(D L G k:Int)(gr:Bool)(F:Nat)(ng:Bool)(e f:Nat)(c:Int)(b:Bool)(m:Nat)(p:Int)(s:ByteArray)(w:World)
  (C:yJ 67 #[yi n,.string s] (.tuple #[ylV R D L G gr sz j k F,yfV ng e f,yi 0]))
  (E: ∀h,yC 68 #[ylV R D L G gr sz j k F,yfV ng e f] h (iT h c b m p)):
  yC 32 #[yi n,.string s] w (eP w c b m p 0):=by
 have Z:=cD;have U:Hid _:=C;have W:Hid _:=E;have O:=ah w (yvL 0 false yN 0) 39;have H:=af w (.cells (yvA 0 false yN 0) 39);clear C E
 go_enter func32,ntmps32
 go_wp2_with fail
 refine(U.out _).mono ?_;rintro z h ⟨rfl,t⟩;have A:=af h (.cells (ylA R D L G gr sz j k F) 93);have y:=af (h.alloc (.cells (ylA R D L G gr sz j k F) 93)) (.cells (yfA ng e f) 134);have Q:=((O.l t).l A).l y;have J:=aa (aa (aa H t) A) y
 go_wp2_with fail
 refine(W.out _).mono ?_;rintro z S ⟨v,rfl,q,u⟩;obtain⟨g,d,X⟩:=q.shape;subst X;have a:=Q.l u;have I:=aa J u;have N:=cq q (Dg.norm_dg _ _ (by omega)) a (fun x M n Y=>by simp at M;rcases M with rfl|rfl|rfl|rfl<;>simp)
 have B:=(((ag S w.heap.size 0 (yi c)).trans (ag _ w.heap.size 1 (.bool b))).trans (ag _ w.heap.size 2 (yT g m d))).trans (ag _ w.heap.size 3 (yi p));have K:au ((((S.setCell ⟨w.heap.size,0,none⟩ (yi c)).setCell ⟨w.heap.size,1,none⟩ (.bool b)).setCell ⟨w.heap.size,2,none⟩ (yT g m d)).setCell ⟨w.heap.size,3,none⟩ (yi p)) w.heap.size 39 (yvL c b (yT g m d) p):=((((a.set 0 (yi c)).set 1 (.bool b)).set 2 (yT g m d)).set 3 (yi p));have i:=B.below I (Nat.le_refl _);have r:=B.rd q N;have o:=run_loadVar_mid (P:=Tryz.prog) _ w.heap.size 0 39 (yvL c b (yT g m d) p) _ K.range underlying39 rfl (by kernel_rfl);have T:Hid (_∧_∧_):=⟨o,r,i⟩;obtain⟨x0,x1,x2,x3⟩:=a.cs4;have j0:=a.f 0;have j1:=a.f 1;have j2:=a.f 2;have j3:=a.f 3;clear o i r K B N a I q u Q J A y t O H
 go_wp2
 obtain⟨o,r,i⟩:=T.out;exact bodyPost_ret (aj results32 rfl rfl o) rfl ⟨_,rfl,r,i⟩
theorem Pk (n:Int)(e:Int)(r:e≠0)(s:ByteArray)(w:World)
  (k:yJ 67 #[yi n,.string s] (.tuple #[yzV 0 0 0 0 false 0 0 0,yfV false 0 0,yi e])):
  yC 32 #[yi n,.string s] w (eP w 0 false 0 0 e):=by
 have A:=gn;have u:Hid _:=k;have h:=ah w (yvL 0 false yN 0) 39;have m:=af w (.cells (yvA 0 false yN 0) 39);have v:(e==0)=false:=by simpa using r
 clear k r
 go_enter func32,ntmps32
 go_wp2_with fail
 refine(u.out _).mono ?_;rintro z b ⟨rfl,c⟩;have j:=af b (.cells (yzA 0 0 0 0 false 0 0 0) 93);have i:=af (b.alloc (.cells (yzA 0 0 0 0 false 0 0 0) 93)) (.cells (yfA false 0 0) 134);have a:=((h.l c).l j).l i;have o:=aa (aa (aa m c) j) i;have p:=(((ag ((b.alloc (.cells (yzA 0 0 0 0 false 0 0 0) 93)).alloc (.cells (yfA false 0 0) 134)) w.heap.size 0 (yi 0)).trans (ag _ w.heap.size 1 (.bool false))).trans (ag _ w.heap.size 2 yN)).trans (ag _ w.heap.size 3 (yi 0));have q:au ((((((b.alloc (.cells (yzA 0 0 0 0 false 0 0 0) 93)).alloc (.cells (yfA false 0 0) 134)).setCell ⟨w.heap.size,0,none⟩ (yi 0)).setCell ⟨w.heap.size,1,none⟩ (.bool false)).setCell ⟨w.heap.size,2,none⟩ yN).setCell ⟨w.heap.size,3,none⟩ (yi 0)) w.heap.size 39 (yvL 0 false yN 0):=((((a.set 0 (yi 0)).set 1 (.bool false)).set 2 yN).set 3 (yi 0));have d:=p.below o (Nat.le_refl _);have g:=run_loadVar_mid (P:=Tryz.prog) _ w.heap.size 0 39 (yvL 0 false yN 0) _ q.range underlying39 rfl (by kernel_rfl);have t:Hid (_∧_):=⟨g,d⟩;have x:b.heap.size≠w.heap.size:=Nat.ne_of_gt (h.l c).lt;have y:b.heap.size+1≠w.heap.size:=by have:=(h.l c).lt;omega
 obtain⟨F,G,H,I⟩:=a.cs4;have B:=a.f 0;have C:=a.f 1;have D:=a.f 2;have E:=a.f 3;clear g d q p a o j i c h m
 go_wp2
 obtain⟨g,d⟩:=t.out;exact bodyPost_ret (aj results32 rfl rfl g) rfl ⟨_,rfl,aN _ _,d⟩
theorem tA (n:Int)(s:ByteArray)(w:World)(h:dF n s≠0):
  yC 67 #[yi n,.string s] w (yR w (.tuple #[yzV 0 0 0 0 false 0 0 0,yfV false 0 0,yi (dF n s)])):=by
 unfold dF at h⊢
 by_cases a:dK n=0
 ·rw[if_pos a]
  exact GA n s w (fun e=>lR n e a)
 ·rw[if_neg a] at h⊢
  obtain⟨b,c,g⟩:=fF a;obtain⟨k,rfl⟩: ∃k:Nat,n=(k:Int):=⟨n.toNat,g.symm⟩;rw[Int.toNat_natCast] at h b c⊢
  by_cases d:s.size=szN k
  ·rw[if_pos d] at h
   omega
  ·rw[if_neg d]
   have f:=fun e=>pU k ⟨b,c⟩ e
   rcases bO ⟨b,c⟩ with rfl|rfl|rfl|rfl|rfl|rfl|rfl|rfl
   all_goals exact H6 _ _ _ _ _ _ _ _ _ _ s w d f
theorem IY (R D L G c p er:Int)(gr ng:Bool)(b:Option Addr)(g d:Nat)(t:ak)(w:World)
  (q: ∀j,yB w j→yC 69 #[ypV ng (.slice b g d) p false false false,ygV R D L G gr] j (gR j (t,er))):
  yC 33 #[yvV c ng (.slice b g d) p,ygV R D L G gr] w (acy w t):=by
 replace q:Hid _:=q;have Q:=af w (.cells (yvA c ng (.slice b g d) p) 39);have I:=af (w.alloc (.cells (yvA c ng (.slice b g d) p) 39)) (.cells (ygA R D L G gr) 54);have x:=af ((w.alloc (.cells (yvA c ng (.slice b g d) p) 39)).alloc (.cells (ygA R D L G gr) 54)) (.cells (ydA false yN 0) 41);have N:=((ah w (yvL c ng (.slice b g d) p) 39).l I).l x;have y:=(ah (w.alloc (.cells (yvA c ng (.slice b g d) p) 39)) (ygL R D L G gr) 54).l x;have o:=ah ((w.alloc (.cells (yvA c ng (.slice b g d) p) 39)).alloc (.cells (ygA R D L G gr) 54)) (ydL false yN 0) 41;have m:=aa (aa Q I) x;rw[World.size_alloc] at y;rw[World.size_alloc,World.size_alloc] at o;clear Q I x
 go_enter func33,ntmps33
 go_upto_region 1 with fail
 generalize((w.alloc (.cells (yvA c ng (.slice b g d) p) 39)).alloc (.cells (ygA R D L G gr) 54)).alloc (.cells (ydA false yN 0) 41)=W0 at N y o m⊢;obtain⟨Y,Z,a2,a3⟩:=N.cs4;obtain⟨T,U,W,y3,y4⟩:=y.cs5
 go_wp2_with fail
 refine(q.out _ m).mono ?_;rintro z j ⟨sv,rfl,B,r⟩;obtain⟨i,h,K⟩:=B.rd.shape;subst K;have M:=B.rd;have fa:Far w.heap.size (yT i t.n h):=fun a n c K=>Nat.le_trans m.size (JH B a n c K)
 simp only at M⊢;clear B q Y Z a2 a3 T U W y3 y4 N y;have v:=af j (.cells (yDA t i h) 41);have C:=ah j (yDL t i h) 41;have E:=M.l v;have k:=(o.l r).l v;have H:=aa (aa m r) v;have a4:w.heap.size+1+1<j.heap.size:=(o.l r).lt
 go_upto_region 2 with fail
 generalize j.alloc (.cells (yDA t i h) 41)=O at C E k H⊢;generalize j.heap.size=PQ at C a4⊢;have S:au (((O.setCell ⟨w.heap.size+1+1,0,none⟩ (.bool t.s)).setCell ⟨w.heap.size+1+1,1,none⟩ (yT i t.n h)).setCell ⟨w.heap.size+1+1,2,none⟩ (yi t.e)) (w.heap.size+1+1) 41 (yDL t i h):=(((k.set 0 (.bool t.s)).set 1 (yT i t.n h)).set 2 (yi t.e));have J:=((ag O (w.heap.size+1+1) 0 (.bool t.s)).trans (ag _ (w.heap.size+1+1) 1 (yT i t.n h))).trans (ag _ (w.heap.size+1+1) 2 (yi t.e));have u:=J.below H (by omega);have F:=J.rd E (aX E k (by simp));have A:=run_loadVar_mid (P:=Tryz.prog) _ (w.heap.size+1+1) 0 41 (yDL t i h) _ S.range underlying41 rfl (by kernel_rfl);have X:Hid (_∧_∧_):=⟨A,F,u⟩;obtain⟨u0,u1,u2⟩:=k.cs3;have f0:=k.f 0;have f1:=k.f 1;have f2:=k.f 2;obtain⟨T,U,W⟩:=C.cs3;clear A u F J S H E M r v m o k C
 go_wp2
 obtain⟨A,F,u⟩:=X.out;exact bodyPost_ret (br results33 rfl A) rfl ⟨_,rfl,F,fa,u⟩
theorem tShort_err (h:Int)(n c p:Int)(g:Bool)(M:Nat)(x:ak)(s:ByteArray)(w:World)(A: ¬h=0)
  (b: ∀a,yB w a→yC 9 #[yi n,.string s] a (Ys a c g M p x h)):
  yC 4 #[yi n,.string s] w (yR w (.tuple #[.string ⟨#[]⟩,yi h])):=by
 replace b:Hid _:=b
 go_enter func4,ntmps4
 have e:=Below.refl w.heap.size w
 go_wp2_with fail
 refine(b.out _ e).mono ?_;rintro E a ⟨C,D,rfl,l,m,-,k⟩;have f:=aa e k;obtain⟨u,t,i⟩:=l.shape;subst i;obtain⟨y,v,i⟩:=m.shape;subst i;clear e k b;obtain⟨z,d,q,r,j⟩:=iG a (yvL c g (yT u M t) p) 39 (yDL x y v) 41;replace d:Hid _:=d;have B:w.heap.size≤a.heap.size:=f.size;have o:=aa f j;clear l m f j q r
 go_upto_region 2 with fail
 rw[d.out];clear d
 go_wp2
 go_ret2
 exact⟨rfl,o⟩
theorem tShort_word (v:ByteArray)(n c p:Int)(g:Bool)(M:Nat)(x:ak)(s:ByteArray)(w:World)
  (b: ∀a,yB w a→yC 9 #[yi n,.string s] a (Ys a c g M p x 0))
  (d: ∀k j a,yC 10 #[yvV c g (yT k M j) p] a (yR a (.tuple #[.string v,.bool true]))):
  yC 4 #[yi n,.string s] w (yR w (.tuple #[.string v,yi 0])):=by
 replace b:Hid _:=b;replace d:Hid _:=d
 go_enter func4,ntmps4
 have f:=Below.refl w.heap.size w
 go_wp2_with fail
 refine(b.out _ f).mono ?_;rintro G a ⟨J,K,rfl,t,u,-,o⟩;have h:=aa f o;obtain⟨k,j,i⟩:=t.shape;subst i;obtain⟨F,E,i⟩:=u.shape;subst i;clear f o b;obtain⟨H,e,r,D,l⟩:=iG a (yvL c g (yT k M j) p) 39 (yDL x F E) 41;replace e:Hid _:=e;have I:w.heap.size≤a.heap.size:=h.size;have m:=aa h l;clear t u h l D
 go_upto_region 2 with fail
 rw[e.out];clear e;obtain⟨z,A,B,C⟩:=r.cs4
 go_wp2_with fail
 refine(d.out _ _ _).mono ?_;rintro G L ⟨rfl,q⟩;have y:=aa m q;clear r m q d z A B C
 go_wp2
 go_ret2
 exact⟨rfl,y⟩
theorem tShort_enc (r:Int)(R md:ByteArray)(n c p:Int)(g:Bool)(M:Nat)(x:ak)(s:ByteArray)(w:World)(W: ¬r=0)
  (f: ∀a,yB w a→yC 9 #[yi n,.string s] a (Ys a c g M p x 0))
  (h: ∀d b a,yC 10 #[yvV c g (yT d M b) p] a (yR a (.tuple #[.string R,.bool false])))
  (e: ∀d b a,yB w a→Rd a .u32 (yT d M b) (Dg.dg 4294967296 M)→yC 11 #[yi n,yvV c g (yT d M b) p] a (yR a (.tuple #[.string md,yi r]))):
  yC 4 #[yi n,.string s] w (yR w (.tuple #[.string ⟨#[]⟩,yi r])):=by
 replace f:Hid _:=f;replace h:Hid _:=h;replace e:Hid _:=e
 go_enter func4,ntmps4
 have m:=Below.refl w.heap.size w
 go_wp2_with fail
 refine(f.out _ m).mono ?_;rintro F a ⟨Y,Z,rfl,v,E,-,z⟩;have q:=aa m z;obtain⟨d,b,t⟩:=v.shape;subst t;obtain⟨T,S,t⟩:=E.shape;subst t;clear m z f;obtain⟨U,j,u,Q,k⟩:=iG a (yvL c g (yT d M b) p) 39 (yDL x T S) 41;replace j:Hid _:=j;have X:w.heap.size≤a.heap.size:=q.size;have C:=v.l k;have y:=aa q k;clear v E q k Q
 go_upto_region 2 with fail
 rw[j.out];clear j;obtain⟨H,I,J,K⟩:=u.cs4
 go_wp2_with fail
 refine(h.out _ _ _).mono ?_;rintro F a0 ⟨rfl,i⟩;have B:=u.l i;have D:=C.l i;have o:=aa y i;clear u C y i h H I J K;obtain⟨L,N,O,P⟩:=B.cs4
 go_wp2_with fail
 refine(e.out _ _ _ o D).mono ?_;rintro F a1 ⟨rfl,A⟩;have G:=aa o A;clear B D o A e L N O P
 go_wp2
 go_ret2
 exact⟨rfl,G⟩
abbrev refPl_o2:=refPl_o2_mg.1
abbrev refPl_i3:=refPl_o2_mg.2
abbrev refPl_i4:=refPl_i4_mg.1
abbrev refPl_i5:=refPl_i4_mg.2
abbrev refPl_u1:=refPl_u1_mg.1
abbrev refPl_u2:=refPl_u1_mg.2.1
abbrev refPl_u4:=refPl_u1_mg.2.2.1
abbrev refPl_u5:=refPl_u1_mg.2.2.2
abbrev aeG:=refPl_zf_mg.1
abbrev aeE:=refPl_zf_mg.2
abbrev aeh:=refPl_zuf_mg.1
abbrev aef:=refPl_zuf_mg.2
abbrev aeH:=refPl_nf_mg.1
abbrev aeF:=refPl_nf_mg.2
abbrev aei:=refPl_nuf_mg.1
abbrev aeg:=refPl_nuf_mg.2
theorem acs (n U W X R D L G Y c Q E fl:Int)(gr ok g qs:Bool)(N M:Nat)(no H:Option Addr)(I F:Nat)(p:fz)(t:ak)(w:World)(f:yJ 15 #[yi n] (.tuple #[yhV U W X R D L G gr Y,.bool ok]))
  (i: ∀a,yB w a→yC 61 #[yrV qs (yS no N I) (yS H M F) E,ygV R D L G gr,yi Q] a (GT a p))
  (h: ∀K J a,Rd a .i64 (yS K p.d J) (Dg.dg 65536 p.d)→yC 60 #[yi n,ypV p.s (yS K p.d J) p.p p.ex p.ov p.un,yi Q] a (RVG a c g t fl)):
  yC 28 #[yi n,yrV qs (yS no N I) (yS H M F) E,yi Q] w (RVG w c g t fl):=by
 replace f:Hid _:=f;replace i:Hid _:=i;replace h:Hid _:=h;obtain⟨W4,q,q1,q2,S⟩:=iG w (yrL qs (yS no N I) (yS H M F) E) 72 (yoL 0 false false yN 0) 30;replace q:Hid _:=q
 go_enter func28,ntmps28
 go_upto_region 1 with fail
 rw[q.out];clear q
 go_wp2_with fail
 refine(f.out _).mono ?_;rintro zz w6 ⟨rfl,m⟩;have q8:=q1.l m;have O:=q2.l m;have y:=aa S m;clear q1 q2 S m f;obtain⟨al,o,b,j⟩:=cA w6 (yhL U W X R D L G gr Y) 56;replace o:Hid _:=o;have an:w.heap.size≤w6.heap.size:=y.size;have ao:=O.lt;have a0:=q8.l j;have a1:=O.l j;have z:=aa y j;clear q8 O y j
 go_upto_region 2 with fail
 rw[o.out];clear o;obtain⟨a3,a4,a5,a6⟩:=a0.cs4;have a7:=b.c 3 rfl;have a8:=b.c 4 rfl;have a9:=b.c 5 rfl;have ab:=b.c 6 rfl;have ac:=b.c 7 rfl
 go_wp2_with fail
 refine(i.out _ z).mono ?_;rintro zz ar ⟨ap,rfl,v,B⟩;have a2:=a1.l B;have A:=aa z B;obtain⟨K,J,C⟩:=v.shape;subst C;clear a0 a1 b z B i a3 a4 a5 a6 a7 a8 a9 ab ac
 go_wp2_with fail
 refine(h.out _ _ _ v).mono ?_;rintro zz av ⟨aq,rfl,x,Z,k⟩;have ff:=Z.mono A.size;clear Z;have u:=a2.l k;have ad:=v.l k;have T:=aa A k;obtain⟨so,sc,C⟩:=x.shape;subst C;clear a2 v A k h;have r:=dL (P:=Tryz.prog) u T (by omega) underlying30 rfl (by kernel_rfl) (yi c) (.bool g) (.bool t.s) (yS so t.n sc) (yi t.e);have HH:Hid (_∧_∧_):=⟨r.1,r.2.2.rd x (mu x u),r.2.1⟩;obtain⟨⟨z0,z1,z2,z3,z4⟩,y0,y1,y2,y3,y4⟩:=dN u;clear r u ad x T
 go_wp2
 obtain⟨hl,ae,bR⟩:=HH.out;exact bodyPost_ret (aj results28 rfl rfl hl) rfl ⟨_,rfl,ae,ff,bR⟩
theorem vU (n:Int)(w:World)(h:dK n=0):yC 31 #[yi n] w (yR w (.tuple #[ygV 0 0 0 0 false,yi 6])):=by
 have j:Hid (yJ 35 #[yi n] (.tuple #[yzV 0 0 0 0 false 0 0 0,yi 6])):=fun p=>lR n p h
 have x:=cD;have y:=gn;have i:=ah w (ygL 0 0 0 0 false) 54;have k:=af w (.cells (ygA 0 0 0 0 false) 54)
 go_enter func31,ntmps31
 go_wp2_with fail
 refine(j.out _).mono ?_;rintro z b ⟨rfl,d⟩;have a:=(i.l d).l (af b (.cells (yzA 0 0 0 0 false 0 0 0) 93));have m:au ((((((b.alloc (.cells (yzA 0 0 0 0 false 0 0 0) 93)).setCell ⟨w.heap.size,0,none⟩ (yi 0)).setCell ⟨w.heap.size,1,none⟩ (yi 0)).setCell ⟨w.heap.size,2,none⟩ (yi 0)).setCell ⟨w.heap.size,3,none⟩ (yi 0)).setCell ⟨w.heap.size,4,none⟩ (.bool false)) w.heap.size 54 (ygL 0 0 0 0 false):=(((((a.set 0 (yi 0)).set 1 (yi 0)).set 2 (yi 0)).set 3 (yi 0)).set 4 (.bool false));have e:=(((((ag (b.alloc (.cells (yzA 0 0 0 0 false 0 0 0) 93)) w.heap.size 0 (yi 0)).trans (ag _ w.heap.size 1 (yi 0))).trans (ag _ w.heap.size 2 (yi 0))).trans (ag _ w.heap.size 3 (yi 0))).trans (ag _ w.heap.size 4 (.bool false))).below (aa (aa k d) (af b (.cells (yzA 0 0 0 0 false 0 0 0) 93))) (Nat.le_refl _);have g:=run_loadVar_mid (P:=Tryz.prog) _ w.heap.size 0 54 (ygL 0 0 0 0 false) _ m.range underlying54 rfl (by kernel_rfl);have o:Hid (_∧_):=⟨g,e⟩;have A:=a.c 0 rfl;have q:=a.f 0;have B:=a.c 1 rfl;have r:=a.f 1;have C:=a.c 2 rfl;have s:=a.f 2;have D:=a.c 3 rfl;have t:=a.f 3;have E:=a.c 4 rfl;have u:=a.f 4;have v:b.heap.size≠w.heap.size:=Nat.ne_of_gt (i.l d).lt;clear g e m i a k d j
 go_wp2
 obtain⟨g,e⟩:=o.out;exact bodyPost_ret (aj results31 rfl rfl g) rfl ⟨rfl,e⟩
abbrev SN:=cgrid_1_mg.1
abbrev SO:=cgrid_1_mg.2.1
abbrev SP:=cgrid_1_mg.2.2.1
abbrev SQ:=cgrid_1_mg.2.2.2.1
abbrev SR:=cgrid_1_mg.2.2.2.2.1
abbrev SS:=cgrid_1_mg.2.2.2.2.2.1
abbrev ST:=cgrid_1_mg.2.2.2.2.2.2.1
abbrev SU:=cgrid_1_mg.2.2.2.2.2.2.2
theorem EI (K:Nat)(t:ak):V K (dB t)= -V K t:=by
 rw[←pC,eV,eV];unfold dB dV;simp only
 by_cases h:0<t.n
 ·simp[h]
 ·have a:t.n=0:=by omega
  rw[a,Nat.zero_mul];simp[sz]
theorem acR (K:Nat)(t:ak):dJ t=sgn (V K t):=(Di K t).symm
theorem lP (A B:ak):dJ (bare (cO (bare A) (dB (bare B))))=dJ (aG A (dV B)):=by
 have a: -((A.e.natAbs+B.e.natAbs:Nat):Int)≤A.e:=by omega
 have b: -((A.e.natAbs+B.e.natAbs:Nat):Int)≤B.e:=by omega
 have c: -((A.e.natAbs+B.e.natAbs:Nat):Int)≤(dB (bare B)).e:=eL b;rw[acR (A.e.natAbs+B.e.natAbs),dw (zy (eL a) c),zx (eL a) c,EI,dw a,dw b,CB]
 congr 1
def Gi (n:Int)(s:ByteArray):Bool:=if dF n s=0 then aZ n.toNat s else false
theorem xu (n:Int)(s:ByteArray)(w:World):yC 5 #[yi n,.string s] w (yR w (yi (dF n s))):=by
 unfold dF
 by_cases a:dK n=0
 ·rw[if_pos a]
  exact T3 n s w a
 ·rw[if_neg a]
  obtain⟨b,c,e⟩:=fF a;obtain⟨k,rfl⟩: ∃k:Nat,n=(k:Int):=⟨n.toNat,e.symm⟩;rw[Int.toNat_natCast] at b c⊢;have d:=fun f=>qU k ⟨b,c⟩ f
  rcases bO ⟨b,c⟩ with rfl|rfl|rfl|rfl|rfl|rfl|rfl|rfl
  all_goals exact acZ _ _ _ _ _ _ _ _ _ _ s w d
theorem Nx {w w':World}{g:Nat}{k:IntKind}{v:Value}{zs:List Nat}(r:Rd w k v zs)(m:w.grownBy w' (some g))(q:wF g v zs):Rd w' k v zs:=by
 obtain⟨d,cap,rfl,f,h,j⟩:=r;refine⟨d,cap,rfl,f,h,fun c=> ?_⟩
 obtain⟨b,s,rfl,l⟩:=j c;refine⟨b,s,rfl,fun i n=> ?_⟩
 have a:=l i n;have o:b<w.heap.size:=World.block_lt_of_cell? w _ a;have p:b≠g:=q c _ _ _ rfl;rw[←a];unfold World.cell?;simp only;rw[m.block b o (fun e=>p (Option.some.inj e))]
theorem au.grownO {w w':World}{b:Nat}{c:TypeId}{d:List Value}{a:Option Nat}(h:au w b c d)(f:w.grownBy w' a)(i: ∀g,a=some g→b≠g):au w' b c d:=
 (f.block b h.lt (fun e=>i b e.symm rfl)).trans h
theorem Lr (n b a R D L G k:Int)(gr ng i o:Bool)(e:Option Addr)(j h:Nat)(c q:Int)(g:Bool)(m:Nat)(w:World)
  (t: ∀p,yB w p→yC 149 #[ykV n b a R D L G gr,.bool ng] p (iT p c g m q)):
  yC 111 #[ykV n b a R D L G gr,ypV ng (.slice e j h) k i true o] w (B6 w c g m q 5):=by
 replace t:Hid _:=t;have M:=af w (.cells (ykA n b a R D L G gr) 175);have H:=af (w.alloc (.cells (ykA n b a R D L G gr) 175)) (.cells (ypA ng (.slice e j h) k i true o) 141);have v:=af ((w.alloc (.cells (ykA n b a R D L G gr) 175)).alloc (.cells (ypA ng (.slice e j h) k i true o) 141)) (.cells (yvA 0 false yN 0) 39);have K:=((ah w (ykL n b a R D L G gr) 175).l H).l v;have B:=(ah (w.alloc (.cells (ykA n b a R D L G gr) 175)) (ypL ng (.slice e j h) k i true o) 141).l v;have F:=ah ((w.alloc (.cells (ykA n b a R D L G gr) 175)).alloc (.cells (ypA ng (.slice e j h) k i true o) 141)) (yvL 0 false yN 0) 39;rw[World.size_alloc] at B;rw[World.size_alloc,World.size_alloc] at F;have x:=aa (aa M H) v;clear M H v
 go_enter func111,ntmps111
 go_upto_block 0 with fail
 generalize((w.alloc (.cells (ykA n b a R D L G gr) 175)).alloc (.cells (ypA ng (.slice e j h) k i true o) 141)).alloc (.cells (yvA 0 false yN 0) 39)=W0 at K B F x⊢;obtain⟨y0,y1,y2,y3,y4,y5,y6,y7⟩:=K.cs8;obtain⟨T,U,W,X,Y,Z⟩:=B.cs6
 go_wp2_with fail
 refine(t.out _ x).mono ?_;rintro z p ⟨u,rfl,C,I⟩;obtain⟨s,r,S⟩:=C.shape;subst S;have d:=F.l I;have N:=aa x I;clear y0 y1 y2 y3 y4 y5 y6 y7 T U W X Y Z K B F x I t;have O:au ((((p.setCell ⟨w.heap.size+1+1,0,none⟩ (yi c)).setCell ⟨w.heap.size+1+1,1,none⟩ (.bool g)).setCell ⟨w.heap.size+1+1,2,none⟩ (yT s m r)).setCell ⟨w.heap.size+1+1,3,none⟩ (yi q)) (w.heap.size+1+1) 39 (yvL c g (yT s m r) q):=((((d.set 0 (yi c)).set 1 (.bool g)).set 2 (yT s m r)).set 3 (yi q));have J:=(((ag p (w.heap.size+1+1) 0 (yi c)).trans (ag _ (w.heap.size+1+1) 1 (.bool g))).trans (ag _ (w.heap.size+1+1) 2 (yT s m r))).trans (ag _ (w.heap.size+1+1) 3 (yi q));have y:=J.below N (by omega);have E:=J.rd C (aX C d (by simp));have A:=run_loadVar_mid (P:=Tryz.prog) _ (w.heap.size+1+1) 0 39 (yvL c g (yT s m r) q) _ O.range underlying39 rfl (by kernel_rfl);have Q:Hid (_∧_∧_):=⟨A,E,y⟩;obtain⟨z0,z1,z2,z3⟩:=d.cs4;have a0:=d.f 0;have a4:=d.f 1;have a5:=d.f 2;have a6:=d.f 3;clear A y J O E;clear d N C
 go_wp2
 obtain⟨A,E,y⟩:=Q.out;exact bodyPost_ret (aj results111 rfl rfl A) rfl ⟨_,rfl,E,y⟩
theorem OU (n d b R D L G e:Int)(gr ng i:Bool)(g:Option Addr)(j h:Nat)(w:World)(C:e<L):
  yC 111 #[ykV n d b R D L G gr,ypV ng (.slice g j h) e i false true] w (B6 w 1 false 0 0 3):=by
 have t:=af w (.cells (ykA n d b R D L G gr) 175);have q:=af (w.alloc (.cells (ykA n d b R D L G gr) 175)) (.cells (ypA ng (.slice g j h) e i false true) 141);have k:=af ((w.alloc (.cells (ykA n d b R D L G gr) 175)).alloc (.cells (ypA ng (.slice g j h) e i false true) 141)) (.cells (yvA 0 false yN 0) 39);have s:=((ah w (ykL n d b R D L G gr) 175).l q).l k;have p:=(ah (w.alloc (.cells (ykA n d b R D L G gr) 175)) (ypL ng (.slice g j h) e i false true) 141).l k;have a:=ah ((w.alloc (.cells (ykA n d b R D L G gr) 175)).alloc (.cells (ypA ng (.slice g j h) e i false true) 141)) (yvL 0 false yN 0) 39;rw[World.size_alloc] at p;rw[World.size_alloc,World.size_alloc] at a;have r:=aa (aa t q) k;clear t q k
 go_enter func111,ntmps111
 go_upto_block 0 with fail
 generalize((w.alloc (.cells (ykA n d b R D L G gr) 175)).alloc (.cells (ypA ng (.slice g j h) e i false true) 141)).alloc (.cells (yvA 0 false yN 0) 39)=W0 at s p a r⊢;obtain⟨E,F,H,I,J,K⟩:=p.cs6;have M:=s.c 5 rfl;have v:au ((((W0.setCell ⟨w.heap.size+1+1,0,none⟩ (yi 1)).setCell ⟨w.heap.size+1+1,1,none⟩ (.bool false)).setCell ⟨w.heap.size+1+1,2,none⟩ yN).setCell ⟨w.heap.size+1+1,3,none⟩ (yi 0)) (w.heap.size+1+1) 39 (yvL 1 false yN 0):=((((a.set 0 (yi 1)).set 1 (.bool false)).set 2 yN).set 3 (yi 0));have u:=(((ag W0 (w.heap.size+1+1) 0 (yi 1)).trans (ag _ (w.heap.size+1+1) 1 (.bool false))).trans (ag _ (w.heap.size+1+1) 2 yN)).trans (ag _ (w.heap.size+1+1) 3 (yi 0));have m:=u.below r (by omega);have o:=run_loadVar_mid (P:=Tryz.prog) _ (w.heap.size+1+1) 0 39 (yvL 1 false yN 0) _ v.range underlying39 rfl (by kernel_rfl);have x:Hid (_∧_):=⟨o,m⟩;obtain⟨N,O,Q,S⟩:=a.cs4;have y:=a.f 0;have z:=a.f 1;have A:=a.f 2;have B:=a.f 3;clear o m u v;clear a r s p
 go_wp2
 obtain⟨o,m⟩:=x.out;exact bodyPost_ret (aj results111 rfl rfl o) rfl ⟨_,rfl,aN _ _,m⟩
theorem refZero_any (k:Nat)(a:1≤k∧k≤8)(ng:Bool)(w:World):yC 103 #[yi k,.bool ng] w (yR w (yoV 1 (ng&&decide (dK k=1)) false yN 0)):=
 aej _ _ _ _ _ _ _ _ _ _ _ _ w (fun b=>form_any k a b)
def plV (k:Nat)(wy:Int)(P:fz):Int×Bool×ak×Int:=
 if P.ov=true then(if dK k=3 then(5,false,⟨false,0,0⟩,5) else if dK k=1∧aaV wy P.s=true then(3,P.s,⟨false,0,0⟩,5) else(2,P.s,gtT k P.s,5))
 else if P.un=true∧P.p<lsI k then(1,false,⟨false,0,0⟩,3)
 else if P.d=0 then(1,P.s,⟨false,0,0⟩,if P.ex=true then 0 else if P.un=true then 3 else 1)
 else(2,P.s,bare ⟨P.s,P.d,(ai (rdN k):Int)*P.p⟩,if P.ex=true then 0 else if P.un=true then 3 else 1)
theorem vj (k:Nat)(a:1≤k∧k≤8)(w:World):yC 31 #[yi k] w (yR w (.tuple #[ygV (rdN k) (dgN k) (lsI k) (gsI k) (decide (k≤3)),yi 0])):=by
 rcases bO a with rfl|rfl|rfl|rfl|rfl|rfl|rfl|rfl
 ·exact SN w
 ·exact SO w
 ·exact SP w
 ·exact SQ w
 ·exact SR w
 ·exact SS w
 ·exact ST w
 ·exact SU w
theorem mp (k:Nat)(b:1≤k∧k≤8)(w:World):yC 108 #[yi k] w (yR w (.tuple #[ykV k 0 (dK k) (rdN k) (dgN k) (lsI k) (gsI k) (decide (k≤3)),yi 0])):=
 Yr k _ _ _ _ _ _ w (fun a=>vj k b a) (fun a=>jk k a)
theorem zl {n:Int}{p:ByteArray}(h:dF n p=0):1≤bM n p∧bM n p≤5:=by
 unfold bM;rw[if_pos h];have:=DV n.toNat (aZ n.toNat p) (aR n.toNat p) (aU n.toNat p);omega
theorem EV {k:Nat}(a:1≤k∧k≤8):ia (rdN k) (dgN k) (lsI k) (gsI k) (decide (k≤3)) (rdN k^dgN k-1) (gsI k):=by
 refine .inr ?_
 rcases bO a with rfl|rfl|rfl|rfl|rfl|rfl|rfl|rfl<;>decide
theorem oY {K:Nat}{a b:ak}(d: -(K:Int)≤a.e)(f: -(K:Int)≤b.e):bJ a b=sgn (V K a-V K b):=by
 have c:V K (aG a (dV b))=V K a-V K b:=by rw[dH d (by exact f),pC];omega
 rw[←c,Di];rfl
theorem mL.apart3 {w:World}{b c:Nat}{a d e f g i:Value}(h:mL w b a d e f g i)(A:c≠b)(q r s:Value):
  mL (((w.setCell ⟨c,0,none⟩ q).setCell ⟨c,1,none⟩ r).setCell ⟨c,2,none⟩ s) b a d e f g i:=by
 obtain⟨p,⟨t,u,v,x,y,z⟩,j,k,l,m,n,o⟩:=h;refine⟨by simpa using p,⟨?_, ?_, ?_, ?_, ?_, ?_⟩,by simpa using j,by simpa using k,by simpa using l,by simpa using m,by simpa using n,by simpa using o⟩
 all_goals (rw[World.cell?_setCell_other (h:=by simp),World.cell?_setCell_other (h:=by simp),World.cell?_setCell_other (h:=by simp)];assumption)
theorem ZB.off {w w':World}{q b:Nat}(h:ZB w q)(a:w.grownBy w' (some b))(f:q≠b):ZB w' q:=by
 obtain⟨c,g,d⟩:=h;exact⟨Nat.lt_of_lt_of_le c a.size,g,(a.block q c (by intro e;cases e;exact f rfl)).trans d⟩
theorem tM (a b:ak):bJ (bare a) (bare b)=bJ a b:=by
 have c: -((a.e.natAbs+b.e.natAbs:Nat):Int)≤a.e:=by omega
 have d: -((a.e.natAbs+b.e.natAbs:Nat):Int)≤b.e:=by omega
 rw[oY c d,oY (eL c) (eL d),dw c,dw d]
theorem fam_any (k:Int)(w:World):yC 64 #[yi k] w (yR w (yi (dK k))):=
 (jk k w).mono (fun z w' h=>⟨h.1,by rw[h.2];exact Below.refl _ _⟩)
def wdS (c:Int)(g:Bool):ByteArray:=if g=true then(wdV c).2.1 else(wdV c).1
theorem wordOf_any (c p:Int)(g:Bool)(e:Option Addr)(vl d:Nat)(w:World):yC 10 #[yvV c g (.slice e vl d) p] w (yR w (.tuple #[.string (wdS c g),.bool (wdV c).2.2])):=by
 unfold wdS
 cases g
 ·rw[if_neg (by decide)]
  exact tword_f c p e vl d _ _ _ w (fun f=>twords_any f) (fun h b a=>look_any c h b a)
 ·rw[if_pos rfl]
  exact tword_t c p e vl d _ _ _ w (fun f=>twords_any f) (fun h b a=>look_any c h b a)
theorem word_no {c:Nat}(a:1≤c)(b:c≤5)(h:(wdV c).2.2=false):c=2:=by
 obtain rfl|rfl|rfl|rfl|rfl:c=1∨c=2∨c=3∨c=4∨c=5:=by omega
 all_goals first
  |rfl
  |exact absurd h (by decide)
def ptS (n:Int)(s:ByteArray)(k:Nat):ByteArray:=prR (opT n s).s (dcH (opT n s)) (dcC (opT n s)) (dcP (opT n s)) k
theorem refWord_1f (x:ak)(f:Option Addr)(d:Nat)(w:World):
  yC 24 #[yoV 1 false x.s (yS f x.n d) x.e] w (yR w (.string ⟨#[48]⟩)):=by
 obtain⟨h,a,b,g⟩:=cA w (yoL 1 false x.s (yS f x.n d) x.e) 30;replace a:Hid _:=a
 go_enter func24,ntmps24
 go_upto_region 1 with fail
 rw[a.out];clear a;have i:=b.c 0 rfl;have j:=b.c 1 rfl
 go_wp2
 go_ret
 exact⟨by rfl,g⟩
theorem refWord_1t (x:ak)(f:Option Addr)(d:Nat)(w:World):
  yC 24 #[yoV 1 true x.s (yS f x.n d) x.e] w (yR w (.string ⟨#[45,48]⟩)):=by
 obtain⟨h,a,b,g⟩:=cA w (yoL 1 true x.s (yS f x.n d) x.e) 30;replace a:Hid _:=a
 go_enter func24,ntmps24
 go_upto_region 1 with fail
 rw[a.out];clear a;have i:=b.c 0 rfl;have j:=b.c 1 rfl
 go_wp2
 go_ret
 exact⟨by rfl,g⟩
theorem refWord_3f (x:ak)(f:Option Addr)(d:Nat)(w:World):
  yC 24 #[yoV 3 false x.s (yS f x.n d) x.e] w (yR w (.string ⟨#[105,110,102]⟩)):=by
 obtain⟨h,a,b,g⟩:=cA w (yoL 3 false x.s (yS f x.n d) x.e) 30;replace a:Hid _:=a
 go_enter func24,ntmps24
 go_upto_region 1 with fail
 rw[a.out];clear a;have i:=b.c 0 rfl;have j:=b.c 1 rfl
 go_wp2
 go_ret
 exact⟨by rfl,g⟩
theorem refWord_3t (x:ak)(f:Option Addr)(d:Nat)(w:World):
  yC 24 #[yoV 3 true x.s (yS f x.n d) x.e] w (yR w (.string ⟨#[45,105,110,102]⟩)):=by
 obtain⟨h,a,b,g⟩:=cA w (yoL 3 true x.s (yS f x.n d) x.e) 30;replace a:Hid _:=a
 go_enter func24,ntmps24
 go_upto_region 1 with fail
 rw[a.out];clear a;have i:=b.c 0 rfl;have j:=b.c 1 rfl
 go_wp2
 go_ret
 exact⟨by rfl,g⟩
theorem refWord_4f (x:ak)(f:Option Addr)(d:Nat)(w:World):
  yC 24 #[yoV 4 false x.s (yS f x.n d) x.e] w (yR w (.string ⟨#[110,111,110,101]⟩)):=by
 obtain⟨h,a,b,g⟩:=cA w (yoL 4 false x.s (yS f x.n d) x.e) 30;replace a:Hid _:=a
 go_enter func24,ntmps24
 go_upto_region 1 with fail
 rw[a.out];clear a;have i:=b.c 0 rfl;have j:=b.c 1 rfl
 go_wp2
 go_ret
 exact⟨by rfl,g⟩
theorem refWord_5f (x:ak)(f:Option Addr)(d:Nat)(w:World):
  yC 24 #[yoV 5 false x.s (yS f x.n d) x.e] w (yR w (.string ⟨#[114,101,115,101,114,118,101,100]⟩)):=by
 obtain⟨h,a,b,g⟩:=cA w (yoL 5 false x.s (yS f x.n d) x.e) 30;replace a:Hid _:=a
 go_enter func24,ntmps24
 go_upto_region 1 with fail
 rw[a.out];clear a;have i:=b.c 0 rfl;have j:=b.c 1 rfl
 go_wp2
 go_ret
 exact⟨by rfl,g⟩
theorem refWord_2 (g:Bool)(x:ak)(d:Option Addr)(b:Nat)(w:World):
  yC 24 #[yoV 2 g x.s (yS d x.n b) x.e] w (yR w (.string ⟨#[]⟩)):=by
 obtain⟨i,a,h,f⟩:=cA w (yoL 2 g x.s (yS d x.n b) x.e) 30;replace a:Hid _:=a
 go_enter func24,ntmps24
 go_upto_region 1 with fail
 rw[a.out];clear a;have j:=h.c 0 rfl
 go_wp2
 go_ret
 exact⟨by rfl,f⟩
theorem printOf_word (i:ByteArray)(c k:Int)(g:Bool)(x:ak)(b:Option Addr)(a:Nat)(w:World)(o:Rd w .i64 (yS b x.n a) (Dg.dg 65536 x.n))(B:(i.toList==([]:List UInt8))=false)
  (d: ∀b a p,yC 24 #[yoV c g x.s (yS b x.n a) x.e] p (yR p (.string i))):
  yC 26 #[yoV c g x.s (yS b x.n a) x.e,yi k] w (yR w (.string i)):=by
 replace d:Hid _:=d;obtain⟨A,f,m,h⟩:=cA w (yoL c g x.s (yS b x.n a) x.e) 30;replace f:Hid _:=f;have z:=o.l h;clear o
 go_enter func26,ntmps26
 go_upto_region 1 with fail
 rw[f.out];clear f;obtain⟨t,u,v,y,r⟩:=m.cs5
 go_wp2_with fail
 refine(d.out _ _ _).mono ?_;rintro D C ⟨rfl,j⟩;have q:=aa h j;clear m z h j d t u v y r
 go_wp2
 go_ret
 exact⟨rfl,q⟩
theorem refWord_any (c:Int)(g:Bool)(x:ak)(f:c=1∨c=2∨c=3∨c=4∨c=5)(d:c=4∨c=5→g=false)(b:Option Addr)(a:Nat)(w:World):yC 24 #[yoV c g x.s (yS b x.n a) x.e] w (yR w (.string (wdS c g))):=by
 rcases f with rfl|rfl|rfl|rfl|rfl
 ·cases g
  ·exact refWord_1f x b a w
  ·exact refWord_1t x b a w
 ·have:=refWord_2 g x b a w
  cases g<;>exact this
 ·cases g
  ·exact refWord_3f x b a w
  ·exact refWord_3t x b a w
 ·obtain rfl:=d (.inl rfl)
  exact refWord_4f x b a w
 ·obtain rfl:=d (.inr rfl)
  exact refWord_5f x b a w
def rpR (c:Int)(g:Bool)(x:ak)(k:Nat):ByteArray:=if c=2 then prR g (dcH x) (dcC x) (dcP x) k else wdS c g
theorem dec45 {n:Int}{s:ByteArray}(h:((bM n s:Nat):Int)=4∨((bM n s:Nat):Int)=5):dz n s=false:=by
 unfold bM at h;unfold dz kt
 by_cases a:dF n s=0
 ·rw[if_pos a] at h⊢
  rw[if_neg (by omega)]
 ·rw[if_neg a]
theorem RowAt.l {w w':World}{g:Option Nat}{v:Value}{zs:List Nat}(h:RowAt w g v zs)(a:yB w w'):RowAt w' g v zs:=⟨h.1.l a,h.2⟩
theorem RowAt.grow {w w':World}{g c:Option Nat}{v:Value}{zs:List Nat}(h:RowAt w g v zs)(a:w.grownBy w' g)(k:c=g∨c=some w.heap.size):RowAt w' c v zs:=by
 obtain⟨f,i⟩:=h;refine⟨?_,fun b d=> ?_⟩
 ·cases g with
  |none=>exact f.l ⟨a.os,a.tape,a.output,a.size,fun j m=>a.block j m (fun e=>nomatch e)⟩
  |some b=>exact Nx f a (i b rfl)
 ·rcases k with e|e
  ·exact i b (by rw[←e];exact d)
  ·have n:b=w.heap.size:=by
    rw[e] at d;exact(Option.some.inj d).symm
   exact t9 f (by omega)
theorem DysAt.mono {w w':World}{g a:Option Nat}(h: ∀v zs,RowAt w g v zs→RowAt w' a v zs): ∀{ts:List ak} {cs:List Value},DysAt w g ts cs→DysAt w' a ts cs
 | [],_,hc=>hc
 |_::_,_,hc=>by
  obtain⟨i,f,e,b,c,d⟩:=hc;exact⟨i,f,e,b,h _ _ c,DysAt.mono h d⟩
theorem HdI.l {base:Nat}{c:List ak}{b:Value}{w w':World}(h:HdI base c b w)(a:yB w w'):HdI base c b w':=by
 obtain⟨d,e,f⟩:=h;exact⟨d,zZ e a,f.mono (fun _ _ k=>k.l a)⟩
theorem HdI.lt {base:Nat}{e:List ak}{a:Value}{w:World}(h:HdI base e a w)(b:Nat)(d:a.ownBlock=some b):base≤b∧b<w.heap.size:=by
 obtain⟨f,c,-⟩:=h;exact World.ownsRow.lt c b d
theorem DysV.l {w w':World}{b:List ak}{g cap:Nat}(h:DysV w b g cap)(a:yB w w'):DysV w' b g cap:=
 ⟨h.fit,h.most,fun i t e=>by
  obtain⟨j,f,c,d⟩:=h.each i t e;exact⟨j,f,aC c a,d.l a⟩⟩
theorem HdW.lt {w wr:World}{a e up:Value}{U:Nat}{c:List Value}{f:List ak}(h:HdW w a e up U c f wr)(b:Nat)(d:a.ownBlock=some b):w.heap.size+1≤b∧b<wr.heap.size:=h.2.2.1.lt b d
theorem HdW.grow {w wr w':World}{c b j up:Value}{U:Nat}{d:List Value}{p k:List ak}(h:HdW w c j up U d p wr)(a:wr.grownBy w' c.ownBlock)(f:b.ownBlock=c.ownBlock∨b.ownBlock=some wr.heap.size)(o:HdI (w.heap.size+1) k b w'):HdW w b j up U d k w':=by
 have i:=h.lt;obtain⟨e,l,q,m,n⟩:=h;exact⟨e.grown a e.size (fun g a=>by have:=i g a;omega),l.grownO a (fun g a=>by have:=i g a;omega),o,m.grow a f,n.grow a f⟩
def nbT (k d:Nat)(p:Int):ak:=(cC (ix (Dg.dg 4294967296 d) p (rdN k) (dgN k) (lsI k) (gsI k)) ⟨false,Dg.vl 4294967296 (Dg.dg 4294967296 d),(ai (rdN k):Int)*p⟩).1
theorem bare_parts {g:Bool}{d:Nat}{e:Int}{x:ak}(a:d≠0)(h:bare ⟨g,d,e⟩=x):d=x.n*2^tz d∧x.e=e+(tz d:Int)∧x.s=g:=by
 subst h;unfold bare;rw[if_neg a];exact⟨(odd_of a).2,rfl,rfl⟩
theorem shortestOf_word (m:ByteArray)(n t u v R D L G y j:Int)(gr k:Bool)(x:ak)(b:Option Addr)(a:Nat)(w:World)(A:Rd w .i64 (yS b x.n a) (Dg.dg 65536 x.n))(T:(m.toList==([]:List UInt8))=false)
  (d: ∀b a B,yC 24 #[yoV j k x.s (yS b x.n a) x.e] B (yR B (.string m)))
  (c:yJ 15 #[yi n] (.tuple #[yhV t u v R D L G gr y,.bool true])):
  yC 7 #[yi n,yoV j k x.s (yS b x.n a) x.e] w (yR w (.tuple #[.string m,yi 0])):=by
 replace d:Hid _:=d;replace c:Hid _:=c;obtain⟨Q,g,z,i⟩:=cA w (yoL j k x.s (yS b x.n a) x.e) 30;replace g:Hid _:=g;have N:=A.l i;clear A
 go_enter func7,ntmps7
 go_upto_region 1 with fail
 rw[g.out];clear g;obtain⟨H,I,J,K,F⟩:=z.cs5
 go_wp2_with fail
 refine(d.out _ _ _).mono ?_;rintro O U ⟨rfl,q⟩;have p:=aa i q;clear z N i q d H I J K F
 go_wp2_with fail
 refine(c.out _).mono ?_;rintro O C ⟨rfl,r⟩;have h:=aa p r;clear p r c;obtain⟨P,f,M,o⟩:=cA C (yhL t u v R D L G gr y) 56;replace f:Hid _:=f;have S:w.heap.size≤C.heap.size:=h.size;have E:=aa h o;clear h o M
 go_upto_region 3 with fail
 rw[f.out];clear f
 go_wp2
 go_ret2
 exact⟨rfl,E⟩
theorem shortestOf_off (n E F H R D L G I v:Int)(gr y:Bool)(x:ak)(b:Option Addr)(a:Nat)(w:World)(P:Rd w .i64 (yS b x.n a) (Dg.dg 65536 x.n))
  (i: ∀b a d,yC 24 #[yoV v y x.s (yS b x.n a) x.e] d (yR d (.string ⟨#[]⟩)))
  (g:yJ 15 #[yi n] (.tuple #[yhV E F H R D L G gr I,.bool true]))
  (h: ∀b a d,yB w d→Rd d .i64 (yS b x.n a) (Dg.dg 65536 x.n)→yC 25 #[ydV x.s (yS b x.n a) x.e,ygV R D L G gr] d (yR d (.bool false))):
  yC 7 #[yi n,yoV v y x.s (yS b x.n a) x.e] w (yR w (.tuple #[.string ⟨#[]⟩,yi 4])):=by
 replace i:Hid _:=i;replace g:Hid _:=g;replace h:Hid _:=h;obtain⟨W3,p,z,r⟩:=cA w (yoL v y x.s (yS b x.n a) x.e) 30;replace p:Hid _:=p;have O:=P.l r;clear P
 go_enter func7,ntmps7
 go_upto_region 1 with fail
 rw[p.out];clear p;obtain⟨c6,c7,c8,c9,U⟩:=z.cs5
 go_wp2_with fail
 refine(i.out _ _ _).mono ?_;rintro S a7 ⟨rfl,k⟩;have J:=z.l k;have K:=O.l k;have B:=aa r k;clear z O r k i c6 c7 c8 c9 U
 go_wp2_with fail
 refine(g.out _).mono ?_;rintro S Q ⟨rfl,m⟩;have A:=J.l m;have M:=K.l m;have t:=aa B m;clear J K B m g;obtain⟨a4,o,f,j⟩:=cA Q (yhL E F H R D L G gr I) 56;replace o:Hid _:=o;have a5:w.heap.size≤Q.heap.size:=t.size;have a6:=A.lt;have q:=A.l j;have N:=M.l j;have u:=aa t j;clear A M t j
 go_upto_region 3 with fail
 rw[o.out];clear o;have W:=q.c 2 rfl;have X:=q.c 3 rfl;have Y:=q.c 4 rfl;have Z:=f.c 3 rfl;have a0:=f.c 4 rfl;have a1:=f.c 5 rfl;have a2:=f.c 6 rfl;have a3:=f.c 7 rfl
 go_wp2_with fail
 refine(h.out _ _ _ u N).mono ?_;rintro S a8 ⟨rfl,C⟩;have T:=aa u C;clear q f N u C h W X Y Z a0 a1 a2 a3
 go_wp2
 go_ret2
 exact⟨rfl,T⟩
theorem shorts_ok (u G:Int)(v:Bool)(x:ak)(R:ByteArray)(n:Int)(s:ByteArray)(w:World)
  (h:yH w 4 #[yi n,.string s] (.tuple #[.string R,yi G]))
  (g:yJ 5 #[yi n,.string s] (yi 0))
  (f: ∀a,yB w a→yC 6 #[yi n,.string s] a fun z w'=> ∃c b F,z= .returned (.tuple #[yoV u v x.s (yS c x.n b) x.e,.bool F])∧Rd w' .i64 (yS c x.n b) (Dg.dg 65536 x.n)∧yB a w')
  (i: ∀c b a,yB w a→Rd a .i64 (yS c x.n b) (Dg.dg 65536 x.n)→yC 7 #[yi n,yoV u v x.s (yS c x.n b) x.e] a (yR a (.tuple #[.string R,yi G])))
  (d:yH w 8 #[] (.bool true)):
  yC 3 #[yi n,.string s] w (yR w (.bool true)):=by
 replace h:Hid _:=h;replace g:Hid _:=g;replace f:Hid _:=f;replace i:Hid _:=i;replace d:Hid _:=d
 go_enter func3,ntmps3
 have o:=Below.refl w.heap.size w
 go_wp2_with fail
 refine(h.out _ o).mono ?_;rintro k a ⟨rfl,A⟩;have y:=aa o A;clear o A h
 go_wp2_with fail
 refine(g.out _).mono ?_;rintro k X ⟨rfl,D⟩;have t:=aa y D;clear y D g
 go_wp2_with fail
 refine(f.out _ t).mono ?_;rintro k K ⟨c,b,F,rfl,J,E⟩;have p:=aa t E;clear t E f;obtain⟨S,j,H,m⟩:=cA K (yoL u v x.s (yS c x.n b) x.e) 30;replace j:Hid _:=j;have T:w.heap.size≤K.heap.size:=p.size;have I:=J.l m;have q:=aa p m;clear J p m
 go_upto_region 5 with fail
 rw[j.out];clear j;obtain⟨M,N,O,P,Q⟩:=H.cs5
 go_wp2_with fail
 refine(i.out _ _ _ q I).mono ?_;rintro k U ⟨rfl,B⟩;have r:=aa q B;clear H I q B i M N O P Q
 go_wp2_with fail
 refine(d.out _ r).mono ?_;rintro k W ⟨rfl,C⟩;have L:=aa r C;clear r C d
 go_wp2
 go_ret
 exact⟨by first|rfl|simp,L⟩
end Go.Proofs.YtlhkndcmbpcpgaaGreatDoor
