/- Texts laid together. -/
import Derived.Test.YtlhkndcmbpcpgaaGreatDoorXs16
import Derived.Test.YtlhkndcmbpcpgaaGreatDoorXs17
import Derived.Test.YtlhkndcmbpcpgaaGreatDoorXs19
set_option maxRecDepth 100000
set_option maxHeartbeats 12800000
namespace Go.Proofs.YtlhkndcmbpcpgaaGreatDoor
open _root_.Go.Proofs.Tryz
open Go.RowKit
theorem eL {K:Nat}{a:ak}(b: -(K:Int)≤a.e): -(K:Int)≤(bare a).e:=by
 unfold bare
 by_cases h:a.n=0
 ·rw[if_pos h];simp
 ·rw[if_neg h];simp only;omega
theorem pJ {zs:List Nat}(h:Dg.Norm zs)(a:zs.length≤1200):chk zs=0:=by
 unfold chk;rw[if_neg (fun c=>h (List.length_pos_iff.1 c.1) c.2),if_neg (by omega)]
theorem mu {w:World}{b n:Nat}{d:TypeId}{v:Value}(h:Rd w .i64 v (Dg.dg 65536 n))(c:au w b d (yoL 0 false false yN 0)):wF b v (Dg.dg 65536 n):=
 cq h (Dg.norm_dg _ _ (by omega)) c (fun x a n e=>by simp at a;rcases a with rfl|rfl|rfl|rfl|rfl<;>simp;all_goals omega)
theorem Ko (g cap:Nat)(zs:List Nat)(w:World)(u:ik w g zs)(F:zs.length≤1000000000):
  yC 83 #[.slice (some ⟨g,0,none⟩) zs.length cap] w fun e w'=>
   e= .returned (.tuple #[])∧ik w' g zs.reverse∧w.grownBy w' (some g):=by
 go_enter func83,ntmps83
 go_wp2
 go_loopw [2,3] (fun m n wr=> ∃(i:Nat) (a:List Nat),m=yi i∧n=yi ((zs.length:Int)-1-i)∧ik wr g a∧XT zs a i∧w.grownBy wr (some g))
  (fun m n _=>(intOf n+1-intOf m).toNat)
 case atStart=>exact⟨0,zs,rfl,by go_num,u,⟨rfl,by omega,fun k E=>by rw[if_neg (by omega)]⟩,ib _ _⟩
 case round=>
  obtain⟨i,a,rfl,rfl,own,b,gr⟩:=hrel;have A:=b.1;have B:=b.2.1
  by_cases h:i<zs.length-1-i
  ·obtain⟨j,r⟩: ∃j,zs.length-1-i=j:=⟨_,rfl⟩
   have l:(zs.length:Int)-1-i=(j:Int):=by omega
   have s:=own.c i (by omega);have t:=own.c j (by omega);have v:=own.f i (by omega);have z:=own.f j (by omega);have d:=IJ b h;rw[r] at d h;rw[l];have D:j<zs.length:=by omega
   have o:Hid _:=l;obtain⟨x,p⟩: ∃x,a.getD i 0=x:=⟨_,rfl⟩;obtain⟨y,q⟩: ∃y,a.getD j 0=y:=⟨_,rfl⟩;rw[p] at s d;rw[q] at t d;clear r l p q b
   go_wp2
   go_region
   all_goals go_wp2
   all_goals go_roundw
   case rel=>exact⟨i+1,_,by go_num,by have:=o.out;go_num,((own.store i y).store j x).drew,d,eF (eF gr (bI _ _ _ _)) ((eF (bI _ _ _ _) (vm _ _)))⟩
   case measure=>have:=o.out;simp[intOf];omega
  ·have C: ¬((i:Int)< (zs.length:Int)-1-i):=by omega
   go_wp2
   go_end0
   rw[←MG b h];exact⟨rfl,own,gr⟩
theorem nM (k:Nat)(zs:List Nat):(jT k zs).length=zs.length:=by
 unfold jT
 split
 ·simp
 ·split
  ·exact Cq zs
  ·rfl
def ge (k:Nat)(ng:Bool)(e f:Nat):Nat:=if dh k ng e f=2 then(lJ (rdN k) 64 (iI k e f) (ii k e)).1 else 0
def gw (k:Nat)(ng:Bool)(e f:Nat):Int:=if dh k ng e f=2 then(lJ (rdN k) 64 (iI k e f) (ii k e)).2 else 0
theorem refPl_o3 (j:Bool)(n t u v R D L G A W:Int)(gr U B J:Bool)(z:Option Addr)(y x:Nat)(w:World)(a:yJ 15 #[yi n] (.tuple #[yhV t u v R D L G gr 3,.bool U]))
  (b:yJ 102 #[yi n] (yoV 5 false false yN 0)):
  yC 60 #[yi n,ypV B (yS z y x) A j true J,yi W] w (RVG w 5 false ⟨false,0,0⟩ 5):=by
 replace a:Hid _:=a;replace b:Hid _:=b;obtain⟨Z,g,C,H,s⟩:=iG w (ypL B (yS z y x) A j true J) 123 (yoL 0 false false yN 0) 30;replace g:Hid _:=g
 cases j
 all_goals
  go_enter func60,ntmps60
  go_upto_region 1 with fail
  rw[g.out];clear g
  go_wp2_with fail
  refine(a.out _).mono ?_;rintro X K ⟨rfl,e⟩;have I:=C.l e;have p:=H.l e;have h:=aa s e;clear C H s e a;obtain⟨Y,f,E,d⟩:=cA K (yhL t u v R D L G gr 3) 56;replace f:Hid _:=f;have a0:w.heap.size≤K.heap.size:=h.size;have a1:=p.lt;have m:=I.l d;have F:=p.l d;have q:=aa h d;clear I p h d
  go_upto_region 2 with fail
  rw[f.out];clear f;have O:=m.c 3 rfl;have Q:=m.c 4 rfl;have S:=E.c 8 rfl
  go_wp2_with fail
  refine(b.out _).mono ?_;rintro X a2 ⟨rfl,i⟩;have o:=F.l i;have r:=aa q i;clear m F E q i b O Q S;have k:=dL (P:=Tryz.prog) o r (by omega) underlying30 rfl (by kernel_rfl) (yi 5) (.bool false) (.bool false) yN (yi 0);have M:Hid (_∧_):=⟨k.1,k.2.1⟩;obtain⟨⟨z0,z1,z2,z3,z4⟩,y0,y1,y2,y3,y4⟩:=dN o;clear k o r
  go_wp2
  obtain⟨T,N⟩:=M.out;exact bodyPost_ret (aj results60 rfl rfl T) rfl ⟨_,rfl,aN _ _,jt _ _ _,N⟩
theorem refPl_o2_mg:
  (∀(b:Bool) (t:ak) (n d f g R D L G k W:Int) (gr u a m:Bool) (j:Option Addr) (i h:Nat) (w:World) (_:yJ 15 #[yi n] (.tuple #[yhV d f g R D L G gr 2,.bool u]))
  (_: ∀v,yC 101 #[yi n,.bool a] v (RVg v 2 a t)),
  yC 60 #[yi n,ypV a (yS j i h) k b true m,yi W] w (RVG w 2 a t 5))∧
  (∀(b:Bool) (t:ak) (n d f g R D L G k:Int) (gr u a m:Bool) (j:Option Addr) (i h:Nat) (w:World) (_:yJ 15 #[yi n] (.tuple #[yhV d f g R D L G gr 1,.bool u]))
  (_: ∀v,yC 101 #[yi n,.bool a] v (RVg v 2 a t)),
  yC 60 #[yi n,ypV a (yS j i h) k b true m,yi 3] w (RVG w 2 a t 5)):=by
 refine⟨?_, ?_⟩;have _z:Mgk 0:=mgkI 0
 all_goals
  first| (rename Mgk 0=>_z;intro b t n d f g R D L G k W gr u a m j i h w o p)| (intro b t n d f g R D L G k gr u a m j i h w o p)
  replace o:Hid _:=o;replace p:Hid _:=p;obtain⟨W4,y,Q,T,N⟩:=iG w (ypL a (yS j i h) k b true m) 123 (yoL 0 false false yN 0) 30;replace y:Hid _:=y
  cases b
  all_goals
   go_enter func60,ntmps60
   go_upto_region 1 with fail
   rw[y.out];clear y
   go_wp2_with fail
   refine(o.out _).mono ?_;rintro zz K ⟨rfl,x⟩;have U:=Q.l x;have J:=T.l x;have E:=aa N x;clear Q T N x o
   first| (rename Mgk 0=>_z;obtain⟨Y,r,I,q⟩:=cA K (yhL d f g R D L G gr 2) 56)| (obtain⟨Y,r,I,q⟩:=cA K (yhL d f g R D L G gr 1) 56)
   replace r:Hid _:=r;have a5:w.heap.size≤K.heap.size:=E.size;have a6:=J.lt;have A:=U.l q;have S:=J.l q;have F:=aa E q;clear U J E q
   go_upto_region 2 with fail
   rw[r.out];clear r;have a0:=A.c 0 rfl;have a1:=A.c 3 rfl;have a2:=A.c 4 rfl;have a3:=I.c 8 rfl
   go_wp2_with fail
   refine(p.out _).mono ?_;rintro zz a8 ⟨a7,rfl,C,O,H⟩;have ff:=O.mono F.size;clear O;have B:=S.l H;have M:=aa F H;obtain⟨so,sc,hv⟩:=C.shape;subst hv;clear A S I F H p a0 a1 a2 a3;have z:=dL (P:=Tryz.prog) B M (by omega) underlying30 rfl (by kernel_rfl) (yi 2) (.bool a) (.bool t.s) (yS so t.n sc) (yi t.e);have X:Hid (_∧_∧_):=⟨z.1,z.2.2.rd C (mu C B),z.2.1⟩;obtain⟨⟨z0,z1,z2,z3,z4⟩,y0,y1,y2,y3,y4⟩:=dN B;clear z B C M
   go_wp2
   obtain⟨hl,a4,Z⟩:=X.out;exact bodyPost_ret (aj results60 rfl rfl hl) rfl ⟨_,rfl,a4,ff,Z⟩
theorem refPl_i4_mg:
  (∀(a:Bool) (t:ak) (n i j k R D L G g:Int) (gr z h:Bool) (f:Option Addr) (d b:Nat) (w:World) (_:yJ 15 #[yi n] (.tuple #[yhV i j k R D L G gr 1,.bool z]))
  (_: ∀q,yC 101 #[yi n,.bool true] q (RVg q 2 true t)),
  yC 60 #[yi n,ypV true (yS f d b) g a true h,yi 4] w (RVG w 2 true t 5))∧
  (∀(a:Bool) (t:ak) (n i j k R D L G g:Int) (gr z h:Bool) (f:Option Addr) (d b:Nat) (w:World) (_:yJ 15 #[yi n] (.tuple #[yhV i j k R D L G gr 1,.bool z]))
  (_: ∀q,yC 101 #[yi n,.bool false] q (RVg q 2 false t)),
  yC 60 #[yi n,ypV false (yS f d b) g a true h,yi 5] w (RVG w 2 false t 5)):=by
 refine⟨?_, ?_⟩;have _z:Mgk 0:=mgkI 0
 all_goals
  intro a t n i j k R D L G g gr z h f d b w r u;replace r:Hid _:=r;replace u:Hid _:=u
  first| (rename Mgk 0=>_z;obtain⟨Y,m,J,K,H⟩:=iG w (ypL true (yS f d b) g a true h) 123 (yoL 0 false false yN 0) 30)| (obtain⟨Y,m,J,K,H⟩:=iG w (ypL false (yS f d b) g a true h) 123 (yoL 0 false false yN 0) 30)
  replace m:Hid _:=m
  cases a
  all_goals
   go_enter func60,ntmps60
   go_upto_region 1 with fail
   rw[m.out];clear m
   go_wp2_with fail
   refine(r.out _).mono ?_;rintro zz W ⟨rfl,x⟩;have S:=J.l x;have M:=K.l x;have C:=aa H x;clear J K H x r;obtain⟨a5,y,O,v⟩:=cA W (yhL i j k R D L G gr 1) 56;replace y:Hid _:=y;have a6:w.heap.size≤W.heap.size:=C.size;have a7:=M.lt;have A:=S.l v;have Q:=M.l v;have E:=aa C v;clear S M C v
   go_upto_region 2 with fail
   rw[y.out];clear y;have a0:=A.c 0 rfl;have a1:=A.c 3 rfl;have a2:=A.c 4 rfl;have a3:=O.c 8 rfl
   go_wp2_with fail
   refine(u.out _).mono ?_;rintro zz a9 ⟨a8,rfl,B,N,I⟩;have ff:=N.mono E.size;clear N;have p:=Q.l I;have F:=aa E I;obtain⟨U,T,hv⟩:=B.shape;subst hv;clear A Q O E I u a0 a1 a2 a3
   first| (rename Mgk 0=>_z;have o:=dL (P:=Tryz.prog) p F (by omega) underlying30 rfl (by kernel_rfl) (yi 2) (.bool true) (.bool t.s) (yS U t.n T) (yi t.e))| (have o:=dL (P:=Tryz.prog) p F (by omega) underlying30 rfl (by kernel_rfl) (yi 2) (.bool false) (.bool t.s) (yS U t.n T) (yi t.e))
   have X:Hid (_∧_∧_):=⟨o.1,o.2.2.rd B (mu B p),o.2.1⟩;obtain⟨⟨z0,z1,z2,z3,z4⟩,y0,y1,y2,y3,y4⟩:=dN p;clear o p B F
   go_wp2
   obtain⟨hl,a4,Z⟩:=X.out;exact bodyPost_ret (aj results60 rfl rfl hl) rfl ⟨_,rfl,a4,ff,Z⟩
theorem refPl_low (m:Bool)(t:Bool)(n y z A R D L G g p wy:Int)(gr Z F:Bool)(E:Option Addr)(C B:Nat)(w:World)(h1:(g==1)=false)(h2:1<g)(h3:p<L)(b:yJ 15 #[yi n] (.tuple #[yhV y z A R D L G gr g,.bool Z]))
  (d:yJ 103 #[yi n,.bool false] (yoV 1 t false yN 0)):
  yC 60 #[yi n,ypV F (yS E C B) p m false true,yi wy] w (RVG w 1 t ⟨false,0,0⟩ 3):=by
 replace b:Hid _:=b;replace d:Hid _:=d;obtain⟨W4,i,H,J,x⟩:=iG w (ypL F (yS E C B) p m false true) 123 (yoL 0 false false yN 0) 30;replace i:Hid _:=i
 cases m
 all_goals
  go_enter func60,ntmps60
  go_upto_region 1 with fail
  rw[i.out];clear i
  go_wp2_with fail
  refine(b.out _).mono ?_;rintro zz M ⟨rfl,f⟩;have K:=H.l f;have s:=J.l f;have j:=aa x f;clear H J x f b;obtain⟨a0,h,q,e⟩:=cA M (yhL y z A R D L G gr g) 56;replace h:Hid _:=h;have a1:w.heap.size≤M.heap.size:=j.size;have a2:=s.lt;have a:=K.l e;have I:=s.l e;have u:=aa j e;clear K s j e
  go_upto_region 2 with fail
  rw[h.out];clear h;have Q:=a.c 2 rfl;have S:=a.c 3 rfl;have T:=a.c 4 rfl;have U:=a.c 5 rfl;have W:=q.c 5 rfl;have X:=q.c 8 rfl
  go_wp2_with fail
  refine(d.out _).mono ?_;rintro zz a3 ⟨rfl,k⟩;have r:=I.l k;have v:=aa u k;clear a I q u k d Q S T U W X;have o:=dL (P:=Tryz.prog) r v (by omega) underlying30 rfl (by kernel_rfl) (yi 1) (.bool t) (.bool false) yN (yi 0);have N:Hid (_∧_):=⟨o.1,o.2.1⟩;obtain⟨⟨z0,z1,z2,z3,z4⟩,y0,y1,y2,y3,y4⟩:=dN r;clear o r v
  go_wp2
  obtain⟨Y,O⟩:=N.out;exact bodyPost_ret (aj results60 rfl rfl Y) rfl ⟨_,rfl,aN _ _,jt _ _ _,O⟩
open Go.RowKit Go.ChangeMaps Go.MapKept
def Xo:Array MapEntry:= #[⟨yi 1,yi 4,0⟩,⟨yi 2,yi 1,1⟩,⟨yi 3,yi 5,2⟩]
theorem JQ (w:World):yC 195 #[] w fun z w'=>z= .returned (.map (some w.heap.size))∧w'.heap[w.heap.size]? =some (.map Xo 3)∧yB w w':=by
 have b:=underlying253;have a:=underlying90;have e:(w.alloc (.map #[] 0)).heap[w.heap.size]? =some (.map #[] 0):=heap_alloc_new _ _;have k:=af w (.map #[] 0);have o:=run_makeMap (P:=Tryz.prog) 253 w;obtain⟨m,p,f,c⟩:=sS b a e (Nat.le_refl _) k 1 (yi 4) rfl;obtain⟨n,q,g,d⟩:=sS b a f (Nat.le_refl _) c 2 (yi 1) rfl;obtain⟨j,r,h,l⟩:=sS b a g (Nat.le_refl _) d 3 (yi 5) rfl;have i:Hid (j.heap[w.heap.size]? =some (.map Xo 3)):=h;clear f g h c d b a e
 go_enter func195,ntmps195
 go_wp2
 go_ret
 exact⟨rfl,i.out,l⟩
def AZ (f:Int):Int:=if f=1 then 4 else if f=2 then 1 else 5
theorem A5 (f:Int)(e:f=1∨f=2∨f=3)(w:World):yC 179 #[yi f] w (yR w (yi (AZ f))):=by
 have d:Hid _:=JQ;have b:Hid (∀W r,W.heap[r]? =some (.map Xo 3)→(Instr.lookup 253 (.map (some r)) (yi f) false).run Tryz.prog W= .ok (yi (AZ f)) W):=fun W r a=>by
  rcases e with rfl|rfl|rfl
  ·exact pj underlying253 underlying90 a 1 (i:=0) rfl
  ·exact pj underlying253 underlying90 a 2 (i:=1) rfl
  ·exact pj underlying253 underlying90 a 3 (i:=2) rfl
 generalize AZ f=c at*;clear e
 go_enter func179,ntmps179
 go_wp2_with fail
 refine(d.out _).mono ?_;rintro z h ⟨rfl,a,g⟩;have j:=b.out h _ a;clear a b d
 go_wp2
 go_ret
 exact⟨rfl,g⟩
def aaV (wy:Int)(ng:Bool):Bool:=if wy=1∨wy=2 then true else if wy=4 then !ng else(ng&&decide (wy=5))
theorem CT (n a b R D L G:Int)(gr ng:Bool)(e:1≤a∧a≤5)(w:World):yC 180 #[ykV n a b R D L G gr,.bool ng] w (yR w (.bool (aaV a ng))):=by
 have d:a=1∨a=2∨a=3∨a=4∨a=5:=by omega
 have c:=af w (.cells (ykA n a b R D L G gr) 175);clear e
 rcases d with rfl|rfl|rfl|rfl|rfl
 all_goals
  cases ng
  all_goals
   go_enter func180,ntmps180
   go_wp2
   go_ret
   exact⟨rfl,c⟩
theorem It (n b a R D L G c p fl h:Int)(gr ng:Bool)(d:Option Addr)(g f:Nat)(t:ByteArray)(w:World)
  (k:yH w 11 #[yi n,yvV c ng (.slice d g f) p] (.tuple #[.string t,yi h])):
  yC 110 #[ykV n b a R D L G gr,yvV c ng (.slice d g f) p,yi fl] w (yR w (if h=0 then .tuple #[.string t,yi fl,yi 0] else .tuple #[.string ⟨#[]⟩,yi 0,yi h])):=by
 replace k:Hid _:=k;have s:=af w (.cells (ykA n b a R D L G gr) 175);have o:=af (w.alloc (.cells (ykA n b a R D L G gr) 175)) (.cells (yvA c ng (.slice d g f) p) 39);have m:=(ah w (ykL n b a R D L G gr) 175).l o;have j:=ah (w.alloc (.cells (ykA n b a R D L G gr) 175)) (yvL c ng (.slice d g f) p) 39;rw[World.size_alloc] at j;have e:=aa s o;clear s o
 by_cases i:h=0
 ·rw[if_pos i]
  subst i
  go_enter func110,ntmps110
  go_upto_region 1 with fail
  generalize(w.alloc (.cells (ykA n b a R D L G gr) 175)).alloc (.cells (yvA c ng (.slice d g f) p) 39)=W0 at m j e⊢;have B:=m.c 0 rfl;obtain⟨v,x,y,A⟩:=j.cs4
  go_wp2_with fail
  refine(k.out _ e).mono ?_;rintro z u ⟨rfl,r⟩;have q:=aa e r
  go_wp2
  go_ret3
  exact⟨rfl,q⟩
 ·rw[if_neg i]
  have C:(h==0)=false:=by simpa using i
  go_enter func110,ntmps110
  go_upto_region 1 with fail
  generalize(w.alloc (.cells (ykA n b a R D L G gr) 175)).alloc (.cells (yvA c ng (.slice d g f) p) 39)=W0 at m j e⊢;have B:=m.c 0 rfl;obtain⟨v,x,y,A⟩:=j.cs4
  go_wp2_with fail
  refine(k.out _ e).mono ?_;rintro z u ⟨rfl,r⟩;have q:=aa e r;clear i
  go_wp2
  go_ret3
  exact⟨rfl,q⟩
theorem sL (sz ex fr:Nat)(R D L G a5 H:Int)(gr ng:Bool)(bn A:Nat)(m:Nat)(p:Int)(v:Value)(w:World)
  (hr:Rd w .i64 v (Dg.dg 65536 m)) (hm:m<340282366920938463463374607431768211456) (hn:w.cell? ⟨bn,0,none⟩=some (.bool ng)) (hf:au w A 56 (yhL sz ex fr R D L G gr a5)) (bw:1≤H) (bx:H≤4) (bt: -100000≤p) (bv:p≤100000)
  (b4:yJ 21 #[ygV R D L G gr] (yi H)):
  yC 19 #[v,yi p,.pointer (some ⟨bn,0,none⟩),.pointer (some ⟨A,0,none⟩)] w (Hf w (if m=0 then 1 else 2) ng (bare ⟨ng,m,H*p⟩)):=by
 have HW:Hid _:=b4;clear b4;obtain⟨ao,ca,rfl⟩:=hr.shape;have bm:(Dg.dg 65536 m).length≤8:=Dg.dg_len_le 65536 m 8 (by omega) hm;have Z:=af w (.cells (yoA 0 false false yN 0) 30);have F0:TG w bn A ng (yhL sz ex fr R D L G gr a5) (yS ao m ca) m (w.alloc (.cells (yoA 0 false false yN 0) 30)).drew:=(⟨ah w _ _,hf.l Z,cell_later Z hn,Z,hr.l Z⟩:TG w bn A ng (yhL sz ex fr R D L G gr a5) (yS ao m ca) m (w.alloc (.cells (yoA 0 false false yN 0) 30))).l (Below.refl _ _).drew;have a9:TG w bn A ng (yhL sz ex fr R D L G gr a5) (yS ao m ca) m (w.alloc (.cells (yoA 0 false false yN 0) 30)):=⟨ah w _ _,hf.l Z,cell_later Z hn,Z,hr.l Z⟩;have a1:=(a9.l (af _ (.cells (ydA false yN 0) 28))).l (Below.refl _ _).drew;have a4:=(ah (w.alloc (.cells (yoA 0 false false yN 0) 30)) (ydL false yN 0) 28).drew;rw[World.size_alloc] at a4;have na:=a1.n;obtain⟨an,ap,aq,ar,av,aw,ax,ay,az⟩:=a1.f.cs9;have bg: -400000≤H*p:=by
  rcases(by omega:H=1∨H=2∨H=3∨H=4) with h|h|h|h<;>subst h<;>omega
 have bh:H*p≤400000:=by
  rcases(by omega:H=1∨H=2∨H=3∨H=4) with h|h|h|h<;>subst h<;>omega
 obtain⟨E,hE⟩: ∃E,H*p=E:=⟨_,rfl⟩;rw[hE] at bg bh⊢;have bz:IntKind.i64.wrap (H*p)=E:=by rw[hE];exact IntWalk.i64_in _ ⟨by omega,by omega⟩
 have HB:Hid (∀u,yB w u→yC 20 #[ydV ng (yS ao m ca) E] u (Xi w.heap.size u (bare ⟨ng,m,E⟩))):=fun u b1=>Calls.mono (lA _ ⟨ng,m,E⟩ u ⟨_,rfl,hr.l b1⟩ (by show(Dg.dg 65536 m).length≤100000;omega) (by show-1000000≤E;omega) (by show E≤1000000;omega)) fun _ _ h=>h.hid b1.size
 have ac:(bare ⟨ng,m,E⟩).n=0↔m=0:=EE ⟨ng,m,E⟩;obtain⟨⟨i,d,g⟩,hT⟩: ∃t,bare ⟨ng,m,E⟩=t:=⟨_,rfl⟩;have bd:d=0→i=false∧g=0:=fun h=>O9 hT h
 rw[hT] at HB ac⊢;simp only at ac;obtain⟨cl,ae⟩: ∃x:Int,(if m=0 then 1 else 2)=x:=⟨_,rfl⟩
 rw[ae];have a2:Hid (_∧_∧_):=⟨ae,ac,bd⟩;clear hE hT ae ac bd;have n0:=F0.n;have bl:bn<w.heap.size:=World.block_lt_of_cell? w ⟨bn,0,none⟩ hn;have bj:A<w.heap.size:=hf.lt;have bq:w.heap.size+1≠bn:=by omega
 have bs:w.heap.size+1≠A:=by omega
 obtain⟨x0,x1,x2,x3,x4,x5,x6,x7,x8⟩:=F0.f.cs9
 go_enter func19,ntmps19
 go_wp2_with fail
 go_region_held3 (fun W=>W.cell? ⟨bn,0,none⟩=some (.bool ng)∧W.cell? ⟨A,0,none⟩=some (yi sz)∧W.cell? ⟨A,1,none⟩=some (yi ex)∧W.cell? ⟨A,2,none⟩=some (yi fr)∧W.cell? ⟨A,3,none⟩=some (yi R)∧W.cell? ⟨A,4,none⟩=some (yi D)∧W.cell? ⟨A,5,none⟩=some (yi L)∧W.cell? ⟨A,6,none⟩=some (yi G)∧W.cell? ⟨A,7,none⟩=some (.bool gr)∧W.cell? ⟨A,8,none⟩=some (yi a5)) (go_keep) (first
  | (go_at_call 21;refine(HW.out _).mono ?_;rintro z u ⟨rfl,b1⟩;(first| (have N:=F0.l b1;have ad:=ah u (ydL false yN 0) 28;have ab:=N.l (af _ (.cells (ydA false yN 0) 28)))| (have N:=a1.l b1;have d1:=a4.l b1));have n1:=N.n;obtain⟨y0,y1,y2,y3,y4,y5,y6,y7,y8⟩:=N.f.cs9;have bo:=World.new_ne u ⟨bn,0,none⟩ n1;have bp:=World.new_ne u ⟨A,0,none⟩ y0)
  | (go_at_call 20;(first| (with_reducible (refine(HB.out _ N.b).mono ?_))| (with_reducible (refine(HB.out _ ab.b).mono ?_)));rintro z U ⟨s2,rfl,Y,b2,f2⟩;obtain⟨k,j,bi⟩:=Y.shape;subst bi;(first| (have F:=N.l b2)| (have F:=ab.l b2));(first| (have I:=d1.l b2;obtain⟨e0,e1,e2⟩:=I.cs3;have g0:=I.f 0;have g1:=I.f 1;have g2:=I.f 2)| (have I:=ad.l b2;obtain⟨e0,e1,e2⟩:=I.cs3;have g0:=I.f 0;have g1:=I.f 1;have g2:=I.f 2)|skip);have n2:=F.n;obtain⟨z0,z1,z2,z3,z4,z5,z6,z7,z8⟩:=F.f.cs9))
 ·have a3:=af U (.cells (ydA i (yS k d j) g) 28)
  have d3:=ah U (ydL i (yS k d j) g) 28;have e:=F.q.l a3;have n3:=cell_later a3 F.n;have J:=aa F.b a3;have M:=Y.l a3;have a0:U.heap.size≠w.heap.size:=Nat.ne_of_gt F.q.lt;clear a3;generalize(U.alloc (.cells (ydA i (yS k d j) g) 28))=w3 at*;clear F0 a9 a1 a4 N F Y x0 an y0 z0 x1 ap y1 z1 x2 aq y2 z2 x3 ar y3 z3 x4 av y4 z4 x5 aw y5 z5 x6 ax y6 z6 x7 ay y7 z7 x8 az y8 z8 n0 na n1 n2 ad ab;generalize U.heap.size=dq at*;obtain⟨b5,b6,b7⟩:=d3.cs3;obtain⟨b8,b9,ba,bb,bc⟩:=e.cs5;have j0:=e.f 0;have j1:=e.f 1;have j2:=e.f 2;have j3:=e.f 3;have j4:=e.f 4
  by_cases T:d=0
  ·subst T
   obtain⟨C,Q,a6⟩:=a2.out;have S:=Q.1 rfl;obtain⟨a7,a8⟩:=a6 rfl;rw[if_pos S] at C;subst C a7 a8;have y:=((((ag w3 w.heap.size 0 (yi 1)).trans (ag _ w.heap.size 1 (.bool ng))).trans (ag _ w.heap.size 2 (.bool false))).trans (ag _ w.heap.size 3 yN)).trans (ag _ w.heap.size 4 (yi 0));have B:au (((((w3.setCell ⟨w.heap.size,0,none⟩ (yi 1)).setCell ⟨w.heap.size,1,none⟩ (.bool ng)).setCell ⟨w.heap.size,2,none⟩ (.bool false)).setCell ⟨w.heap.size,3,none⟩ yN).setCell ⟨w.heap.size,4,none⟩ (yi 0)) w.heap.size 30 (yoL 1 ng false yN 0):=(((((e.set 0 (yi 1)).set 1 (.bool ng)).set 2 (.bool false)).set 3 yN).set 4 (yi 0));have o:=y.below J (Nat.le_refl _);have s:=aN (((((w3.setCell ⟨w.heap.size,0,none⟩ (yi 1)).setCell ⟨w.heap.size,1,none⟩ (.bool ng)).setCell ⟨w.heap.size,2,none⟩ (.bool false)).setCell ⟨w.heap.size,3,none⟩ yN).setCell ⟨w.heap.size,4,none⟩ (yi 0)) .i64;have r:=run_loadVar_mid (P:=Tryz.prog) _ w.heap.size 0 30 (yoL 1 ng false yN 0) _ B.range underlying30 rfl (by kernel_rfl);have O:Hid (_∧_∧_):=⟨r,s,o⟩;clear r s o B y e J M
   go_wp2
   obtain⟨r,s,o⟩:=O.out;exact bodyPost_ret (br results19 rfl r) rfl ⟨_,rfl,s,o,lO _⟩
  ·have be:(((Dg.dg 65536 d).length:Int)==0)=false:=by simp[Dg.dg_nil_iff 65536 d (by omega)];exact T
   obtain⟨C,Q,-⟩:=a2.out;have S:m≠0:=fun h=>T (Q.2 h)
   rw[if_neg S] at C;subst C;have y:=((((ag w3 w.heap.size 0 (yi 2)).trans (ag _ w.heap.size 1 (.bool ng))).trans (ag _ w.heap.size 2 (.bool i))).trans (ag _ w.heap.size 3 (yS k d j))).trans (ag _ w.heap.size 4 (yi g));have B:au (((((w3.setCell ⟨w.heap.size,0,none⟩ (yi 2)).setCell ⟨w.heap.size,1,none⟩ (.bool ng)).setCell ⟨w.heap.size,2,none⟩ (.bool i)).setCell ⟨w.heap.size,3,none⟩ (yS k d j)).setCell ⟨w.heap.size,4,none⟩ (yi g)) w.heap.size 30 (yoL 2 ng i (yS k d j) g):=(((((e.set 0 (yi 2)).set 1 (.bool ng)).set 2 (.bool i)).set 3 (yS k d j)).set 4 (yi g));have o:=y.below J (Nat.le_refl _);have ov:=cq M (Dg.norm_dg _ _ (by omega)) e (fun x K n hn=>by simp at K;rcases K with rfl|rfl|rfl|rfl|rfl<;>simp;all_goals omega)
   have s:=y.rd M ov;have r:=run_loadVar_mid (P:=Tryz.prog) _ w.heap.size 0 30 (yoL 2 ng i (yS k d j) g) _ B.range underlying30 rfl (by kernel_rfl);have O:Hid (_∧_∧_):=⟨r,s,o⟩;clear r s o B y e J M
   go_wp2
   obtain⟨r,s,o⟩:=O.out;exact bodyPost_ret (br results19 rfl r) rfl ⟨_,rfl,s,o,f2.out⟩
 ·have a0:u.heap.size≠w.heap.size:=Nat.ne_of_gt N.q.lt
  have al:w.heap.size≤u.heap.size:=Nat.le_of_lt N.q.lt;have X:=((ag U u.heap.size 0 (.bool i)).trans (ag _ u.heap.size 1 (yS k d j))).trans (ag _ u.heap.size 2 (yi g));have d3:au (((U.setCell ⟨u.heap.size,0,none⟩ (.bool i)).setCell ⟨u.heap.size,1,none⟩ (yS k d j)).setCell ⟨u.heap.size,2,none⟩ (yi g)) u.heap.size 28 (ydL i (yS k d j) g):=(((I.set 0 (.bool i)).set 1 (yS k d j)).set 2 (yi g));have e:=((F.q.off a0 0 (.bool i)).off a0 1 (yS k d j)).off a0 2 (yi g);have n3:=(X.c (a:=⟨bn,0,none⟩) (by show bn≠u.heap.size;omega)).trans F.n
  have J:=X.below F.b al;have M:=X.rd Y (cq Y (Dg.norm_dg _ _ (by omega)) I (fun x K n hn=>by simp at K;rcases K with rfl|rfl|rfl<;>simp;all_goals omega))
  clear X;generalize(((U.setCell ⟨u.heap.size,0,none⟩ (.bool i)).setCell ⟨u.heap.size,1,none⟩ (yS k d j)).setCell ⟨u.heap.size,2,none⟩ (yi g))=w3 at*;clear F0 a9 a1 a4 N F Y x0 an y0 z0 x1 ap y1 z1 x2 aq y2 z2 x3 ar y3 z3 x4 av y4 z4 x5 aw y5 z5 x6 ax y6 z6 x7 ay y7 z7 x8 az y8 z8 n0 na n1 n2 I e0 e1 e2 g0 g1 g2 ad ab;generalize u.heap.size=dq at*;obtain⟨b5,b6,b7⟩:=d3.cs3;obtain⟨b8,b9,ba,bb,bc⟩:=e.cs5;have j0:=e.f 0;have j1:=e.f 1;have j2:=e.f 2;have j3:=e.f 3;have j4:=e.f 4
  by_cases T:d=0
  ·subst T
   obtain⟨C,Q,a6⟩:=a2.out;have S:=Q.1 rfl;obtain⟨a7,a8⟩:=a6 rfl;rw[if_pos S] at C;subst C a7 a8;have y:=((((ag w3 w.heap.size 0 (yi 1)).trans (ag _ w.heap.size 1 (.bool ng))).trans (ag _ w.heap.size 2 (.bool false))).trans (ag _ w.heap.size 3 yN)).trans (ag _ w.heap.size 4 (yi 0));have B:au (((((w3.setCell ⟨w.heap.size,0,none⟩ (yi 1)).setCell ⟨w.heap.size,1,none⟩ (.bool ng)).setCell ⟨w.heap.size,2,none⟩ (.bool false)).setCell ⟨w.heap.size,3,none⟩ yN).setCell ⟨w.heap.size,4,none⟩ (yi 0)) w.heap.size 30 (yoL 1 ng false yN 0):=(((((e.set 0 (yi 1)).set 1 (.bool ng)).set 2 (.bool false)).set 3 yN).set 4 (yi 0));have o:=y.below J (Nat.le_refl _);have s:=aN (((((w3.setCell ⟨w.heap.size,0,none⟩ (yi 1)).setCell ⟨w.heap.size,1,none⟩ (.bool ng)).setCell ⟨w.heap.size,2,none⟩ (.bool false)).setCell ⟨w.heap.size,3,none⟩ yN).setCell ⟨w.heap.size,4,none⟩ (yi 0)) .i64;have r:=run_loadVar_mid (P:=Tryz.prog) _ w.heap.size 0 30 (yoL 1 ng false yN 0) _ B.range underlying30 rfl (by kernel_rfl);have O:Hid (_∧_∧_):=⟨r,s,o⟩;clear r s o B y e J M
   go_wp2
   obtain⟨r,s,o⟩:=O.out;exact bodyPost_ret (br results19 rfl r) rfl ⟨_,rfl,s,o,lO _⟩
  ·have be:(((Dg.dg 65536 d).length:Int)==0)=false:=by simp[Dg.dg_nil_iff 65536 d (by omega)];exact T
   obtain⟨C,Q,-⟩:=a2.out;have S:m≠0:=fun h=>T (Q.2 h)
   rw[if_neg S] at C;subst C;have y:=((((ag w3 w.heap.size 0 (yi 2)).trans (ag _ w.heap.size 1 (.bool ng))).trans (ag _ w.heap.size 2 (.bool i))).trans (ag _ w.heap.size 3 (yS k d j))).trans (ag _ w.heap.size 4 (yi g));have B:au (((((w3.setCell ⟨w.heap.size,0,none⟩ (yi 2)).setCell ⟨w.heap.size,1,none⟩ (.bool ng)).setCell ⟨w.heap.size,2,none⟩ (.bool i)).setCell ⟨w.heap.size,3,none⟩ (yS k d j)).setCell ⟨w.heap.size,4,none⟩ (yi g)) w.heap.size 30 (yoL 2 ng i (yS k d j) g):=(((((e.set 0 (yi 2)).set 1 (.bool ng)).set 2 (.bool i)).set 3 (yS k d j)).set 4 (yi g));have o:=y.below J (Nat.le_refl _);have ov:=cq M (Dg.norm_dg _ _ (by omega)) e (fun x K n hn=>by simp at K;rcases K with rfl|rfl|rfl|rfl|rfl<;>simp;all_goals omega)
   have s:=y.rd M ov;have r:=run_loadVar_mid (P:=Tryz.prog) _ w.heap.size 0 30 (yoL 2 ng i (yS k d j) g) _ B.range underlying30 rfl (by kernel_rfl);have O:Hid (_∧_∧_):=⟨r,s,o⟩;clear r s o B y e J M
   go_wp2
   obtain⟨r,s,o⟩:=O.out;exact bodyPost_ret (br results19 rfl r) rfl ⟨_,rfl,s,o,f2.out⟩
 ·have a0:(w.heap.size+1)≠w.heap.size:=Nat.succ_ne_self _
  have al:w.heap.size≤(w.heap.size+1):=Nat.le_succ _;have X:=((ag U (w.heap.size+1) 0 (.bool i)).trans (ag _ (w.heap.size+1) 1 (yS k d j))).trans (ag _ (w.heap.size+1) 2 (yi g));have d3:au (((U.setCell ⟨w.heap.size+1,0,none⟩ (.bool i)).setCell ⟨w.heap.size+1,1,none⟩ (yS k d j)).setCell ⟨w.heap.size+1,2,none⟩ (yi g)) (w.heap.size+1) 28 (ydL i (yS k d j) g):=(((I.set 0 (.bool i)).set 1 (yS k d j)).set 2 (yi g));have e:=((F.q.off a0 0 (.bool i)).off a0 1 (yS k d j)).off a0 2 (yi g);have n3:=(X.c (a:=⟨bn,0,none⟩) (by show bn≠(w.heap.size+1);omega)).trans F.n
  have J:=X.below F.b al;have M:=X.rd Y (cq Y (Dg.norm_dg _ _ (by omega)) I (fun x K n hn=>by simp at K;rcases K with rfl|rfl|rfl<;>simp;all_goals omega))
  clear X;generalize(((U.setCell ⟨w.heap.size+1,0,none⟩ (.bool i)).setCell ⟨w.heap.size+1,1,none⟩ (yS k d j)).setCell ⟨w.heap.size+1,2,none⟩ (yi g))=w3 at*;clear F0 a9 a1 a4 N F Y x0 an y0 z0 x1 ap y1 z1 x2 aq y2 z2 x3 ar y3 z3 x4 av y4 z4 x5 aw y5 z5 x6 ax y6 z6 x7 ay y7 z7 x8 az y8 z8 n0 na n1 n2 I e0 e1 e2 g0 g1 g2 d1;generalize(w.heap.size+1)=dq at*;obtain⟨b5,b6,b7⟩:=d3.cs3;obtain⟨b8,b9,ba,bb,bc⟩:=e.cs5;have j0:=e.f 0;have j1:=e.f 1;have j2:=e.f 2;have j3:=e.f 3;have j4:=e.f 4
  by_cases T:d=0
  ·subst T
   obtain⟨C,Q,a6⟩:=a2.out;have S:=Q.1 rfl;obtain⟨a7,a8⟩:=a6 rfl;rw[if_pos S] at C;subst C a7 a8;have y:=((((ag w3 w.heap.size 0 (yi 1)).trans (ag _ w.heap.size 1 (.bool ng))).trans (ag _ w.heap.size 2 (.bool false))).trans (ag _ w.heap.size 3 yN)).trans (ag _ w.heap.size 4 (yi 0));have B:au (((((w3.setCell ⟨w.heap.size,0,none⟩ (yi 1)).setCell ⟨w.heap.size,1,none⟩ (.bool ng)).setCell ⟨w.heap.size,2,none⟩ (.bool false)).setCell ⟨w.heap.size,3,none⟩ yN).setCell ⟨w.heap.size,4,none⟩ (yi 0)) w.heap.size 30 (yoL 1 ng false yN 0):=(((((e.set 0 (yi 1)).set 1 (.bool ng)).set 2 (.bool false)).set 3 yN).set 4 (yi 0));have o:=y.below J (Nat.le_refl _);have s:=aN (((((w3.setCell ⟨w.heap.size,0,none⟩ (yi 1)).setCell ⟨w.heap.size,1,none⟩ (.bool ng)).setCell ⟨w.heap.size,2,none⟩ (.bool false)).setCell ⟨w.heap.size,3,none⟩ yN).setCell ⟨w.heap.size,4,none⟩ (yi 0)) .i64;have r:=run_loadVar_mid (P:=Tryz.prog) _ w.heap.size 0 30 (yoL 1 ng false yN 0) _ B.range underlying30 rfl (by kernel_rfl);have O:Hid (_∧_∧_):=⟨r,s,o⟩;clear r s o B y e J M
   go_wp2
   obtain⟨r,s,o⟩:=O.out;exact bodyPost_ret (br results19 rfl r) rfl ⟨_,rfl,s,o,lO _⟩
  ·have be:(((Dg.dg 65536 d).length:Int)==0)=false:=by simp[Dg.dg_nil_iff 65536 d (by omega)];exact T
   obtain⟨C,Q,-⟩:=a2.out;have S:m≠0:=fun h=>T (Q.2 h)
   rw[if_neg S] at C;subst C;have y:=((((ag w3 w.heap.size 0 (yi 2)).trans (ag _ w.heap.size 1 (.bool ng))).trans (ag _ w.heap.size 2 (.bool i))).trans (ag _ w.heap.size 3 (yS k d j))).trans (ag _ w.heap.size 4 (yi g));have B:au (((((w3.setCell ⟨w.heap.size,0,none⟩ (yi 2)).setCell ⟨w.heap.size,1,none⟩ (.bool ng)).setCell ⟨w.heap.size,2,none⟩ (.bool i)).setCell ⟨w.heap.size,3,none⟩ (yS k d j)).setCell ⟨w.heap.size,4,none⟩ (yi g)) w.heap.size 30 (yoL 2 ng i (yS k d j) g):=(((((e.set 0 (yi 2)).set 1 (.bool ng)).set 2 (.bool i)).set 3 (yS k d j)).set 4 (yi g));have o:=y.below J (Nat.le_refl _);have ov:=cq M (Dg.norm_dg _ _ (by omega)) e (fun x K n hn=>by simp at K;rcases K with rfl|rfl|rfl|rfl|rfl<;>simp;all_goals omega)
   have s:=y.rd M ov;have r:=run_loadVar_mid (P:=Tryz.prog) _ w.heap.size 0 30 (yoL 2 ng i (yS k d j) g) _ B.range underlying30 rfl (by kernel_rfl);have O:Hid (_∧_∧_):=⟨r,s,o⟩;clear r s o B y e J M
   go_wp2
   obtain⟨r,s,o⟩:=O.out;exact bodyPost_ret (br results19 rfl r) rfl ⟨_,rfl,s,o,f2.out⟩
theorem vM (v u:Value)(a b:ak)(w:World)(hv:Rv w v a)(hu:Rv w u b)(a0:(Dg.dg 65536 a.n).length≤30000)(a1:(Dg.dg 65536 b.n).length≤30000)
  (F: -200000≤a.e) (G:a.e≤200000) (H: -200000≤b.e) (I:b.e≤200000):
  yC 62 #[v,u] w (di w (bare (cO a b))):=by
 obtain⟨s0,rfl,U⟩:=hv;obtain⟨A,C,rfl⟩:=U.shape;obtain⟨s1,rfl,W⟩:=hu;obtain⟨B,D,rfl⟩:=W.shape;obtain⟨m,i,d⟩:=a;obtain⟨o,bn,g⟩:=b;simp only at U W a0 a1 F G H I⊢;obtain⟨E,N⟩: ∃E:Int,(if bn=0 then d else if i=0 then g else min d g)=E:=⟨_,rfl⟩
 have hl: -200000≤E∧E≤200000:=by
  rw[←N];split
  ·omega
  ·split<;>omega
 obtain⟨X,O⟩: ∃X,i*2^ (max 0 (d-E)).toNat=X:=⟨_,rfl⟩;obtain⟨Y,R⟩: ∃Y,bn*2^ (max 0 (g-E)).toNat=Y:=⟨_,rfl⟩;have hd:cO ⟨m,i,d⟩ ⟨o,bn,g⟩=if m=o then⟨m,X+Y,E⟩ else if Y≤X then⟨m,X-Y,E⟩ else⟨o,Y-X,E⟩:=by
  simp only[cO,N,O,R]
 have S:((((Dg.dg 65536 i).length:Int)==0)=false∧(((Dg.dg 65536 bn).length:Int)==0)=false∧min d g=E)∨((((Dg.dg 65536 i).length:Int)==0)=true∧(((Dg.dg 65536 bn).length:Int)==0)=false∧g=E)∨((((Dg.dg 65536 i).length:Int)==0)=false∧(((Dg.dg 65536 bn).length:Int)==0)=true∧d=E)∨((((Dg.dg 65536 i).length:Int)==0)=true∧(((Dg.dg 65536 bn).length:Int)==0)=true∧d=E):=by
  rw[len_zero,len_zero,←N]
  by_cases j:i=0<;>by_cases k:bn=0<;>simp[j,k]
 have lx:(Dg.dg 65536 X).length≤55001:=by rw[←O];exact Nat.le_trans (jZ i _ 30000 25001 a0 (by omega)) (by omega)
 have ly:(Dg.dg 65536 Y).length≤55001:=by rw[←R];exact Nat.le_trans (jZ bn _ 30000 25001 a1 (by omega)) (by omega)
 have wr: ∀e:Int,-200000≤e→e≤200000→IntKind.i64.wrap (e-E)=e-E:=fun e j k=>IntWalk.i64_in _ ⟨by omega,by omega⟩
 have L: ∀c,yB w c→yC 93 #[yS A i C,yi (max 0 (d-E))] c (cG c X):=fun c f=>by
  have:=kD _ _ (max 0 (d-E)).toNat c (U.l f) (Dg.small_dg _ _ (by omega)) (by omega) (by omega)
  rwa [Dg.vl_dg _ _ (by omega),Int.toNat_of_nonneg (by omega),O] at this
 have M: ∀c,yB w c→yC 93 #[yS B bn D,yi (max 0 (g-E))] c (cG c Y):=fun c f=>by
  have:=kD _ _ (max 0 (g-E)).toNat c (W.l f) (Dg.small_dg _ _ (by omega)) (by omega) (by omega)
  rwa [Dg.vl_dg _ _ (by omega),Int.toNat_of_nonneg (by omega),R] at this
 have K: ∀s Z z y c,(Dg.dg 65536 Z).length≤100000→yB w c→Rd c .i64 (yS z Z y) (Dg.dg 65536 Z)→yC 20 #[ydV s (yS z Z y) E] c (Xi w.heap.size c (bare ⟨s,Z,E⟩)):=
  fun s Z z y c h f r=>(lA _ ⟨s,Z,E⟩ c ⟨_,rfl,r⟩ h (by simp only;omega) (by simp only;omega)).mono fun _ _ h=>h.hid f.size
 have ml: ∀P Q:Nat,(Dg.dg 65536 P).length≤55001→(Dg.dg 65536 (P-Q)).length≤100000:=fun P Q h=>Nat.le_trans (aH 65536 _ P (by omega) (Nat.sub_le _ _)) (by omega)
 have HC: ∀q p x t c,yB w c→Rd c .i64 (yS q X p) (Dg.dg 65536 X)→Rd c .i64 (yS x Y t) (Dg.dg 65536 Y)→yC 23 #[yS q X p,yS x Y t] c (yR c (yi (dm X Y))):=fun q p x t c _ j k=>by
  have:=fm _ _ _ _ c j k (Dg.small_dg _ _ (by omega)) (Dg.small_dg _ _ (by omega)) (Dg.norm_dg _ _ (by omega)) (Dg.norm_dg _ _ (by omega))
  rwa [Dg.vl_dg _ _ (by omega),Dg.vl_dg _ _ (by omega)] at this
 rw[hd]
 by_cases T:m=o
 ·subst T
  rw[if_pos rfl];refine refDP_same d g E _ _ _ _ m A B _ _ C D X Y (X+Y) _ w S (wr _ F G) (wr _ H I) rfl rfl L M (fun q p x t c _ j k=> ?_) (fun z y c f r=>K _ _ _ _ _ ?_ f r)
  ·have:=ew _ _ _ _ c j k (Dg.small_dg _ _ (by omega)) (Dg.small_dg _ _ (by omega)) (Dg.norm_dg _ _ (by omega)) (Dg.norm_dg _ _ (by omega)) (by omega) (by omega)
   rwa [Dg.vl_dg _ _ (by omega),Dg.vl_dg _ _ (by omega)] at this
  ·exact Nat.le_trans (og X Y 55001 lx ly) (by omega)
 ·have a2:(m==o)=false:=by simpa using T
  rw[if_neg T]
  by_cases J:Y≤X
  ·rw[if_pos J]
   refine refDP_geq d g E _ _ _ _ m o A B _ _ C D X Y (X-Y) _ w (dm X Y) a2 ?_ S (wr _ F G) (wr _ H I) rfl rfl L M HC (fun q p x t c _ j k=> ?_) (fun z y c f r=>K _ _ _ _ _ (ml _ _ lx) f r)
   ·unfold dm;split
    ·omega
    ·split<;>omega
   ·have:=kI _ _ _ _ c j k (Dg.small_dg _ _ (by omega)) (Dg.small_dg _ _ (by omega)) (by omega) (aH _ _ _ (by omega) J) (by rw[Dg.vl_dg _ _ (by omega),Dg.vl_dg _ _ (by omega)];exact J)
    rwa [Dg.vl_dg _ _ (by omega),Dg.vl_dg _ _ (by omega)] at this
  ·rw[if_neg J]
   refine refDP_less d g E _ _ _ _ m o A B _ _ C D X Y (Y-X) _ w (dm X Y) a2 ?_ S (wr _ F G) (wr _ H I) rfl rfl L M HC (fun q p x t c _ j k=> ?_) (fun z y c f r=>K _ _ _ _ _ (ml _ _ ly) f r)
   ·unfold dm;split
    ·omega
    ·split<;>omega
   ·have:=kI _ _ _ _ c k j (Dg.small_dg _ _ (by omega)) (Dg.small_dg _ _ (by omega)) (by omega) (aH _ _ _ (by omega) (by omega)) (by rw[Dg.vl_dg _ _ (by omega),Dg.vl_dg _ _ (by omega)];omega)
    rwa [Dg.vl_dg _ _ (by omega),Dg.vl_dg _ _ (by omega)] at this
theorem kR (t:ak):(bare t).n≤t.n:=by
 unfold bare
 split
 ·exact Nat.zero_le _
 ·exact Nat.div_le_self _ _
def ix (xs:List Nat)(p R D L G:Int):Int:=
 if chk xs=0 then(if bk R D L G=0 then(if eJ 20000 p=true then 3 else 0) else bk R D L G) else chk xs
theorem A8 {m n:Int}(h:eJ m n=false): -m≤n∧n≤m:=by
 unfold eJ at h;simp at h;omega
theorem kA {xs:List Nat}{p R D L G:Int}(a:chk xs=0)(b:bk R D L G=0)(c:eJ 20000 p=false):ix xs p R D L G=0:=by
 unfold ix;rw[if_pos a,if_pos b,if_neg (by rw[c];decide)]
theorem CW (R D L G:Int)(gr ng:Bool)(a:Option Addr)(c b:Nat)(p:Int)(w:World)(h: -1000000≤(ai R:Int)*p∧(ai R:Int)*p≤1000000):
  yC 118 #[ygV R D L G gr,.bool ng,.agg #[.slice a c b,yi p]] w (yR w (ydV ng (.slice a c b) ((ai R:Int)*p))):=by
 refine Zq R D L G gr ng a c b p (ai R) w (IntWalk.i64_in _ ⟨by omega,by omega⟩) (fun d=> ?_)
 have:=tY R D L G gr d
 rwa [jf] at this
theorem encNum_held_mg:
  (∀(R D L G e:Int) (gr:Bool) (sz d:Nat) (F:Nat) (c p:Int) (ng:Bool) (h:Option Addr) (b i:Nat) (w:World)
  (r:ak) (j:Int) (_: ∀a,yB w a→yC 71 #[ylV R D L G gr sz d e F,yvV c ng (.slice h b i) p] a (gR a (r,j)))
  (m:Bool) (k:Int) (_: ∀g f a,yB w a→Rd a .u32 (yT g r.n f) (Dg.dg 4294967296 r.n)→yC 72 #[yDV r g f,ygV R D L G gr] a (yR a (.tuple #[.bool m,yi k])))
  (Y:ByteArray) (N:Int) (_: ∀g f a,yB w a→Rd a .u32 (yT g r.n f) (Dg.dg 4294967296 r.n)→yC 73 #[ylV R D L G gr sz d e F,yDV r g f] a (yR a (.tuple #[.string Y,yi N]))) (_: -20000≤p) (_:p≤20000) (_:0<b) (_:j=0) (_:k=0) (_:m=true),
  yC 37 #[ylV R D L G gr sz d e F,yvV c ng (.slice h b i) p] w (yR w (.tuple #[.string Y,yi N])))∧
  (∀(R D L G e:Int) (gr:Bool) (sz d:Nat) (F:Nat) (c p:Int) (ng:Bool) (h:Option Addr) (b i:Nat) (w:World)
  (r:ak) (j:Int) (_: ∀a,yB w a→yC 71 #[ylV R D L G gr sz d e F,yvV c ng (.slice h b i) p] a (gR a (r,j)))
  (m:Bool) (k:Int) (_: ∀g f a,yB w a→Rd a .u32 (yT g r.n f) (Dg.dg 4294967296 r.n)→yC 72 #[yDV r g f,ygV R D L G gr] a (yR a (.tuple #[.bool m,yi k]))) (_: -20000≤p) (_:p≤20000) (_:0<b) (_:j=0) (_:k=0) (_:m=false),
  yC 37 #[ylV R D L G gr sz d e F,yvV c ng (.slice h b i) p] w (yR w (.tuple #[.string ⟨#[]⟩,yi 4]))):=by
 refine⟨?_, ?_⟩;have _z:Mgk 0:=mgkI 0
 all_goals
  first| (rename Mgk 0=>_z;intro R D L G e gr sz d F c p ng h b i w r j H m k E Y N Z a4 a5 hd P O a7)| (intro R D L G e gr sz d F c p ng h b i w r j H m k E a4 a5 hd P O a6)
  first| (rename Mgk 0=>_z;subst P O a7)| (subst P O a6)
  have ab: ¬p< -20000:=by omega
  have ac: ¬20000<p:=by omega
  have a3:Hid _:=H;have a9:((b:Int)==0)=false:=by simp;omega
  clear H;have a2:Hid _:=E;clear E
  first| (rename Mgk 0=>_z;have a1:Hid _:=Z;clear Z)|skip
  have ad:=cD;have M:=af (w.alloc (.cells (ylA R D L G gr sz d e F) 93)) (.cells (yvA c ng (.slice h b i) p) 39);have Q:=(ah w (ylL R D L G gr sz d e F) 93).l M;have T:=ah (w.alloc (.cells (ylA R D L G gr sz d e F) 93)) (yvL c ng (.slice h b i) p) 39;have b0:=aa (af w (.cells (ylA R D L G gr sz d e F) 93)) M;rw[World.size_alloc] at T;clear M;obtain⟨s,t,u,v,x,y,A,B,C⟩:=Q.cs9;obtain⟨u0,u1,u2,u3⟩:=T.cs4
  go_enter func37,ntmps37
  go_wp2_with fail
  refine(a3.out _ b0).mono ?_;rintro z a ⟨s1,rfl,U,K⟩;obtain⟨g,f,a8⟩:=U.rd.shape;subst a8;simp only;have q:=af a (.cells (yDA r g f) 41);have S:=(Q.l K).l q;have W:=ah a (yDL r g f) 41;have X:=U.rd.l q;have I:=aa (aa b0 K) q;clear U K q Q T s t u v x y A B C u0 u1 u2 u3;obtain⟨s,t,u,v,x,y,A,B,C⟩:=S.cs9;obtain⟨q0,a0,q2⟩:=W.cs3
  go_wp2_with fail
  refine(a2.out _ _ _ I X).mono ?_;rintro z w2 ⟨rfl,o⟩;have l2:=S.l o;have q2:=W.l o;have r2:=X.l o;have J:=aa I o;clear S W X I o s t u v x y A B C q0 a0;obtain⟨s,t,u,v,x,y,A,B,C⟩:=l2.cs9;obtain⟨ae,a0,al⟩:=q2.cs3
  first| (rename Mgk 0=>_z;go_wp2_with fail;refine(a1.out _ _ _ J r2).mono ?_;rintro z w3 ⟨rfl,b3⟩)|skip
  go_wp2
  go_ret2
  first| (rename Mgk 0=>_z;exact⟨rfl,aa J b3⟩)| (exact⟨rfl,J⟩)
theorem eR {k:Nat}(a:1≤k∧k≤8):1≤exN k∧1≤frN k∧1≤dgN k∧dgN k≤64∧ -16445≤lsI k∧lsI k≤0∧lsI k≤gsI k∧gsI k≤16320∧ai (rdN k)*dgN k≤64∧ai (rdN k)≤4∧1≤ai (rdN k)∧bk (rdN k) (dgN k) (lsI k) (gsI k)=0:=by
 rcases bO a with rfl|rfl|rfl|rfl|rfl|rfl|rfl|rfl<;>exact⟨by decide,by decide,by decide,by decide,by decide,by decide,by decide,by decide,by decide,by decide,by decide,by decide⟩
theorem ME {k:Nat}(b:1≤k∧k≤8)(zs:List Nat)(a:zs.length=szN k):jT k (jT k zs)=zs:=by
 apply List.ext_getElem (by rw[nM,nM]);intro p g d;have e:(jT k (jT k zs)).getD p 0=(jT k (jT k zs))[p]:=by simp only[List.getD_eq_getElem?_getD,List.getElem?_eq_getElem g,Option.getD_some]
 have f:zs.getD p 0=zs[p]:=by simp only[List.getD_eq_getElem?_getD,List.getElem?_eq_getElem d,Option.getD_some]
 have c:p<szN k:=by omega
 rw[←e,←f,Kh k _ p (by rw[nM];exact a) (by rw[nM];exact d),Kh k zs _ a (by rw[a];exact Co b c),xU b c]
theorem Hm (zs:List Nat)(b:Dg.Small 256 zs):jr (cF zs)=zs:=by
 unfold jr cF;apply List.ext_getElem (by simp);intro p c a;have h:=b p;rw[List.getD_eq_getElem?_getD,List.getElem?_eq_getElem a,Option.getD_some] at h;simp;exact h
theorem FZ (r:Nat)(a:2≤r): ∀(j n q:Nat) (p:Int),q % r≠0→r^j*q<2^n→lJ r n (r^j*q) p=(q,p+(j:Int))
 |0,n,q,p,hq,hn=>by
  rw[Nat.pow_zero,Nat.one_mul] at hn⊢
  cases n with
  |zero=>
   have:q=0:=by simpa using hn
   subst this;simp at hq
  |succ n=>
   rw[lJ,if_neg hq];simp
 |j+1,n,q,p,hq,hn=>by
  have b:r^ (j+1)*q=r*(r^j*q):=by rw[Nat.pow_succ,Nat.mul_comm (r^j) r,Nat.mul_assoc]
  rw[b] at hn⊢
  cases n with
  |zero=>
   exfalso
   have g:r*(r^j*q)=0:=by simpa using hn
   have f:q≠0:=fun h=>hq (by rw[h];simp)
   have c:0<r^j*q:=Nat.mul_pos (Nat.pow_pos (by omega)) (Nat.pos_of_ne_zero f);have d:0<r*(r^j*q):=Nat.mul_pos (by omega) c;omega
  |succ n=>
   rw[lJ,if_pos (Nat.mul_mod_right _ _),Nat.mul_div_cancel_left _ (by omega)];have e:r^j*q<2^n:=by
    have d:2*(r^j*q)≤r*(r^j*q):=Nat.mul_le_mul_right _ a;rw[Nat.pow_succ] at hn;omega
   rw[FZ r a j n q (p+1) hq e]
   congr 1
   push_cast
   omega
theorem Gm {k:Nat}(a:1≤k∧k≤8): -16445≤(ai (rdN k):Int)*lsI k∧(ai (rdN k):Int)*(gsI k+(dgN k:Int))≤16384:=by
 rcases bO a with rfl|rfl|rfl|rfl|rfl|rfl|rfl|rfl<;>decide
theorem zd {k:Nat}(j:1≤k∧k≤8){ng:Bool}{E F:Nat}(a:dh k ng E F=1):ji k ng E F=⟨false,0,0⟩:=by
 have d: ∀(s:Bool) (e:Int),bare ⟨s,0,e⟩=⟨false,0,0⟩:=fun s e=>by simp[bare]
 have l:2≤2^exN k:=by
  rcases bO j with rfl|rfl|rfl|rfl|rfl|rfl|rfl|rfl<;>decide
 unfold dh at a;unfold ji
 by_cases f:k≤3
 ·rw[if_pos f] at a
  by_cases b:E=0
  ·rw[if_pos b] at a
   by_cases c:F=0
   ·subst b c
    by_cases g:k=3
    ·rw[if_pos g,if_neg (by rintro(h|h)<;>omega)]
     exact d _ _
    ·rw[if_neg g,if_pos (by omega),if_neg (by omega),if_neg (by omega)]
     exact d _ _
   ·rw[if_neg c] at a
    omega
  ·rw[if_neg b] at a
   exfalso
   repeat' split at a
   all_goals omega
 ·rw[if_neg f] at a
  rw[if_neg (show¬k=3 by omega),if_neg (show¬k≤2 by omega)]
  by_cases i:k≤5
  ·rw[if_pos i] at a⊢
   by_cases c:F=0
   ·subst c
    exact d _ _
   ·rw[if_neg c] at a
    omega
  ·rw[if_neg i] at a⊢
   by_cases b:E=0
   ·rw[if_pos b]
   ·rw[if_neg b] at a
    omega
theorem QM (n k i R D L G:Int)(gr ng:Bool)(r a:Nat)(w:World)(hR:IntKind.u32.wrap R=(r:Int))
  (A: ∀q f,yB w f→f.cell? ⟨q,0,none⟩=some (.int .u32 r)→yC 45 #[.slice (some ⟨q,0,none⟩) 1 1,yi D] f (Num f a))
  (y: ∀I H q f,Rd f .u32 (yT I a H) (Dg.dg 4294967296 a)→f.cell? ⟨q,0,none⟩=some (.int .u32 1)→yC 196 #[yT I a H,.slice (some ⟨q,0,none⟩) 1 1] f (Num f (a-1))):
  yC 181 #[ykV n k i R D L G gr,.bool ng] w (iT w 2 ng (a-1) G):=by
 replace A:Hid _:=A;replace y:Hid _:=y;have ad:=af w (.cells (ykA n k i R D L G gr) 175);have M:=af (w.alloc (.cells (ykA n k i R D L G gr) 175)) (.cells (yvA 0 false yN 0) 39);have p:=(ah w (ykL n k i R D L G gr) 175).l M;have F:=ah (w.alloc (.cells (ykA n k i R D L G gr) 175)) (yvL 0 false yN 0) 39;rw[World.size_alloc] at F;have N:=aa ad M;clear ad M
 go_enter func181,ntmps181
 go_upto_region 1 with fail
 generalize(w.alloc (.cells (ykA n k i R D L G gr) 175)).alloc (.cells (yvA 0 false yN 0) 39)=W0 at p F N⊢;have y3:=p.c 3 rfl;have y4:=p.c 4 rfl;have e:=af W0 (.cells #[.int .u32 r] 105);have s:=(ah W0 [.int .u32 r] 105).c 0 rfl;have E:=p.l e;have v1:=F.l e;have O:=aa N e;have z3:=E.c 3 rfl;have z4:=E.c 4 rfl;clear e
 go_wp2_with fail
 refine(A.out _ _ O s).mono ?_;rintro z J ⟨u,rfl,Z,B⟩;obtain⟨I,H,Y⟩:=Z.rd.shape;subst Y;have r2:=Z.rd;have d2:=E.l B;have v2:=v1.l B;have a0:=aa O B;clear y3 y4 z3 z4 s p F N E v1 O B Z A hR
 go_upto_region 2 with fail
 have o:yB J J.drew:=(Below.refl _ _).drew;have T:=d2.l o;have v3:=v2.l o;have r3:=r2.l o;have a1:=aa a0 o;clear o d2 v2 r2 a0;refine wp_region_held_drew (S:=fun wq=>wq.cell? ⟨w.heap.size,6,none⟩=some (yi G)) (by kernel_rfl) (T.c 6 rfl) (fun j=> ?_)
 refine tq 0 (.bool ng) rfl (fun x _=>by kernel_rfl) j ?_
 refine tq 1 (yT I a H) rfl (fun x _=>by kernel_rfl) j ?_
 refine tq 4 (.pointer (some ⟨w.heap.size,3,none⟩)) rfl (fun x _=>by kernel_rfl) j ?_
 refine tq 5 (.pointer (some ⟨w.heap.size,6,none⟩)) rfl (fun x _=>by kernel_rfl) j ?_
 refine tq 6 (yi G) rfl (fun x a8=>gU 3 (.tmp 20) rfl w.heap.size 6 (by kernel_rfl) _ _ underlying3 rfl a8) j ?_
 refine wpAnyH_ready (rs:=[2]) (by kernel_rfl) (by simp) ?_;refine AllReadyH.cons rfl (fun K h=> ?_) AllReadyH.nil
 go_simp
 have e:=af J.drew (.cells #[.int .u32 1] 105);have s:=(ah J.drew [.int .u32 1] 105).c 0 rfl;have U:=T.l e;have v4:=v3.l e;have r4:=r3.l e;have a2:=aa a1 e;refine h.out _ _ (U.c 6 rfl) (fun a5=> ?_)
 clear h K e T v3 r3 a1;refine wpAnyH_ready (rs:=[3]) (by kernel_rfl) (by simp) ?_;refine AllReadyH.cons rfl (fun K h=> ?_) AllReadyH.nil
 go_simp
 refine(y.out _ _ _ _ r4 s).mono ?_;rintro z g ⟨u,rfl,o5,C⟩;obtain⟨d,b,Y⟩:=o5.rd.shape;subst Y;have r5:=o5.rd;have W:=U.l C;have v5:=v4.l C;have a3:=aa a2 C;refine h.out _ _ (W.c 6 rfl) (fun a4=> ?_)
 clear h K U v4 r4 a2 C o5 s;have Q:=(((ag g (w.heap.size+1) 0 (yi 2)).trans (ag _ (w.heap.size+1) 1 (.bool ng))).trans (ag _ (w.heap.size+1) 2 (.slice d (Dg.dg 4294967296 (a-1)).length b))).trans (ag _ (w.heap.size+1) 3 (yi G));have m:yB w (g.setCells (w.heap.size+1) 0 (yvL 2 ng (.slice d (Dg.dg 4294967296 (a-1)).length b) G)):=Q.below a3 (by omega);have v:Rd (g.setCells (w.heap.size+1) 0 (yvL 2 ng (.slice d (Dg.dg 4294967296 (a-1)).length b) G)) .u32 (.slice d (Dg.dg 4294967296 (a-1)).length b) (Dg.dg 4294967296 (a-1)):=Q.rd r5 (aX r5 v5 (by simp));have X:g.there (w.heap.size+1) 0 4:=dD v5;have t:=run_loadVar_mid (P:=Tryz.prog) _ (w.heap.size+1) 0 39 (yvL 2 ng (.slice d (Dg.dg 4294967296 (a-1)).length b) G) _ (World.rangeAt_setCells_same g (w.heap.size+1) 0 (yvL 2 ng (.slice d (Dg.dg 4294967296 (a-1)).length b) G) X) underlying39 rfl (by kernel_rfl);have HH:Hid (_∧_∧_):=⟨t,v,m⟩;clear t v m Q;refine tq 7 ((yvV 2 ng (.slice d (Dg.dg 4294967296 (a-1)).length b) G)) rfl (fun x _=>by kernel_rfl) a4 ?_
 refine wpAnyH_ready (rs:=[8]) (by kernel_rfl) (by simp) ?_;refine AllReadyH.cons rfl (fun K h=> ?_) AllReadyH.nil
 rw[if_pos (by kernel_rfl)];refine wp_store_mid 39 (.tmp 4) (.tmp 22) rfl (w.heap.size+1) 0 (yvA 2 ng (.slice d (Dg.dg 4294967296 (a-1)).length b) G) (by kernel_rfl) (by kernel_rfl) X (by kernel_rfl) (by simp[Value.oneCell']) ?_;refine h.out _ _ ?_ (fun a6=> ?_)
 ·have a7:But (w.heap.size+1) g (g.setCells (w.heap.size+1) 0 (yvL 2 ng (.slice d (Dg.dg 4294967296 (a-1)).length b) G)):=de _ _ _ _
  exact(a7.loc W (by omega)).c 6 rfl
 clear h K;refine wpAnyH_done (by kernel_rfl) ?_ _;obtain⟨t,v,m⟩:=HH.out;clear HH j a5 a4 a6 W v5 r5 a3 X y;change Exit.then _ _ _ _ (World.setCells g (w.heap.size+1) 0 (yvL 2 ng (.slice d (Dg.dg 4294967296 (a-1)).length b) G));generalize World.setCells g (w.heap.size+1) 0 (yvL 2 ng (.slice d (Dg.dg 4294967296 (a-1)).length b) G)=WE at t v m⊢
 go_wp2
 exact bodyPost_ret (br results181 rfl t) rfl ⟨_,rfl,v,m⟩
theorem undash_size (a:ByteArray):(undash a).size≤a.size:=by
 unfold undash;rw[mk_size,size_list a];unfold Lib.trimPrefix
 split
 ·rw[List.length_drop]
  omega
 ·exact Nat.le_refl _
def rpV (a:ByteArray):Int×Bool:=if(undash a).size≤5∧digB (undash a)=true then(if dash a=true then-((pv (undash a) (undash a).size:Nat):Int) else((pv (undash a) (undash a).size:Nat):Int),true) else(0,false)
theorem cutS_size (c:UInt8)(s:ByteArray):(cutS c s).1.size+(cutS c s).2.1.size≤s.size:=by
 have a:(cutS c s).1.size=(Lib.cut s.data.toList [c]).1.length:=mk_size _;have b:(cutS c s).2.1.size=(Lib.cut s.data.toList [c]).2.1.length:=mk_size _;rw[a,b,size_list s];unfold Lib.cut
 split
 ·show(List.take _ _).length+(List.drop _ _).length≤_
  rw[List.length_take,List.length_drop]
  show _+(_-(_+1))≤_
  omega
 ·exact Nat.le_refl _
def nmP (t:ByteArray):Int×Bool:=if(nmC t).2.2=true then rpV (nmC t).2.1 else(0,true)
def nmQ (t:ByteArray):Int:=(nmP t).1-((nmD t).2.1.size:Int)
theorem dcH_low {x:ak}(d:x.n<2^64)(a: -16500≤x.e)(b:x.e≤16500)(c:x.n≠0):2*10^ (dcC x-1)≤dcH x:=by
 have h:=dc_many d a b c;have g:0<10^60:=Nat.pow_pos (by omega);have f:10^ (dcC x-1)≤dcW x:=decS_low (by omega);unfold dcH
 split<;>omega
end Go.Proofs.YtlhkndcmbpcpgaaGreatDoor
