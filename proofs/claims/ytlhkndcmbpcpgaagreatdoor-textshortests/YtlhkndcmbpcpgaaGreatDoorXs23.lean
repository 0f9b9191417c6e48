/- Texts laid together. -/
import Derived.Test.YtlhkndcmbpcpgaaGreatDoorXs18
import Derived.Test.YtlhkndcmbpcpgaaGreatDoorXs19
set_option maxRecDepth 100000
set_option maxHeartbeats 12800000
namespace Go.Proofs.YtlhkndcmbpcpgaaGreatDoor
open _root_.Go.Proofs.Tryz
open Go.RowKit
theorem WO (qs:Bool)(e:Option Addr)(g:Nat)(f:Option Addr)(i:Nat)(N M:Nat)(E:Int)(w:World)
  (v:Rd w .u32 (.slice e (Dg.dg 4294967296 N).length g) (Dg.dg 4294967296 N)) (A:Rd w .u32 (.slice f (Dg.dg 4294967296 M).length i) (Dg.dg 4294967296 M)) (L:(Dg.dg 4294967296 N).length≤10000) (O:(Dg.dg 4294967296 M).length≤10000) (I:0<M) (e1: -500000≤E) (e2:E≤500000):
  Calls Tryz.prog 176 #[.agg #[.bool qs,.slice e (Dg.dg 4294967296 N).length g,.slice f (Dg.dg 4294967296 M).length i,.int .i64 E]] w fun z w'=>z= .returned (.int .i64 (dY N M E))∧Below w.heap.size w w':=by
 have s:=af w (.cells #[.bool qs,.slice e (Dg.dg 4294967296 N).length g,.slice f (Dg.dg 4294967296 M).length i,.int .i64 E] 128);have D:=ah w [.bool qs,.slice e (Dg.dg 4294967296 N).length g,.slice f (Dg.dg 4294967296 M).length i,.int .i64 E] 128;have a0:bitLen N≤32*10000:=oP L;have Z:bitLen M≤32*10000:=oP O;have o:Hid (∀d,Below w.heap.size w d→Calls Tryz.prog 40 #[.slice e (Dg.dg 4294967296 N).length g] d fun z w'=>z= .returned (.int .i64 (bitLen N:Nat))∧w'=d):=fun d b=>by
  have:=kE _ _ d (v.l b) (Dg.small_dg _ _ (by omega)) (Dg.norm_dg _ _ (by omega)) (by omega)
  rwa [Dg.vl_dg _ _ (by omega)] at this
 have p:Hid (∀d,Below w.heap.size w d→Calls Tryz.prog 40 #[.slice f (Dg.dg 4294967296 M).length i] d fun z w'=>z= .returned (.int .i64 (bitLen M:Nat))∧w'=d):=fun d b=>by
  have:=kE _ _ d (A.l b) (Dg.small_dg _ _ (by omega)) (Dg.norm_dg _ _ (by omega)) (by omega)
  rwa [Dg.vl_dg _ _ (by omega)] at this
 obtain⟨a,k⟩: ∃l,(bitLen N:Int)-(bitLen M:Int)=l:=⟨_,rfl⟩;have q:Hid (∀d,Below w.heap.size w d→Calls Tryz.prog 177 #[.agg #[.bool qs,.slice e (Dg.dg 4294967296 N).length g,.slice f (Dg.dg 4294967296 M).length i,.int .i64 E],.int .i64 (-a)] d (WH d (eZ N (-a)/dX M (-a)) (eZ N (-a) % dX M (-a)) (dX M (-a)))):=fun d b=>
  Eh qs e g f i N M E (-a) d (v.l b) (A.l b) (by omega) (by omega) I (by omega) (by omega)
 unfold dY;rw[k];obtain⟨Q,J⟩: ∃Q,eZ N (-a)/dX M (-a)=Q:=⟨_,rfl⟩;rw[J] at q⊢;have K:=Dg.dg_nil_iff 4294967296 Q (by omega);obtain⟨T,t⟩: ∃T,E+(a-(if Q=0 then 1 else 0))=T:=⟨_,rfl⟩
 have r:Hid _:=t;rw[t];clear t;obtain⟨x,S⟩: ∃x,bitLen N=x:=⟨_,rfl⟩;obtain⟨y,U⟩: ∃y,bitLen M=y:=⟨_,rfl⟩;rw[S] at o k a0;rw[U] at p k Z;obtain⟨ln,R⟩: ∃l,(Dg.dg 4294967296 N).length=l:=⟨_,rfl⟩;obtain⟨lm,P⟩: ∃l,(Dg.dg 4294967296 M).length=l:=⟨_,rfl⟩;simp only[R,P] at s D o p q⊢;have d:IntKind.i64.wrap (-a)= -a:=IntWalk.i64_in _ ⟨by omega,by omega⟩;have w0:IntKind.i64.wrap a=a:=IntWalk.i64_in _ ⟨by omega,by omega⟩;clear v A L O S U R P J I;have m:=D.drew;have n:=aa s ((Below.refl _ _).drew);have c1:=m.c 1 rfl;have c2:=m.c 2 rfl;clear D s;have a2:(x:Int)-(y:Int)=a:=k;clear k
 go_enter func176,ntmps176
 go_wp2_with fail
 go_region_held3 (fun Y=>Y.cell? ⟨w.heap.size,1,none⟩=some (.slice e ln g)∧Y.cell? ⟨w.heap.size,2,none⟩=some (.slice f lm i)) (go_keep) (first
  | (go_at_call 40;(with_reducible (refine(o.out _ n).mono ?_));rintro z F ⟨rfl,rfl⟩)
  | (go_at_call 40;(with_reducible (refine(p.out _ n).mono ?_));rintro z F ⟨rfl,rfl⟩))
 have c0:=m.c 0 rfl;have c3:=m.c 3 rfl
 go_goals
 go_wp2_with fail
 refine(q.out _ n).mono ?_;rintro z w4 ⟨v1,v2,v3,rfl,X,o2,r3,H⟩;have G:=aa n H;have l4:=m.l H;obtain⟨so,sc,hs⟩:=X.rd.shape;subst hs;have c4:=l4.c 3 rfl;obtain⟨W,B⟩: ∃l,(Dg.dg 4294967296 Q).length=l:=⟨_,rfl⟩;have C:W=0↔Q=0:=by rw[←B,List.length_eq_zero_iff];exact K
 rw[B];clear B K X o2 r3
 by_cases j:Q=0
 ·have u:E+(a-1)=T:=by rw[←r.out,if_pos j]
  subst u;have a1:=C.2 j;clear C j r;subst a1;have w2:IntKind.i64.wrap (a-1)=a-1:=IntWalk.i64_in _ ⟨by omega,by omega⟩;have F:IntKind.i64.wrap (E+(a-1))=E+(a-1):=IntWalk.i64_in _ ⟨by omega,by omega⟩
  go_wp2
  go_ret
  exact⟨rfl,G⟩
 ·have u:E+a=T:=by rw[←r.out,if_neg j,Int.sub_zero]
  subst u;have a3:((W:Int)==0)=false:=by simp;exact fun h=>j (C.1 h)
  have F:IntKind.i64.wrap (E+a)=E+a:=IntWalk.i64_in _ ⟨by omega,by omega⟩
  go_wp2
  go_ret
  exact⟨rfl,G⟩
theorem Qh (R D L G:Int)(gr qs:Bool)(e:Option Addr)(g:Nat)(f:Option Addr)(i:Nat)(N M:Nat)(E way:Int)(j:FuncId)(w:World)(A:bk R D L G=0)
  (t:Rd w .u32 (.slice e (Dg.dg 4294967296 N).length g) (Dg.dg 4294967296 N)) (y:Rd w .u32 (.slice f (Dg.dg 4294967296 M).length i) (Dg.dg 4294967296 M)) (m:(Dg.dg 4294967296 N).length≤10000) (n:(Dg.dg 4294967296 M).length≤10000) (k:0<M) (r: -20000≤E) (s:E≤20000)
  (H: ∀o W,Sem.run Tryz.prog (callFunc j o) W= .ok (.enter j o) W)
  (F: ∀x C B a,Calls Tryz.prog j #[.agg #[.int .i64 x,.bool C,.bool B]] a fun z w'=>z= .returned (.bool (gY way x C B))∧Below a.heap.size a w'):
  Calls Tryz.prog 148 #[.agg #[.int .i64 R,.int .i64 D,.int .i64 L,.int .i64 G,.bool gr],.agg #[.bool qs,.slice e (Dg.dg 4294967296 N).length g,.slice f (Dg.dg 4294967296 M).length i,.int .i64 E],.func (.func j) #[] #[]] w (Fk w (cI R D L G gr qs N M E way)):=by
 obtain⟨hR,p,q,l1,l2,Z,g2,lg,a0⟩:=cB A;obtain⟨t1,t2⟩:=FJ N M E m n r s;obtain⟨T,U,X,Y⟩:=Qg (gr:=gr) A m n r s;have I:0<dX M (shP R D L gr N M E):=by unfold dX;split<;>first|exact Nat.mul_pos k (Nat.pow_pos (by omega))|exact k
 have Q: -500000≤shP R D L gr N M E:=by unfold shP;omega
 have S:shP R D L gr N M E≤500000:=by unfold shP;omega
 have K:(Dg.dg 4294967296 (eZ N (shP R D L gr N M E))).length≤25626:=by
  unfold eZ
  split
  ·omega
  ·exact Nat.le_trans (Eg N _ 10000 15626 m (by omega)) (by omega)
 have J:(Dg.dg 4294967296 (dX M (shP R D L gr N M E))).length≤25626:=by
  unfold dX
  split
  ·exact Nat.le_trans (Eg M _ 10000 15626 n (by omega)) (by omega)
  ·omega
 have hq:(Dg.dg 4294967296 (cH R D L gr N M E)).length≤25626:=Nat.le_trans (aH _ _ _ (by omega) (Nat.div_le_self _ _)) K;have hr:(Dg.dg 4294967296 (gF R D L gr N M E)).length≤25626:=Nat.le_trans (aH _ _ _ (by omega) (Nat.le_of_lt (Nat.mod_lt _ I))) J;refine Mt R D L G gr qs e _ g f _ i E j (dY N M E) (aT R D (dY N M E)) (dj R D L gr N M E) (ai R) (cH R D L gr N M E) (gF R D L gr N M E) (dX M (shP R D L gr N M E)) (dm ((gF R D L gr N M E*2:Nat):Int) ((dX M (shP R D L gr N M E):Nat):Int)) (decide (cH R D L gr N M E % 2=1)) (rf R D L gr qs N M E way) (decide (aT R D (dY N M E)<L)) (decide (gF R D L gr N M E=0)) (decide (aT R D (dY N M E)<L)&&gr) (fM R D L gr qs N M E way) (io R D (fM R D L gr qs N M E way)) (gD R D (fM R D L gr qs N M E way) (dj R D L gr N M E)) (cI R D L G gr qs N M E way) w rfl rfl rfl ?_ ?_ ?_ ?_ ?_ ?_ ?_ ?_ H ?_ ?_ ?_ ?_ ?_ ?_ ?_ ?_ ?_ ?_
 ·intro h
  exact if_pos h
 ·intro h
  exact if_neg (by rw[h];decide)
 ·exact M4 _ (by omega) (by omega)
 ·exact M4 _ (by omega) (by omega)
 ·intro c d
  exact if_pos ⟨c,d⟩
 ·intro h
  refine if_neg ?_;rintro⟨c,d⟩
  rcases h with h|h
  ·rw[c] at h
   cases h
  ·rw[d] at h
   cases h
 ·intro h
  exact if_pos h
 ·intro h
  exact if_neg h
 ·intro a b
  exact WO qs e g f i N M E a (t.l b) (y.l b) m n k (by omega) (by omega)
 ·intro a
  exact FE R D L G gr _ a p q (by omega) (by omega)
 ·intro a
  have:=tY R D L G gr a
  rwa [jf] at this
 ·intro a b
  exact Eh qs e g f i N M E (shP R D L gr N M E) a (t.l b) (y.l b) (by omega) (by omega) k Q S
 ·intro v a h
  have:=eO v _ 1 a h (Dg.small_dg _ _ (by omega)) (by omega) (by omega) (by omega);rw[Dg.vl_dg _ _ (by omega)] at this;exact this
 ·intro v u a c d
  have:=jF v u _ _ a c d (Dg.small_dg _ _ (by omega)) (Dg.small_dg _ _ (by omega)) (Dg.norm_dg _ _ (by omega)) (Dg.norm_dg _ _ (by omega))
  rwa [Dg.vl_dg _ _ (by omega),Dg.vl_dg _ _ (by omega)] at this
 ·intro v a h
  exact aaI v _ a h
 ·intro a
  exact F _ _ _ a
 ·intro v u a c d
  have:=rj v u _ _ a c d (Dg.small_dg _ _ (by omega)) (Dg.small_cons.2 ⟨by omega,Dg.small_nil _ (by omega)⟩) (by omega) (by simp)
  rwa [Dg.vl_dg _ _ (by omega),show Dg.vl 4294967296 [1]=1 from rfl] at this
 ·intro v base a P O
  exact Br R D L G gr v _ _ base a P O p q (by omega) (by omega)
theorem F7.l {w w':World}{n:Int}{g:Option Nat}{p:ByteArray}{v:Value}(h:F7 w n g p v)(a:yB w w'):F7 w' n g p v:=⟨h.1,h.2.1.l a,h.2.2⟩
theorem sF.l {w w':World}{n:Int}{b:List ByteArray}{g cap:Nat}(h:sF w n b g cap)(a:yB w w'):sF w' n b g cap:=
 ⟨h.fit,h.most,fun i p e=>by
  obtain⟨j,f,c,d⟩:=h.each i p e;exact⟨j,f,aC c a,d.l a⟩⟩
theorem Gw.l {w w':World}{n:Int}{g:Option Nat}{p:ByteArray}{v:Value}(h:Gw w n g p v)(a:yB w w'):Gw w' n g p v:=⟨h.1,h.2.1.l a,h.2.2⟩
theorem Vz.l {w wr w':World}{n:Int}{c:List ByteArray}{i:Nat}{b:Value}(h:Vz w n c i b wr)(a:yB wr w'):Vz w n c i b w':=by
 obtain⟨d,e,f,g⟩:=h;exact⟨d,zZ e a,f.mono (fun p v k=>k.l a),g⟩
theorem ab5.l {w w':World}{n:Int}{b:List ByteArray}{g cap:Nat}(h:ab5 w n b g cap)(a:yB w w'):ab5 w' n b g cap:=
 ⟨h.fit,h.most,fun i p e=>by
  obtain⟨j,f,c,d⟩:=h.each i p e;exact⟨j,f,aC c a,d.l a⟩⟩
open Go.RowKit Go.ChangeMaps Go.MapKept
def wdE:Array MapEntry:= #[⟨yi 1,.agg #[.string ⟨#[48]⟩,.string ⟨#[45,48]⟩],0⟩,⟨yi 3,.agg #[.string ⟨#[105,110,102]⟩,.string ⟨#[45,105,110,102]⟩],1⟩,⟨yi 4,.agg #[.string ⟨#[110,111,110,101]⟩,.string ⟨#[110,111,110,101]⟩],2⟩,⟨yi 5,.agg #[.string ⟨#[114,101,115,101,114,118,101,100]⟩,.string ⟨#[114,101,115,101,114,118,101,100]⟩],3⟩]
def MapAt (w:World)(r:Nat):Prop:=r<w.heap.size∧w.heap[r]? =some (.map wdE 4)
theorem MapAt.l {w w':World}{r:Nat}(h:MapAt w r)(b:yB w w'):MapAt w' r:=⟨Nat.lt_of_lt_of_le h.1 b.size,(b.block r h.1).trans h.2⟩
def MpR (w:World)(z:Ending)(w':World):Prop:= ∃r,z= .returned (.map (some r))∧MapAt w' r∧yB w w'
theorem twords_any (w:World):yC 34 #[] w (MpR w):=by
 have b:=underlying88;have a:=underlying3;have i:(w.alloc (.map #[] 0)).heap[w.heap.size]? =some (.map #[] 0):=heap_alloc_new _ _;have o:=af w (.map #[] 0);have t:=run_makeMap (P:=Tryz.prog) 88 w;obtain⟨q,u,j,e⟩:=sS b a i (Nat.le_refl _) o 1 (.agg #[.string ⟨#[48]⟩,.string ⟨#[45,48]⟩]) rfl;obtain⟨r,v,k,f⟩:=sS b a j (Nat.le_refl _) e 3 (.agg #[.string ⟨#[105,110,102]⟩,.string ⟨#[45,105,110,102]⟩]) rfl;obtain⟨s,x,l,g⟩:=sS b a k (Nat.le_refl _) f 4 (.agg #[.string ⟨#[110,111,110,101]⟩,.string ⟨#[110,111,110,101]⟩]) rfl;obtain⟨d,y,c,p⟩:=sS b a l (Nat.le_refl _) g 5 (.agg #[.string ⟨#[114,101,115,101,114,118,101,100]⟩,.string ⟨#[114,101,115,101,114,118,101,100]⟩]) rfl;have m:w.heap.size<d.heap.size:=by
  rcases Nat.lt_or_ge w.heap.size d.heap.size with h|h
  ·exact h
  ·rw[Array.getElem?_eq_none h] at c
   cases c
 have n:Hid (MapAt d w.heap.size):=⟨m,c⟩;clear j k l c e f g b a i m
 go_enter func34,ntmps34
 go_wp2
 go_ret
 exact⟨_,rfl,n.out,p⟩
theorem xlook {P:Program}{o:Oper}{a:Act}{w:World}(t:TypeId)(x y:Operand)(c:Bool)(b:o.op= .lookup t x y c)(m k:Value)(d:a.eval x=m)(e:a.eval y=k){v:Value}(h:(Instr.lookup t m k c).run P w= .ok v w):(execOp a.eval o).run P w= .ok (.value v) w:=by
 unfold execOp;simp only[b,d,e];simp[h]
theorem find_ok {P:Program}{t k e:TypeId}(g:P.underlying t=some (.map k e))(b:P.underlying k=some (.int .i64)){W:World}{r:Nat}{a:Array MapEntry}{c:Nat}(d:W.heap[r]? =some (.map a c))(x:Int){i:Nat}{v:Value}(h:Instr.findNow (.int .i64) (yi x) a.toList 0=some (some (i,v))):
  (Instr.lookup t (.map (some r)) (yi x) true).run P W= .ok (.tuple #[v,.bool true]) W:=by
 have f:IsKey (.int .i64) (yi x):=rfl;simp[Instr.lookup,run_underlying g,MapKept.run_getObj_map d,run_checkKey b f,run_findKey b h,Result.andThen]
theorem miss_ok {P:Program}{t k e:TypeId}(g:P.underlying t=some (.map k e))(b:P.underlying k=some (.int .i64)){W:World}{r:Nat}{a:Array MapEntry}{c:Nat}(d:W.heap[r]? =some (.map a c))(x:Int){z:Value}(i:(zeroValue e).run P W= .ok z W)(h:Instr.findNow (.int .i64) (yi x) a.toList 0=some none):
  (Instr.lookup t (.map (some r)) (yi x) true).run P W= .ok (.tuple #[z,.bool false]) W:=by
 have f:IsKey (.int .i64) (yi x):=rfl;simp[Instr.lookup,run_underlying g,MapKept.run_getObj_map d,run_checkKey b f,run_findKey b h,i,Result.andThen]
def wdV (c:Int):ByteArray×ByteArray×Bool:=if c=1 then(⟨#[48]⟩,⟨#[45,48]⟩,true) else if c=3 then(⟨#[105,110,102]⟩,⟨#[45,105,110,102]⟩,true) else if c=4 then(⟨#[110,111,110,101]⟩,⟨#[110,111,110,101]⟩,true) else if c=5 then(⟨#[114,101,115,101,114,118,101,100]⟩,⟨#[114,101,115,101,114,118,101,100]⟩,true) else(⟨#[]⟩,⟨#[]⟩,false)
theorem look_any (c:Int)(w:World)(r:Nat)(a:MapAt w r):(Instr.lookup 88 (.map (some r)) (yi c) true).run Tryz.prog w= .ok (.tuple #[.agg #[.string (wdV c).1,.string (wdV c).2.1],.bool (wdV c).2.2]) w:=by
 unfold wdV
 by_cases b:c=1
 ·subst b
  rw[if_pos rfl];exact find_ok underlying88 underlying3 a.2 1 rfl
 by_cases d:c=3
 ·subst d
  rw[if_neg (by decide)];rw[if_pos rfl];exact find_ok underlying88 underlying3 a.2 3 rfl
 by_cases e:c=4
 ·subst e
  rw[if_neg (by decide)];rw[if_neg (by decide)];rw[if_pos rfl];exact find_ok underlying88 underlying3 a.2 4 rfl
 by_cases f:c=5
 ·subst f
  rw[if_neg (by decide)];rw[if_neg (by decide)];rw[if_neg (by decide)];rw[if_pos rfl];exact find_ok underlying88 underlying3 a.2 5 rfl
 rw[if_neg b,if_neg d,if_neg e,if_neg f];refine miss_ok underlying88 underlying3 a.2 c ?_ ?_
 ·kernel_rfl
 ·simp[wdE,Instr.findNow,XI,b,d,e,f]
theorem tword_f_mg:
  (∀(c p:Int) (x:Option Addr) (vl v:Nat) (b d:ByteArray) (e:Bool) (w:World)
  (_: ∀Q,yC 34 #[] Q (MpR Q))
  (_: ∀h A,MapAt h A→(Instr.lookup 88 (.map (some A)) (yi c) true).run Tryz.prog h= .ok (.tuple #[.agg #[.string b,.string d],.bool e]) h),
  yC 10 #[yvV c false (.slice x vl v) p] w (yR w (.tuple #[.string b,.bool e])))∧
  (∀(c p:Int) (x:Option Addr) (vl v:Nat) (b d:ByteArray) (e:Bool) (w:World)
  (_: ∀Q,yC 34 #[] Q (MpR Q))
  (_: ∀h A,MapAt h A→(Instr.lookup 88 (.map (some A)) (yi c) true).run Tryz.prog h= .ok (.tuple #[.agg #[.string b,.string d],.bool e]) h),
  yC 10 #[yvV c true (.slice x vl v) p] w (yR w (.tuple #[.string d,.bool e]))):=by
 refine⟨?_, ?_⟩;have _z:Mgk 0:=mgkI 0
 all_goals
  intro c p x vl v b d e w C I;replace C:Hid _:=C;replace I:Hid _:=I
  first| (rename Mgk 0=>_z;obtain⟨R,N,q1,b2⟩:=cA w (yvL c false (.slice x vl v) p) 39)| (obtain⟨R,N,q1,b2⟩:=cA w (yvL c true (.slice x vl v) p) 39)
  replace N:Hid _:=N
  go_enter func10,ntmps10
  go_upto_region 1 with fail
  rw[N.out];clear N
  go_upto_region 1 with fail
  have a3:yB R R.drew:=(Below.refl _ _).drew;have u:=q1.l a3;have G:=aa b2 a3;clear q1 b2 a3
  first| (rename Mgk 0=>_z;refine wp_region_held_drew (S:=fun h=>au h w.heap.size 39 (yvL c false (.slice x vl v) p)) (by kernel_rfl) u (fun y=> ?_))| (refine wp_region_held_drew (S:=fun h=>au h w.heap.size 39 (yvL c true (.slice x vl v) p)) (by kernel_rfl) u (fun y=> ?_))
  generalize R.drew=J at u G y⊢;refine tq 1 (.pointer (some ⟨w.heap.size,0,none⟩)) rfl (fun _ _=>by kernel_rfl) y ?_
  refine tq 2 (yi c) rfl (fun _ av=>gU 3 (.tmp 8) rfl w.heap.size 0 (by kernel_rfl) _ _ underlying3 rfl (av.c 0 rfl)) y ?_
  refine wpAnyH_ready (rs:=[0,7]) (by kernel_rfl) (by simp) ?_;refine AllReadyH.cons rfl (fun K a=> ?_) (AllReadyH.cons rfl (fun K a=> ?_) AllReadyH.nil)
  ·go_simp
   refine(C.out _).mono ?_;rintro zz k ⟨A,rfl,Z,a4⟩;have s:=u.l a4;have F:=aa G a4;clear u G a4 C;refine a.out _ _ s (fun ac=> ?_)
   clear a K;refine wpAnyH_ready (rs:=[3,7]) (by kernel_rfl) (by simp) ?_;refine AllReadyH.cons rfl (fun K a=> ?_) (AllReadyH.cons rfl (fun K a=> ?_) AllReadyH.nil)
   ·rw[if_pos (by kernel_rfl)]
    refine wp_yield (.tuple #[.agg #[.string b,.string d],.bool e]) (xlook 88 (.tmp 7) (.tmp 9) true rfl _ _ (by kernel_rfl) (by kernel_rfl) (I.out _ _ Z)) ?_;refine a.out _ _ s (fun W=> ?_)
    clear a K;refine tq 4 (.tuple #[.agg #[.string b,.string d],.bool e]) rfl (fun _ _=>by kernel_rfl) W ?_
    refine tq 5 (.agg #[.string b,.string d]) rfl (fun _ _=>by go_simp) W ?_
    refine tq 6 (.bool e) rfl (fun _ _=>by go_simp) W ?_
    refine wpAnyH_ready (rs:=[7]) (by kernel_rfl) (by simp) ?_;refine AllReadyH.cons rfl (fun K a=> ?_) AllReadyH.nil
    go_simp
    have a0:=af k (.cells #[.string ⟨#[]⟩,.string ⟨#[]⟩] 86);have P:=ah k [.string ⟨#[]⟩,.string ⟨#[]⟩] 86;have a7:w.heap.size≤k.heap.size:=F.size;have ar:=s.lt;have t:=s.l a0;have i:=aa F a0;refine a.out _ _ t (fun z=> ?_)
    clear a K;clear s Z F a0;generalize k.alloc (.cells #[.string ⟨#[]⟩,.string ⟨#[]⟩] 86)=E at t P i z⊢;generalize k.heap.size=q at P a7 ar⊢;refine wpAnyH_ready (rs:=[8]) (by kernel_rfl) (by simp) ?_;refine AllReadyH.cons rfl (fun K a=> ?_) AllReadyH.nil
    have f:But q E (E.setCells q 0 [.string b,.string d]):=de _ _ _ _;have r:E.there q 0 2:=dD P;have a8:au (E.setCells q 0 [.string b,.string d]) q 86 [.string b,.string d]:=P.sets _ rfl;have g:=f.loc t (by omega);have ab:=f.below i (by omega);rw[if_pos (by kernel_rfl)];refine wp_store_mid 86 (.tmp 4) (.tmp 11) rfl q 0 #[.string b,.string d] (by kernel_rfl) (by kernel_rfl) r (by kernel_rfl) (by simp[Value.oneCell']) ?_;refine a.out _ _ g (fun ae=> ?_)
    clear a K;clear P t i f r;refine tq 9 (.bool e) rfl (fun _ _=>by kernel_rfl) ae ?_
    refine wpAnyH_done (by kernel_rfl) ?_ _;clear y ac W z ae;change Exit.then _ _ _ _ (World.setCells E q 0 [.string b,.string d]);generalize World.setCells E q 0 [.string b,.string d]=aw at g a8 ab⊢;simp only[Act.put,List.getElem_toArray,List.getElem_cons_succ,List.getElem_cons_zero,List.setIfInBounds_toArray,List.set_cons_zero,List.set_cons_succ];have ay:=g.c 1 rfl
    first| (rename Mgk 0=>_z;have a5:=a8.c 0 rfl)| (have a5:=a8.c 1 rfl)
    go_wp2
    go_ret2
    exact⟨rfl,ab⟩
   ·go_simp
    have T:=af k (.cells #[.string ⟨#[]⟩,.string ⟨#[]⟩] 86);have O:=ah k [.string ⟨#[]⟩,.string ⟨#[]⟩] 86;have aq:w.heap.size≤k.heap.size:=F.size;have a7:=s.lt;have j:=s.l T;have a9:=Z.l T;have i:=aa F T;refine a.out _ _ j (fun z=> ?_)
    clear a K;clear s Z F T;generalize k.alloc (.cells #[.string ⟨#[]⟩,.string ⟨#[]⟩] 86)=D at j O a9 i z⊢;generalize k.heap.size=o at O aq a7⊢;refine wpAnyH_ready (rs:=[3]) (by kernel_rfl) (by simp) ?_;refine AllReadyH.cons rfl (fun K a=> ?_) AllReadyH.nil
    rw[if_pos (by kernel_rfl)];refine wp_yield (.tuple #[.agg #[.string b,.string d],.bool e]) (xlook 88 (.tmp 7) (.tmp 9) true rfl _ _ (by kernel_rfl) (by kernel_rfl) (I.out _ _ a9)) ?_;refine a.out _ _ j (fun m=> ?_)
    clear a K;refine tq 4 (.tuple #[.agg #[.string b,.string d],.bool e]) rfl (fun _ _=>by kernel_rfl) m ?_
    refine tq 5 (.agg #[.string b,.string d]) rfl (fun _ _=>by go_simp) m ?_
    refine tq 6 (.bool e) rfl (fun _ _=>by go_simp) m ?_
    refine wpAnyH_ready (rs:=[8]) (by kernel_rfl) (by simp) ?_;refine AllReadyH.cons rfl (fun K a=> ?_) AllReadyH.nil
    have f:But o D (D.setCells o 0 [.string b,.string d]):=de _ _ _ _;have r:D.there o 0 2:=dD O;have g:au (D.setCells o 0 [.string b,.string d]) o 86 [.string b,.string d]:=O.sets _ rfl;have B:=f.loc j (by omega);have L:=f.below i (by omega);rw[if_pos (by kernel_rfl)];refine wp_store_mid 86 (.tmp 4) (.tmp 11) rfl o 0 #[.string b,.string d] (by kernel_rfl) (by kernel_rfl) r (by kernel_rfl) (by simp[Value.oneCell']) ?_;refine a.out _ _ B (fun M=> ?_)
    clear a K;clear O a9 j i f r;refine tq 9 (.bool e) rfl (fun _ _=>by kernel_rfl) M ?_
    refine wpAnyH_done (by kernel_rfl) ?_ _;clear y ac z m M;change Exit.then _ _ _ _ (World.setCells D o 0 [.string b,.string d]);generalize World.setCells D o 0 [.string b,.string d]=an at B g L⊢;simp only[Act.put,List.getElem_toArray,List.getElem_cons_succ,List.getElem_cons_zero,List.setIfInBounds_toArray,List.set_cons_zero,List.set_cons_succ];have a5:=B.c 1 rfl
    first| (rename Mgk 0=>_z;have a6:=g.c 0 rfl)| (have a6:=g.c 1 rfl)
    go_wp2
    go_ret2
    exact⟨rfl,L⟩
  ·go_simp
   have a1:=af J (.cells #[.string ⟨#[]⟩,.string ⟨#[]⟩] 86);have X:=ah J [.string ⟨#[]⟩,.string ⟨#[]⟩] 86;have ao:w.heap.size≤J.heap.size:=G.size;have ap:=u.lt;have Y:=u.l a1;have a2:=aa G a1;refine a.out _ _ Y (fun ad=> ?_)
   clear a K;clear u G a1;generalize J.alloc (.cells #[.string ⟨#[]⟩,.string ⟨#[]⟩] 86)=ax at Y X a2 ad⊢;generalize J.heap.size=n at X ao ap⊢;refine wpAnyH_ready (rs:=[0]) (by kernel_rfl) (by simp) ?_;refine AllReadyH.cons rfl (fun K a=> ?_) AllReadyH.nil
   go_simp
   refine(C.out _).mono ?_;rintro zz H ⟨A,rfl,al,U⟩;have j:=Y.l U;have t:=X.l U;have i:=aa a2 U;clear Y X a2 U C;refine a.out _ _ j (fun z=> ?_)
   clear a K;refine wpAnyH_ready (rs:=[3]) (by kernel_rfl) (by simp) ?_;refine AllReadyH.cons rfl (fun K a=> ?_) AllReadyH.nil
   rw[if_pos (by kernel_rfl)];refine wp_yield (.tuple #[.agg #[.string b,.string d],.bool e]) (xlook 88 (.tmp 7) (.tmp 9) true rfl _ _ (by kernel_rfl) (by kernel_rfl) (I.out _ _ al)) ?_;refine a.out _ _ j (fun m=> ?_)
   clear a K;refine tq 4 (.tuple #[.agg #[.string b,.string d],.bool e]) rfl (fun _ _=>by kernel_rfl) m ?_
   refine tq 5 (.agg #[.string b,.string d]) rfl (fun _ _=>by go_simp) m ?_
   refine tq 6 (.bool e) rfl (fun _ _=>by go_simp) m ?_
   refine wpAnyH_ready (rs:=[8]) (by kernel_rfl) (by simp) ?_;refine AllReadyH.cons rfl (fun K a=> ?_) AllReadyH.nil
   have f:But n H (H.setCells n 0 [.string b,.string d]):=de _ _ _ _;have r:H.there n 0 2:=dD t;have g:au (H.setCells n 0 [.string b,.string d]) n 86 [.string b,.string d]:=t.sets _ rfl;have B:=f.loc j (by omega);have L:=f.below i (by omega);rw[if_pos (by kernel_rfl)];refine wp_store_mid 86 (.tmp 4) (.tmp 11) rfl n 0 #[.string b,.string d] (by kernel_rfl) (by kernel_rfl) r (by kernel_rfl) (by simp[Value.oneCell']) ?_;refine a.out _ _ B (fun M=> ?_)
   clear a K;clear t al j i f r;refine tq 9 (.bool e) rfl (fun _ _=>by kernel_rfl) M ?_
   refine wpAnyH_done (by kernel_rfl) ?_ _;clear y ad z m M;change Exit.then _ _ _ _ (World.setCells H n 0 [.string b,.string d]);generalize World.setCells H n 0 [.string b,.string d]=an at B g L⊢;simp only[Act.put,List.getElem_toArray,List.getElem_cons_succ,List.getElem_cons_zero,List.setIfInBounds_toArray,List.set_cons_zero,List.set_cons_succ];have a5:=B.c 1 rfl
   first| (rename Mgk 0=>_z;have a6:=g.c 0 rfl)| (have a6:=g.c 1 rfl)
   go_wp2
   go_ret2
   exact⟨rfl,L⟩
abbrev tword_f:=tword_f_mg.1
abbrev tword_t:=tword_f_mg.2
theorem tmakes_err (n fl d:Int)(e g md:ByteArray)(w:World)(h:(d==0)=false)
  (a:yH w 30 #[yi n,.string e,yi 1] (.tuple #[.string g,yi fl,yi d])):
  yC 13 #[.string e,yi n,.string md] w (yR w (.bool false)):=by
 replace a:Hid _:=a
 go_enter func13,ntmps13
 have b:=Below.refl w.heap.size w
 go_wp2_with fail
 refine(a.out _ b).mono ?_;rintro j i ⟨rfl,c⟩;have f:=aa b c;clear b c a
 go_wp2
 go_ret
 exact⟨rfl,f⟩
theorem tmakes_yes (n fl:Int)(e d md:ByteArray)(w:World)(g:(d.toList==md.toList)=true)
  (a:yH w 30 #[yi n,.string e,yi 1] (.tuple #[.string d,yi fl,yi 0])):
  yC 13 #[.string e,yi n,.string md] w (yR w (.bool true)):=by
 replace a:Hid _:=a
 go_enter func13,ntmps13
 have b:=Below.refl w.heap.size w
 go_wp2_with fail
 refine(a.out _ b).mono ?_;rintro i h ⟨rfl,c⟩;have f:=aa b c;clear b c a
 go_wp2
 go_ret
 exact⟨rfl,f⟩
theorem tmakes_no (n fl:Int)(e d md:ByteArray)(w:World)(g:(d.toList==md.toList)=false)
  (a:yH w 30 #[yi n,.string e,yi 1] (.tuple #[.string d,yi fl,yi 0])):
  yC 13 #[.string e,yi n,.string md] w (yR w (.bool false)):=by
 replace a:Hid _:=a
 go_enter func13,ntmps13
 have b:=Below.refl w.heap.size w
 go_wp2_with fail
 refine(a.out _ b).mono ?_;rintro i h ⟨rfl,c⟩;have f:=aa b c;clear b c a
 go_wp2
 go_ret
 exact⟨rfl,f⟩
theorem refRatioOf_W (N B:Nat)(x:ak)(ng:Bool)(ds tx:ByteArray)(p e:Int)(w:World)(h4:tx.size≤400)(h1: ¬p< -6000)(h2: ¬6000<p)(he:IntKind.i64.wrap (x.e+p)=e)(fx: ¬(Dg.dg 65536 x.n).length=0)(a6:x.n*5^p.toNat≤B)(al:5^ (-p).toNat≤B)(Z:Nat×Nat)(hZ:rqS (-p).toNat (x.n*5^p.toNat,1)=Z)
  (HN:yH w 57 #[.string tx] (.tuple #[.bool ng,.string ds,yi p,.bool true]))
  (HU: ∀D,yC 58 #[.string ds] D (cG D N))
  (HB: ∀no nc D,Rd D .i64 (yS no N nc) (Dg.dg 65536 N)→yC 20 #[ydV ng (yS no N nc) 0] D (dr D x))
  (HT: ∀(m:Nat) v q D,m≤B→Rd D .i64 v (Dg.dg 65536 m)→au D q 3 [yi 5]→yC 52 #[v,.slice (some ⟨q,0,none⟩) 1 1] D (cG D (m*5)))
  (HI: ∀(m:Nat) v q D,m≤B→Rd D .i64 v (Dg.dg 65536 m)→au D q 3 [yi 5]→yC 59 #[v,.slice (some ⟨q,0,none⟩) 1 1] D (JI D (m/5) (m % 5))):
  yC 27 #[.string tx] w (RqE w ng Z.1 Z.2 e 0):=by
 replace HN:Hid _:=HN;replace HU:Hid _:=HU;replace HB:Hid _:=HB;replace HT:Hid _:=HT;replace HI:Hid _:=HI;replace hZ:Hid _:=hZ;replace a6:Hid _:=a6;replace al:Hid _:=al;obtain⟨W3,bx,q1,b2⟩:=cA w (yrL false yN yN 0) 72;replace bx:Hid _:=bx
 go_enter func27,ntmps27
 go_upto_region 1 with fail
 rw[bx.out];clear bx
 go_wp2_with fail
 refine(HN.out _ b2).mono ?_;rintro zz w5 ⟨rfl,c8⟩;have q7:=q1.l c8;have b8:=aa b2 c8;clear q1 b2 c8 HN
 go_wp2_with fail
 refine(HU.out _).mono ?_;rintro zz w9 ⟨g9,rfl,cn,c6⟩;have dv:=q7.l c6;have cz:=aa b8 c6;obtain⟨no,nc,b⟩:=cn.shape;subst b;clear q7 b8 c6 HU
 go_wp2_with fail
 refine(HB.out _ _ _ cn).mono ?_;rintro zz eo ⟨gb,rfl,co,c7⟩;have ch:=dv.l c7;have c4:=aa cz c7;obtain⟨xo,xc,b⟩:=co.shape;subst b;clear dv cn cz c7 HB;obtain⟨a1,bw,c3,bv⟩:=cA eo (ydL x.s (yS xo x.n xc) x.e) 28;replace bw:Hid _:=bw;have g5:w.heap.size≤eo.heap.size:=c4.size;have g6:=ch.lt;have ci:=ch.l bv;have el:=co.l bv;have d6:=aa c4 bv;clear ch co c4 bv
 go_upto_region 9 with fail
 rw[bw.out];clear bw;have fn:=c3.c 1 rfl;have g7:=ci.lt;have g8:=c3.lt;have av:=af a1 (.cells #[yi 1] 3);have cj:=ah a1 [yi 1] 3;have ck:=ci.l av;have e6:=c3.l av;have em:=el.l av;have c5:=aa d6 av;obtain⟨cv,c0,cl,aw⟩:=cA (a1.alloc (.cells #[yi 1] 3)) (yrL ng (yS xo x.n xc) (.slice (some ⟨a1.heap.size,0,none⟩) 1 1) e) 72;replace c0:Hid _:=c0;have f1:w.heap.size≤(a1.alloc (.cells #[yi 1] 3)).heap.size:=c5.size;have f2:=ck.lt;have f3:=cj.lt;simp only[World.size_alloc] at cl f1 f2 f3;have ev:=e6.c 2 rfl;have e7:=ck.l aw;have e8:=cj.l aw;have en:=em.l aw;have d7:=aa c5 aw;clear ck e6 cj em c5 aw ci c3 el d6 av
 go_wp2_with fail
 rw[c0.out];clear ev c0;have ey:w.heap.size≤w.heap.size∧w.heap.size<a1.heap.size+1:=⟨by omega,by omega⟩;have S:RqW w (w.heap.size) (a1.heap.size+1) ng e (yS xo x.n xc) (.slice (some ⟨a1.heap.size,0,none⟩) 1 1) x.n 1 (cv):=⟨d7,e7,cl,en,rd_one16 (e8.c 0 rfl)⟩;clear e7 e8 cl en d7;generalize a1.heap.size+1=r at S ey⊢;generalize cv=ws at S⊢
 go_wp2
 simp only[show decide ((400:Int)< (tx.size:Int))=false from decide_eq_false (by omega),show decide (p< (-6000:Int))=false from decide_eq_false (by omega),show decide ((6000:Int)<p)=false from decide_eq_false (by omega),show(((Dg.dg 65536 x.n).length:Int)==0)=false from beq_eq_false_iff_ne.2 (by omega),Bool.or_false]
 have f5:x.n*5^p.toNat=x.n*5^p.toNat:=rfl
 go_loopw [6] (fun pv wr=>RqA w w.heap.size r ng e p (x.n*5^p.toNat) pv wr) (fun pv _=>(intOf pv).toNat)
 case atStart=>exact⟨p,x.n,_,_,rfl,rfl,rfl,⟨by omega,by omega⟩,S⟩
 case round=>
  clear S f5;obtain⟨q,n,v,u,rfl,hn,hq,f7,S⟩:=hrel
  by_cases da:0<q
  ·have T:n≤B:=Nat.le_trans (Nat.le_mul_of_pos_right n (Nat.pow_pos (show 0<5 by decide))) (by rw[hn];exact a6.out)
   have a7:n*5*5^ (q-1).toNat=x.n*5^p.toNat:=by rw[←hn,show q.toNat=(q-1).toNat+1 by omega,Nat.pow_succ,Nat.mul_assoc,Nat.mul_comm 5]
   have cg:(-(q-1)).toNat=(-p).toNat:=by omega
   have ew:IntKind.i64.wrap (q-1)=q-1:=IntWalk.i64_in _ ⟨by omega,by omega⟩;replace a7:Hid _:=a7;replace cg:Hid _:=cg;clear hn hq;obtain⟨G,t,g,C,h⟩:=S;obtain⟨no,nc,rfl⟩:=C.shape;obtain⟨yo,yc,rfl⟩:=h.shape;have er:=g.c 1 rfl;have g1:=t.lt;have g2:=g.lt;have ad:=af wr (.cells #[yi 5] 3);have dd:=ah wr [yi 5] 3;have dl:=t.l ad;have dn:=g.l ad;have e9:=C.l ad;have ea:=h.l ad;have cw:=aa G ad
   go_wp2_with fail
   refine(HT.out n _ _ _ T e9 dd).mono ?_;rintro zz cr ⟨ga,rfl,cm,b4⟩;have dp:=dl.l b4;have an:=dn.l b4;have eb:=ea.l b4;have cx:=aa cw b4;obtain⟨W,U,b⟩:=cm.shape;subst b;clear dl dn dd e9 ea cw b4 er t g C h G ad;have z:=ag cr r 1 (.slice W (Dg.dg 65536 (n*5)).length U);have dq:au (cr.setCell ⟨r,1,none⟩ (.slice W (Dg.dg 65536 (n*5)).length U)) r 72 (yrL ng (.slice W (Dg.dg 65536 (n*5)).length U) (yS yo 1 yc) e):=(an.set 1 (.slice W (Dg.dg 65536 (n*5)).length U));have es:=an.c 1 rfl;have ff:=an.f 1;have dt:=z.loc dp (by omega);have ec:=eb.setC (an.c 1 rfl) (fun n=>by simp) (.slice W (Dg.dg 65536 (n*5)).length U)
   have ed:=cm.setC (an.c 1 rfl) (fun n=>by simp) (.slice W (Dg.dg 65536 (n*5)).length U)
   have cy:=z.below cx (by omega);clear z
   go_upto_region 13 with fail
   generalize cr.setCell ⟨r,1,none⟩ (.slice W (Dg.dg 65536 (n*5)).length U)=fj at dt dq ec ed cy⊢;clear an dp eb cm cx es ff
   go_wp2
   go_roundw
   case rel=>exact⟨q-1,n*5,_,_,by go_num,a7.out,cg.out,⟨by omega,by omega⟩,cy,dt,dq,ed,ec⟩
   case measure=>simp[intOf];omega
  ·have db:n=x.n*5^p.toNat:=by rw[←hn,show q.toNat=0 by omega,Nat.pow_zero,Nat.mul_one]
   have dc:q= -(((-p).toNat:Nat):Int):=by omega
   have hZ:=hZ.out;have a6:=a6.out;have al:=al.out;obtain⟨K,hK⟩: ∃K,(-p).toNat=K:=⟨_,rfl⟩;have ex:K≤6000:=by omega
   rw[hK] at dc al hZ;rw[←db] at a6 hZ;subst dc;clear hn hq f7 hK db;have f6: ¬(0< -(K:Int)):=by omega
   go_wp2
   go_loopw [6] (fun pv wr=>RqB w w.heap.size r ng e Z B pv wr) (fun pv _=>(-(intOf pv)).toNat)
   case atStart=>exact⟨K,n,1,_,_,rfl,hZ,a6,by rw[Nat.one_mul];exact al,ex,S⟩
   case round=>
    clear S da f6;obtain⟨k',n,d,v,u,rfl,A,T,hdB,fv,S⟩:=hrel
    rcases Nat.eq_zero_or_pos k' with rfl|hk
    ·obtain⟨G,t,g,C,h⟩:=S
     obtain rfl:Z=(n,d):=A.symm;obtain⟨no,nc,rfl⟩:=C.shape;obtain⟨yo,yc,rfl⟩:=h.shape;clear A T hdB;simp only[show(-((0:Nat):Int))=0 from rfl]
     obtain⟨fo,fp,fr,fs⟩:=g.cs4;have hf:=afz (P:=Tryz.prog) t G (by omega) underlying72 rfl (by kernel_rfl) (.bool ng) (yS no n nc) (yS yo d yc) (yi e);have HH:Hid (_∧_∧_∧_):=⟨hf.1,hf.2.2.rd C (offQ C t),hf.2.2.rd h (offQ h t),hf.2.1⟩;obtain⟨⟨z0,z1,z2,z3⟩,y0,y1,y2,y3⟩:=afB t;clear hf t g C h G
     go_wp2
     obtain⟨hl,f8,f9,bR⟩:=HH.out;exact bodyPost_ret (aj results27 rfl rfl hl) rfl ⟨_,_,rfl,f8,f9,bR⟩
    ·obtain⟨k,rfl⟩: ∃k,k'=k+1:=⟨k'-1,by omega⟩
     clear hk;have cc:d*5^ (k+1)≤B:=hdB;have L:d*5*5^k≤B:=by rw[Nat.mul_assoc,Nat.mul_comm 5,←Nat.pow_succ];exact cc
     replace hdB:d≤B:=Nat.le_trans (Nat.le_mul_of_pos_right d (Nat.pow_pos (show 0<5 by decide))) cc
     have ew:IntKind.i64.wrap (-((k+1:Nat):Int)+1)= -(k:Int):=by rw[IntWalk.i64_in _ ⟨by omega,by omega⟩];omega
     have da: -((k+1:Nat):Int)<0:=by omega
     have a7:n/5≤B:=Nat.le_trans (Nat.div_le_self _ _) T;have c2:n % 5=0↔(Dg.dg 65536 (n % 5)).length=0:=by rw[List.length_eq_zero_iff,Dg.dg_nil_iff _ _ (by omega)]
     replace a7:Hid _:=a7;obtain⟨G,t,g,C,h⟩:=S;obtain⟨no,nc,rfl⟩:=C.shape;clear cc
     by_cases hm:n % 5=0
     rotate_left
     ·have A:=rqS_up A (fun c=>hm c.1)
      obtain⟨uo,uc,rfl⟩:=h.shape;have f4: ¬(Dg.dg 65536 (n % 5)).length=0:=fun c=>hm (c2.2 c)
      replace A:Hid _:=A;replace L:Hid _:=L;clear hm c2;have a5:=g.c 1 rfl;have cd:=t.lt;have ce:=g.lt;have a:=af wr (.cells #[yi 5] 3);have X:=ah wr [yi 5] 3;have Y:=t.l a;have a0:=g.l a;have ab:=C.l a;have O:=h.l a;have ax:=aa G a
      go_wp2_with fail
      refine(HI.out n _ _ _ T ab X).mono ?_;rintro zz bt ⟨fa,fd,rfl,bg,bq,I⟩;have a8:=Y.l I;have E:=a0.l I;have bi:=ab.l I;have bj:=O.l I;have az:=aa ax I;obtain⟨io,ic,b⟩:=bg.shape;subst b;obtain⟨W,U,b⟩:=bq.shape;subst b;clear Y a0 X ab O ax I a5 t g C h G a;have c9:=E.c 2 rfl;have ez:=a8.lt;have f0:=E.lt;have H:=af bt (.cells #[yi 5] 3);have bb:=ah bt [yi 5] 3;have a3:=a8.l H;have bc:=E.l H;have a4:=bi.l H;have bm:=bj.l H;have b0:=aa az H
      go_wp2_with fail
      refine(HT.out d _ _ _ hdB bm bb).mono ?_;rintro zz ac ⟨fc,rfl,a9,R⟩;have bd:=a3.l R;have J:=bc.l R;have bn:=a4.l R;have b1:=aa b0 R;obtain⟨o,i,b⟩:=a9.shape;subst b;clear a3 bc bb a4 bm b0 R c9 a8 E bi bj bg bq az H;have z:=ag ac r 2 (.slice o (Dg.dg 65536 (d*5)).length i);have be:au (ac.setCell ⟨r,2,none⟩ (.slice o (Dg.dg 65536 (d*5)).length i)) r 72 (yrL ng (yS no n nc) (.slice o (Dg.dg 65536 (d*5)).length i) e):=(J.set 2 (.slice o (Dg.dg 65536 (d*5)).length i));have cb:=J.c 2 rfl;have ct:=J.f 2;have bf:=z.loc bd (by omega);have bo:=bn.setC (J.c 2 rfl) (fun n=>by simp) (.slice o (Dg.dg 65536 (d*5)).length i)
      have bp:=a9.setC (J.c 2 rfl) (fun n=>by simp) (.slice o (Dg.dg 65536 (d*5)).length i)
      have b3:=z.below b1 (by omega);clear z
      go_upto_region 16 with fail
      generalize ac.setCell ⟨r,2,none⟩ (.slice o (Dg.dg 65536 (d*5)).length i)=ep at bf be bo bp b3⊢;clear J bd bn a9 b1 cb ct
      go_wp2
      go_roundw
      case rel=>exact⟨k,n,(d*5),_,_,by go_num,A.out,T,L.out,by omega,b3,bf,be,bo,bp⟩
      case measure=>simp[intOf];omega
     have f4:(Dg.dg 65536 (n % 5)).length=0:=c2.1 hm;clear c2
     by_cases c1:d=1
     ·subst c1
      have A:=rqS_down A hm rfl;replace A:Hid _:=A;have L:1*5^k≤B:=Nat.le_trans (Nat.mul_le_mul_right _ (by omega)) L;replace L:Hid _:=L;obtain⟨uo,uc,rfl⟩:=h.shape;have b7:Dg.dg 65536 1=[1]:=by decide
      obtain⟨Q,uf,hu,qu⟩: ∃Q uf,uo=some ⟨Q,uf,none⟩∧wr.rangeAt Q uf [yi 1]:=by
       obtain⟨Q,uf,hu,hc⟩:=(iQ h).2.2 (by rw[b7];decide);refine⟨Q,uf,hu,fun j y hj=> ?_⟩
       obtain rfl|j0:j=0∨0<j:=by omega
       ·have:=hc 0 (by rw[b7];decide)
        rw[b7] at this;simp only[List.getElem?_cons_zero,Option.some.injEq] at hj;rw[←hj];exact this
       ·rw[List.getElem?_eq_none (by simp;omega)] at hj
        cases hj
      subst hu;have a2:(Dg.dg 65536 1).length=1:=by rw[b7];rfl
      rw[a2] at g h;clear b7 a2 hm;have a5:=g.c 1 rfl;have cd:=t.lt;have ce:=g.lt;have a:=af wr (.cells #[yi 5] 3);have X:=ah wr [yi 5] 3;have Y:=aC qu a;have a0:=t.l a;have ba:=g.l a;have O:=C.l a;have bh:=h.l a;have ay:=aa G a
      go_wp2_with fail
      refine(HI.out n _ _ _ T O X).mono ?_;rintro zz ar ⟨fb,fe,rfl,aq,bs,F⟩;have E:=aC Y F;have ao:=a0.l F;have M:=ba.l F;have bl:=bh.l F;have d0:=aa ay F;obtain⟨io,ic,b⟩:=aq.shape;subst b;obtain⟨W,U,b⟩:=bs.shape;subst b;clear Y a0 ba X O bh ay F a5 qu t g C h G a;have b6:=E 0 _ rfl;rw[Nat.add_zero] at b6;have ca:=M.c 2 rfl;have z:=ag ar r 1 (.slice io (Dg.dg 65536 (n/5)).length ic);have dy:au (ar.setCell ⟨r,1,none⟩ (.slice io (Dg.dg 65536 (n/5)).length ic)) r 72 (yrL ng (.slice io (Dg.dg 65536 (n/5)).length ic) (.slice (some ⟨Q,uf,none⟩) 1 uc) e):=(M.set 1 (.slice io (Dg.dg 65536 (n/5)).length ic));have et:=M.c 1 rfl;have fg:=M.f 1;have a3:=z.loc ao (by omega);have ef:=bl.setC (M.c 1 rfl) (fun n=>by simp) (.slice io (Dg.dg 65536 (n/5)).length ic)
      have a4:=aq.setC (M.c 1 rfl) (fun n=>by simp) (.slice io (Dg.dg 65536 (n/5)).length ic)
      have d2:=z.below d0 (by omega);clear z
      go_upto_region 16 with fail
      generalize ar.setCell ⟨r,1,none⟩ (.slice io (Dg.dg 65536 (n/5)).length ic)=fk at a3 dy ef a4 d2⊢;clear M E ao bl aq bs d0 ca et fg b6
      go_wp2
      go_roundw
      case rel=>exact⟨k,(n/5),1,_,_,by go_num,A.out,a7.out,L.out,by omega,d2,a3,dy,a4,ef⟩
      case measure=>simp[intOf];omega
     ·have A:=rqS_up A (fun c=>c1 c.2)
      replace A:Hid _:=A;replace L:Hid _:=L;obtain⟨uo,uc,rfl⟩:=h.shape
      by_cases a2:(Dg.dg 65536 d).length=1
      rotate_left
      ·have g0: ¬(((Dg.dg 65536 d).length:Int)=1):=by omega
       clear hm c1;have a5:=g.c 1 rfl;have cd:=t.lt;have ce:=g.lt;have a:=af wr (.cells #[yi 5] 3);have X:=ah wr [yi 5] 3;have Y:=t.l a;have a0:=g.l a;have ab:=C.l a;have O:=h.l a;have ax:=aa G a
       go_wp2_with fail
       refine(HI.out n _ _ _ T ab X).mono ?_;rintro zz bt ⟨fa,fd,rfl,bg,bq,I⟩;have a8:=Y.l I;have E:=a0.l I;have bi:=ab.l I;have bj:=O.l I;have az:=aa ax I;obtain⟨io,ic,b⟩:=bg.shape;subst b;obtain⟨W,U,b⟩:=bq.shape;subst b;clear Y a0 X ab O ax I a5 t g C h G a;have c9:=E.c 2 rfl;have ez:=a8.lt;have f0:=E.lt;have H:=af bt (.cells #[yi 5] 3);have bb:=ah bt [yi 5] 3;have a3:=a8.l H;have bc:=E.l H;have a4:=bi.l H;have bm:=bj.l H;have b0:=aa az H
       go_wp2_with fail
       refine(HT.out d _ _ _ hdB bm bb).mono ?_;rintro zz ac ⟨fc,rfl,a9,R⟩;have bd:=a3.l R;have J:=bc.l R;have bn:=a4.l R;have b1:=aa b0 R;obtain⟨o,i,b⟩:=a9.shape;subst b;clear a3 bc bb a4 bm b0 R c9 a8 E bi bj bg bq az H;have z:=ag ac r 2 (.slice o (Dg.dg 65536 (d*5)).length i);have be:au (ac.setCell ⟨r,2,none⟩ (.slice o (Dg.dg 65536 (d*5)).length i)) r 72 (yrL ng (yS no n nc) (.slice o (Dg.dg 65536 (d*5)).length i) e):=(J.set 2 (.slice o (Dg.dg 65536 (d*5)).length i));have cb:=J.c 2 rfl;have ct:=J.f 2;have bf:=z.loc bd (by omega);have bo:=bn.setC (J.c 2 rfl) (fun n=>by simp) (.slice o (Dg.dg 65536 (d*5)).length i)
       have bp:=a9.setC (J.c 2 rfl) (fun n=>by simp) (.slice o (Dg.dg 65536 (d*5)).length i)
       have b3:=z.below b1 (by omega);clear z
       go_upto_region 16 with fail
       generalize ac.setCell ⟨r,2,none⟩ (.slice o (Dg.dg 65536 (d*5)).length i)=ep at bf be bo bp b3⊢;clear J bd bn a9 b1 cb ct
       go_wp2
       go_roundw
       case rel=>exact⟨k,n,(d*5),_,_,by go_num,A.out,T,L.out,by omega,b3,bf,be,bo,bp⟩
       case measure=>simp[intOf];omega
      ·have d9:Dg.dg 65536 d=[d]:=by
        obtain⟨y,hy⟩:=List.length_eq_one_iff.1 a2;have:=Dg.vl_dg 65536 d (by omega);rw[hy] at this;rw[hy];simp only[Dg.vl,Nat.mul_zero,Nat.add_zero] at this;rw[this]
       obtain⟨Q,uf,hu,qu⟩: ∃Q uf,uo=some ⟨Q,uf,none⟩∧wr.rangeAt Q uf [yi d]:=by
        obtain⟨Q,uf,hu,hc⟩:=(iQ h).2.2 (by rw[a2];decide);refine⟨Q,uf,hu,fun j y hj=> ?_⟩
        obtain rfl|j0:j=0∨0<j:=by omega
        ·have:=hc 0 (by rw[a2];decide)
         rw[d9] at this;simp only[List.getElem?_cons_zero,Option.some.injEq] at hj;rw[←hj];exact this
        ·rw[List.getElem?_eq_none (by simp;omega)] at hj
         cases hj
       subst hu;rw[a2] at g h;have ft:(((d:Nat):Int)==1)=false:=by rw[beq_eq_false_iff_ne];omega
       clear d9 a2 hm c1;have a5:=g.c 1 rfl;have cd:=t.lt;have ce:=g.lt;have a:=af wr (.cells #[yi 5] 3);have X:=ah wr [yi 5] 3;have Y:=aC qu a;have a0:=t.l a;have ba:=g.l a;have O:=C.l a;have bh:=h.l a;have ay:=aa G a
       go_wp2_with fail
       refine(HI.out n _ _ _ T O X).mono ?_;rintro zz ar ⟨fb,fe,rfl,aq,bs,F⟩;have E:=aC Y F;have ao:=a0.l F;have M:=ba.l F;have bl:=O.l F;have ee:=bh.l F;have d1:=aa ay F;obtain⟨io,ic,b⟩:=aq.shape;subst b;obtain⟨W,U,b⟩:=bs.shape;subst b;clear Y a0 ba X O bh ay F a5 qu t g C h G a;have b6:=E 0 _ rfl;rw[Nat.add_zero] at b6;have ca:=M.c 2 rfl;have g3:=ao.lt;have g4:=M.lt;have ae:=af ar (.cells #[yi 5] 3);have e0:=ah ar [yi 5] 3;have e1:=ao.l ae;have e2:=M.l ae;have eg:=bl.l ae;have eh:=ee.l ae;have d3:=aa d1 ae
       go_wp2_with fail
       refine(HT.out d _ _ _ hdB eh e0).mono ?_;rintro zz cs ⟨gc,rfl,cp,b5⟩;have e3:=e1.l b5;have ap:=e2.l b5;have ei:=eg.l b5;have d4:=aa d3 b5;obtain⟨o,i,b⟩:=cp.shape;subst b;clear e1 e2 e0 eg eh d3 b5 ca b6 E ao M bl ee aq bs d1 ae;have z:=ag cs r 2 (.slice o (Dg.dg 65536 (d*5)).length i);have e4:au (cs.setCell ⟨r,2,none⟩ (.slice o (Dg.dg 65536 (d*5)).length i)) r 72 (yrL ng (yS no n nc) (.slice o (Dg.dg 65536 (d*5)).length i) e):=(ap.set 2 (.slice o (Dg.dg 65536 (d*5)).length i));have eu:=ap.c 2 rfl;have fi:=ap.f 2;have e5:=z.loc e3 (by omega);have ej:=ei.setC (ap.c 2 rfl) (fun n=>by simp) (.slice o (Dg.dg 65536 (d*5)).length i)
       have ek:=cp.setC (ap.c 2 rfl) (fun n=>by simp) (.slice o (Dg.dg 65536 (d*5)).length i)
       have d5:=z.below d4 (by omega);clear z
       go_upto_region 16 with fail
       generalize cs.setCell ⟨r,2,none⟩ (.slice o (Dg.dg 65536 (d*5)).length i)=fl at e5 e4 ej ek d5⊢;clear ap e3 ei cp d4 eu fi
       go_wp2
       go_roundw
       case rel=>exact⟨k,n,(d*5),_,_,by go_num,A.out,T,L.out,by omega,d5,e5,e4,ej,ek⟩
       case measure=>simp[intOf];omega
end Go.Proofs.YtlhkndcmbpcpgaaGreatDoor
