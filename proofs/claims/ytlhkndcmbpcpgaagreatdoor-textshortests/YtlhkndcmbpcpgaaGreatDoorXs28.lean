/- Texts laid together. -/
import Derived.Test.YtlhkndcmbpcpgaaGreatDoorXs22
import Derived.Test.YtlhkndcmbpcpgaaGreatDoorXs23
import Derived.Test.YtlhkndcmbpcpgaaGreatDoorXs25
set_option maxRecDepth 100000
set_option maxHeartbeats 3200000
namespace Go.Proofs.YtlhkndcmbpcpgaaGreatDoor
open _root_.Go.Proofs.Tryz
open Go.RowKit
theorem jM (qs:Bool)(f:Option Addr)(i:Nat)(xs:List Nat)(g:Option Addr)(j:Nat)(a:List Nat)(E R D L G:Int)(gr:Bool)(way:Int)(w:World)(q:Rd w .u32 (.slice f xs.length i) xs)(s:Rd w .u32 (.slice g a.length j) a)(I:Dg.Small 4294967296 xs)(J:Dg.Small 4294967296 a):
  yC 109 #[yrV qs (.slice f xs.length i) (.slice g a.length j) E,ygV R D L G gr,yi way] w (sq w (eE xs a E R D L G way) (df xs a E R D L G gr qs way)):=by
 refine Ob R D L G gr qs f xs.length i g a.length j E way (jg (eA xs a E) (bk R D L G)) (ac0 way) (T4 way) (iC way) ((xs.length:Int)==0) (cI R D L G gr qs (Dg.vl 4294967296 xs) (Dg.vl 4294967296 a) E way) _ _ w ?_ ?_ rfl ?_ ?_ ?_ ?_ ?_ ?_ ?_
 ·intro h
  exact if_pos h
 ·intro h
  exact if_neg (by rw[h];decide)
 ·intro h
  have e:eE xs a E R D L G way=jg (eA xs a E) (bk R D L G):=if_neg h;exact⟨e,by unfold df;rw[e,if_neg h]⟩
 ·intro h d
  have e:eE xs a E R D L G way=6:=(if_pos h).trans (if_neg (by rw[d];decide));exact⟨e,by unfold df;rw[e];rfl⟩
 ·intro h d n
  have e:eE xs a E R D L G way=0:=(if_pos h).trans (if_pos d);have p:xs.length=0:=by simpa using n
  exact⟨e,by unfold df;rw[e,if_pos rfl,if_pos p]⟩
 ·intro h d n
  have e:eE xs a E R D L G way=0:=(if_pos h).trans (if_pos d);have p: ¬xs.length=0:=by simpa using n
  exact⟨e,by unfold df;rw[e,if_pos rfl,if_neg p]⟩
 ·intro m b
  exact Qe qs f i xs g j a E R D L G gr m (q.l b) (s.l b)
 ·intro m r C
  exact PI way m r C
 ·intro h d n m b
  obtain⟨z,A⟩:=C4 h;obtain⟨u,v,t,x,y⟩:=gO z;obtain⟨F,K⟩:=aF u;obtain⟨H,M⟩:=aF v;have o:Dg.dg 4294967296 (Dg.vl 4294967296 xs)=xs:=Dg.dg_vl _ (by omega) _ I F;have k:Dg.dg 4294967296 (Dg.vl 4294967296 a)=a:=Dg.dg_vl _ (by omega) _ J H;have B:0<Dg.vl 4294967296 a:=by
   refine Nat.pos_of_ne_zero fun c=> ?_
   rw[c] at k;rw[←k] at t;exact absurd t (by decide)
  have:=Qh R D L G gr qs f i g j (Dg.vl 4294967296 xs) (Dg.vl 4294967296 a) E way (T4 way) m A (by rw[o];exact q.l b) (by rw[k];exact s.l b) (by rw[o];omega) (by rw[k];omega) B x y (PO d) (PK d)
  rwa [o,k] at this
theorem Bq {xs a:List Nat}{E R D L G way:Int}(h:eA xs a E=0)(b:bk R D L G=0):eE xs a E R D L G way=if iC way=true then 0 else 6:=by
 have e:jg (eA xs a E) (bk R D L G)=bk R D L G:=if_pos h;unfold eE;rw[e,if_pos b]
theorem Uy (g cap:Nat)(zs:List Nat)(w:World)(c:ik w g zs)(b:zs.length≤1000000000):
  yC 121 #[.slice (some ⟨g,0,none⟩) zs.length cap] w fun e w'=>e= .returned (.tuple #[])∧ik w' g zs.reverse∧w.grownBy w' (some g):=by
 have d:=Ko g cap zs w c b
 go_enter func121,ntmps121
 go_wp2_with fail
 refine d.mono ?_;rintro z h ⟨rfl,f,a⟩
 go_wp2
 go_end0
 exact⟨rfl,f,a⟩
theorem IV (k:Nat)(g cap:Nat)(zs:List Nat)(w:World)(c:ik w g zs)(h:zs.length≤1000)(d: ∃m,zs.length=2*m):
  yC (C9 k) #[.slice (some ⟨g,0,none⟩) zs.length cap] w fun e w'=>e= .returned (.tuple #[])∧ik w' g (jT k zs)∧w.grownBy w' (some g):=by
 unfold C9 jT
 by_cases a:k=3
 ·rw[if_pos a,if_pos a]
  exact Uy g cap zs w c (by omega)
 ·rw[if_neg a,if_neg a]
  by_cases b:6≤k
  ·rw[if_pos b,if_pos b]
   obtain⟨m,f⟩:=d;exact T8 g cap m zs w c (by omega) f
  ·rw[if_neg b,if_neg b]
   refine(Ux _ w).mono ?_;rintro z i ⟨rfl,rfl⟩;exact⟨rfl,c,ib _ _⟩
theorem Mx (k:Nat)(ng:Bool)(e f:Nat):(kU k ng e f).length=szN k:=by
 unfold kU;rw[nM,il,il]
 split
 ·rw[il,List.length_replicate]
 ·rw[List.length_replicate]
theorem Aq (k:Nat)(c:1≤k∧k≤8)(ng:Bool)(e f:Nat)(w:World)(p:e<65536)(q:f<18446744073709551616):
  yC 76 #[.agg (tS k).toArray,yfV ng e f] w (yR w (.string (cF (kU k ng e f)))):=by
 obtain⟨m,n,o,u,t,-⟩:=fZ c;have r:=Mx k ng e f;have j:=fun a=>tm k c a
 have i:=fun s W=>Db k s W
 have l:=fun zs (b:zs.length=szN k) g cap a h=>IV k g cap zs a h (by omega) (by rw[b];exact t)
 cases ng
 ·have d: ∀g cap a,ik a g (iS (1+exN k) (frN k) f (iS 1 (exN k) e (List.replicate (szN k) 0)))→yC (C9 k) #[.slice (some ⟨g,0,none⟩) (szN k) cap] a fun z w'=>z= .returned (.tuple #[])∧ik w' g (kU k false e f)∧a.grownBy w' (some g):=fun g cap a h=>by
   have b:(iS (1+exN k) (frN k) f (iS 1 (exN k) e (List.replicate (szN k) 0))).length=szN k:=by rw[il,il,List.length_replicate]
   have:=l _ b g cap a h;rw[b] at this;exact this
  rcases bO c with rfl|rfl|rfl|rfl|rfl|rfl|rfl|rfl
  all_goals exact Km _ _ _ _ _ _ _ _ _ _ e f _ w m n o p q r d j i
 ·have d: ∀g cap a,ik a g (iS (1+exN k) (frN k) f (iS 1 (exN k) e (iS 0 1 1 (List.replicate (szN k) 0))))→yC (C9 k) #[.slice (some ⟨g,0,none⟩) (szN k) cap] a fun z w'=>z= .returned (.tuple #[])∧ik w' g (kU k true e f)∧a.grownBy w' (some g):=fun g cap a h=>by
   have b:(iS (1+exN k) (frN k) f (iS 1 (exN k) e (iS 0 1 1 (List.replicate (szN k) 0)))).length=szN k:=by rw[il,il,il,List.length_replicate]
   have:=l _ b g cap a h;rw[b] at this;exact this
  rcases bO c with rfl|rfl|rfl|rfl|rfl|rfl|rfl|rfl
  all_goals exact Mw _ _ _ _ _ _ _ _ _ _ e f _ w m n o p q r d j i
theorem Gd (R D L G sz a c:Int)(gr ng:Bool)(F e f:Nat)(w:World)(b:yJ 151 #[ylV R D L G gr sz a 1 F,yfV ng e f] (yi c)):yC 113 #[ylV R D L G gr sz a 1 F,yfV ng e f] w (yR w (yi c)):=by
 replace b:Hid _:=b;have i:=cD;have j:=(ah w (ylL R D L G gr sz a 1 F) 93).l (af _ (.cells (yfA ng e f) 134));have h:=ah (w.alloc (.cells (ylA R D L G gr sz a 1 F) 93)) (yfL ng e f) 134;have d:=aa (af w (.cells (ylA R D L G gr sz a 1 F) 93)) (af _ (.cells (yfA ng e f) 134));rw[World.size_alloc] at h
 go_enter func113,ntmps113
 go_wp2_with fail
 refine(b.out _).mono ?_;rintro z k ⟨rfl,g⟩
 go_wp2
 go_ret
 exact⟨rfl,aa d g⟩
theorem Za (R D L G sz c:Int)(gr ng:Bool)(F e f:Nat)(w:World):yC 113 #[ylV R D L G gr sz c 2 F,yfV ng e f] w (yR w (yi (((if f=0 then 1 else 2:Nat):Nat):Int))):=by
 have k:=cD;have m:=(ah w (ylL R D L G gr sz c 2 F) 93).l (af _ (.cells (yfA ng e f) 134));have i:=ah (w.alloc (.cells (ylA R D L G gr sz c 2 F) 93)) (yfL ng e f) 134;have g:=aa (af w (.cells (ylA R D L G gr sz c 2 F) 93)) (af _ (.cells (yfA ng e f) 134));rw[World.size_alloc] at i;have d:Hid (∀b a,yC 152 #[.bool b] a fun z w'=>z= .returned (yi (if b then 1 else 2))∧w'=a):=fun b a=>Aj b a
 by_cases h:f=0
 ·subst h
  go_enter func113,ntmps113
  go_wp2_with fail
  refine(d.out true _).mono ?_;rintro z a ⟨rfl,rfl⟩
  go_wp2
  go_ret
  exact⟨rfl,g⟩
 ·have j:((f:Int)==0)=false:=by simp;omega
  rw[if_neg h];clear h
  go_enter func113,ntmps113
  go_wp2_with fail
  refine(d.out false _).mono ?_;rintro z a ⟨rfl,rfl⟩
  go_wp2
  go_ret
  exact⟨rfl,g⟩
theorem nt {n:Nat}{e:Int}(h:(Dg.dg 4294967296 n).length≤1200)(a: -20000≤e)(b:e≤20000):aS (Dg.dg 4294967296 n) e=0:=by
 unfold aS;rw[pJ (Dg.norm_dg _ _ (by omega)) h,if_pos rfl,if_neg (by omega)]
theorem ZC (R D L G k:Int)(gr:Bool)(sz j:Nat)(F m:Nat)(s:Bool)(o:Option Addr)(r:Nat)(xs:List Nat)(E:Int)(w:World)(S:Bool→Nat→Nat→ByteArray)
  (hr:Rd w .u32 (.slice o xs.length r) xs) (sa:Dg.Small 4294967296 xs) (hd:aS xs E=0) (y:Dg.vl 4294967296 xs≠0) (hg:bk R D L G=0) (U:1≤D) (W:L≤G) (hD:ai R*D.toNat≤64) (a8:G-L<60000) (a4:R=2∨R=16) (a0:m<18446744073709551616)
  (Z:dA R D L G gr (Dg.vl 4294967296 xs) E=true)
  (Q:yJ 127 #[ylV R D L G gr sz j k F] (.int .u64 m))
  (B: ∀ng e f a,e<65536→f<18446744073709551616→yC 76 #[ylV R D L G gr sz j k F,yfV ng ((e:Nat):Int) ((f:Nat):Int)] a (yR a (.string (S ng e f)))):
  yC 73 #[ylV R D L G gr sz j k F,ydV s (.slice o xs.length r) E] w (yR w (.tuple #[.string (S (cI R D L G gr s (Dg.vl 4294967296 xs) 1 E 3).s (heE R L m (cI R D L G gr s (Dg.vl 4294967296 xs) 1 E 3)) (cI R D L G gr s (Dg.vl 4294967296 xs) 1 E 3).d),yi 0])):=by
 obtain⟨c1,e1,e2⟩:=bL hd;have a6:xs.length≠0:=fun h=>y (by rw[List.eq_nil_of_length_eq_zero h];rfl)
 have H:eE xs [1] E R D L G 3=0:=by
  have hq:eA xs [1] E=0:=by
   unfold eA;rw[if_pos c1,if_pos (show chk [1]=0 by decide),if_neg]
   rintro(h|h)
   ·simp at h
   ·unfold eJ at h
    simp at h;omega
  have hw:jg (eA xs [1] E) (bk R D L G)=0:=by unfold jg;rw[if_pos hq];exact hg
  unfold eE;rw[if_pos hw,if_pos (by decide)]
 have X:df xs [1] E R D L G gr s 3=cI R D L G gr s (Dg.vl 4294967296 xs) 1 E 3:=by
  unfold df;rw[if_pos H,if_neg a6];rfl
 obtain⟨a2,a3,K⟩:=mC (s:=s) (way:=3) U W y Z;have O:=nW U W y (by omega:(1:Nat)≠0) a2 a3;have I:=fun q a (b:yB w a) (M:a.cell? ⟨q,0,none⟩=some (.int .u32 1))=>jM s o r xs (some ⟨q,0,none⟩) 1 [1] E R D L G gr 3 a (hr.l b) (xD M) sa (fun i=>by
  match i with
  |0=>decide
  |i+1=>simp)
 rw[H,X] at I;obtain⟨t,ht⟩: ∃t,cI R D L G gr s (Dg.vl 4294967296 xs) 1 E 3=t:=⟨_,rfl⟩;rw[ht] at O K I⊢;have Y:t.d≠0:=fun h=>by
  have hz:=congrArg ak.n K;have T:=(fI ⟨t.s,t.d,(ai R:Int)*t.p⟩).2 h;rw[hz] at T;exact y ((fI ⟨s,Dg.vl 4294967296 xs,E⟩).1 T)
 obtain⟨-,ac,ad,a9,-⟩:=O.resolve_left (fun h=>Y h.1)
 have u:t.d<18446744073709551616:=by
  have:(2:Nat)^ (ai R*D.toNat)≤2^64:=Nat.pow_le_pow_right (by omega) hD;omega
 clear ht a2 a3 K O H X Z;obtain⟨e,he⟩: ∃e:Nat,t.p-L=(e:Int):=⟨(t.p-L).toNat,by omega⟩;have ab:e<60000:=by omega
 have N:IntKind.i64.wrap (t.p-L)=(e:Int):=by rw[he];exact IntWalk.i64_in _ ⟨by omega,by omega⟩
 have a7:(Dg.dg 4294967296 t.d).length≤2:=Dg.dg_len_le 4294967296 t.d 2 (by omega) u;have P:0< (Dg.dg 4294967296 t.d).length:=List.length_pos_iff.2 (by rw[Ne,Dg.dg_nil_iff 4294967296 t.d (by omega)];exact Y);have C: ∀g c a,Rd a .u32 (yT g t.d c) (Dg.dg 4294967296 t.d)→ ∀x,yB a x→yC 159 #[yT g t.d c] x fun z w'=>z= .returned (.int .u64 (t.d:Int))∧x=w':=fun g c a h x b=>by
  have:=XF _ _ x (h.l b) (Dg.small_dg 4294967296 t.d (by omega)) a7;rw[Dg.vl_dg 4294967296 t.d (by omega)] at this;exact this.mono (fun _ _ h=>⟨h.1,h.2.symm⟩)
 have a5:(t.p-L).toNat=e:=by omega
 unfold heE;rw[a5];have A: ∀q a,yB w a→a.cell? ⟨q,0,none⟩=some (.int .u32 1)→yC 109 #[yrV s (.slice o xs.length r) (.slice (some ⟨q,0,none⟩) 1 1) E,ygV R D L G gr,yi 3] a fun z w'=> ∃g c,z= .returned (.tuple #[ypV t.s (yT g t.d c) t.p t.ex t.ov t.un,yi 0])∧Rd w' .u32 (yT g t.d c) (Dg.dg 4294967296 t.d)∧yB a w':=fun q a b M=>(I q a b M).mono (fun z w' h=>by
  obtain⟨v,rfl,own,b2⟩:=h;obtain⟨g,c,hv⟩:=own.rd.shape;subst hv;exact⟨g,c,rfl,own.rd,b2⟩)
 rcases a4 with rfl|rfl
 ·by_cases J:t.d&&& m=0
  ·rw[if_neg (fun h=>h.2 J),Nat.add_zero]
   exact CC _ D L G k gr sz j F s o xs.length r E w (Dg.dg 4294967296 t.d) _ t.s t.ex t.ov t.un t.p 0 A t.s e t.d (fun g c a _ h=>KG D L G k gr sz j F t.s t.ex t.ov t.un g _ c t.p e t.d a N (by omega) (C g c a h) m 0 (by rw[u64_and_nat t.d m u a0,J];rfl) rfl Q) _ (fun a=>B t.s e t.d a (by omega) u) rfl P
  ·rw[if_pos ⟨rfl,J⟩]
   have hF: ∀g c a,yB w a→Rd a .u32 (yT g t.d c) (Dg.dg 4294967296 t.d)→_:=fun g c a _ h=>KF D L G k gr sz j F t.s t.ex t.ov t.un g _ c t.p e t.d a N (by omega) (C g c a h) m ((t.d&&& m:Nat):Int) (u64_and_nat t.d m u a0) (by omega) Q
   exact CC _ D L G k gr sz j F s o xs.length r E w (Dg.dg 4294967296 t.d) _ t.s t.ex t.ov t.un t.p 0 A t.s (e+1) t.d hF _ (fun a=>B t.s (e+1) t.d a (by omega) u) rfl P
 ·rw[if_neg (fun h=>by have:=h.1;omega),Nat.add_zero]
  exact CC _ D L G k gr sz j F s o xs.length r E w (Dg.dg 4294967296 t.d) _ t.s t.ex t.ov t.un t.p 0 A t.s e t.d (fun g c a _ h=>KE D L G k gr sz j F t.s t.ex t.ov t.un g _ c t.p e t.d a N (by omega) (C g c a h)) _ (fun a=>B t.s e t.d a (by omega) u) rfl P
theorem xE (k:Nat)(a:1≤k∧k≤8)(s:Bool)(b:Option Addr)(c:Nat)(xs:List Nat)(E:Int)(w:World)(q:Rd w .u32 (.slice b xs.length c) xs)(r:Dg.Small 4294967296 xs)(l:aS xs E=0)(j:Dg.vl 4294967296 xs≠0)
  (o:dA (rdN k) (dgN k) (lsI k) (gsI k) (decide (k≤3)) (Dg.vl 4294967296 xs) E=true):
  yC 73 #[.agg (tS k).toArray,ydV s (.slice b xs.length c) E] w (yR w (.tuple #[.string (cF (kU k (plT k s (Dg.vl 4294967296 xs) E).s (heE (rdN k) (lsI k) (gW k) (plT k s (Dg.vl 4294967296 xs) E)) (plT k s (Dg.vl 4294967296 xs) E).d)),yi 0])):=by
 have h:=fun g=>xX k a g
 have i:=fun ng e f g (m:e<65536) (n:f<18446744073709551616)=>Aq k a ng e f g m n
 have p:=Re a;unfold plT
 rcases bO a with rfl|rfl|rfl|rfl|rfl|rfl|rfl|rfl
 all_goals exact ZC _ _ _ _ _ _ _ _ _ _ s b c xs E w (fun ng e f=>cF (kU _ ng e f)) q r l j (by decide) (by decide) (by decide) (by decide) (by decide) (by decide) p o h i
theorem tread_many (e:ByteArray)(w:World)(h:400<e.size):
  yC 106 #[.string e] w (yR w (.tuple #[.agg #[.bool false,.string ⟨#[]⟩,yi 0],yi 2])):=by
 obtain⟨j,a,c,d⟩:=cA w [.bool false,.string ⟨#[]⟩,yi 0] 170;replace a:Hid _:=a
 go_enter func106,ntmps106
 go_upto_region 1 with fail
 rw[a.out];clear a;have b:=afy (P:=Tryz.prog) c d (by omega) underlying170 rfl (by kernel_rfl) (.bool false) (.string ⟨#[]⟩) (yi 0);have f:Hid (_∧_):=⟨b.1,b.2.1⟩;obtain⟨⟨n,o,p⟩,k,l,m⟩:=afA c;clear b c d
 go_wp2
 obtain⟨i,g⟩:=f.out;exact bodyPost_ret (aj results106 rfl rfl i) rfl ⟨rfl,g⟩
theorem lw (v u:Value)(a b:ak)(w:World)(l:Rv w v a)(k:Rv w u b)(c:(Dg.dg 65536 a.n).length≤30000)(d:(Dg.dg 65536 b.n).length≤30000)
  (f: -200000≤a.e) (g:a.e≤200000) (i: -200000≤b.e) (j:b.e≤200000):
  yC 62 #[v,u] w (dr w (bare (cO a b))):=
 (vM v u a b w l k c d f g i j).mono fun _ _ h=>h.near
theorem gQ (v u : Value) (a b : ak) (w : World) (hv : Rv w v a) (hu : Rv w u b) (a3 : (Dg.dg 65536 a.n).length ≤ 30000) (a4 : (Dg.dg 65536 b.n).length ≤ 30000)
  (a8 : -200000 ≤ a.e) (a9 : a.e ≤ 200000) (ab : -200000 ≤ b.e) (ac : b.e ≤ 200000) :
  Calls Tryz.prog 29 #[v, u] w fun z w' => z = .returned (.int .i64 (dJ (bare (cO a (dB b))))) ∧ Below w.heap.size w w' := by
 have q : Hid (∀ j, Below w.heap.size w j → Calls Tryz.prog 63 #[u] j (dr j (dB b))) := fun j b1 => uI u b j (hu.l b1)
 have p : Hid (∀ x j, Below w.heap.size w j → Rv j x (dB b) → Calls Tryz.prog 62 #[v, x] j (dr j (bare (cO a (dB b))))) := fun x j b1 hx => lw v x a (dB b) j (hv.l b1) hx a3 a4 a8 a9 ab ac
 obtain ⟨s0, rfl, ra⟩ := hv
 obtain ⟨Q, U, rfl⟩ := ra.shape
 obtain ⟨s1, rfl, rb⟩ := hu
 obtain ⟨S, X, rfl⟩ := rb.shape
 obtain ⟨⟨rs, c, re⟩, hT⟩ : ∃ T, bare (cO a (dB b)) = T := ⟨_, rfl⟩
 rw [hT] at p ⊢
 obtain ⟨⟨ms, mn, me⟩, a5⟩ : ∃ T, dB b = T := ⟨_, rfl⟩
 rw [a5] at p q
 have E := Dg.dg_nil_iff 65536 c (by omega)
 obtain ⟨Z, a6⟩ : ∃ m, (Dg.dg 65536 a.n).length = m := ⟨_, rfl⟩
 obtain ⟨mb, a7⟩ : ∃ m, (Dg.dg 65536 b.n).length = m := ⟨_, rfl⟩
 rw [a6] at p ⊢
 rw [a7] at q ⊢
 obtain ⟨sa, an, P⟩ := a
 obtain ⟨sb, bn, R⟩ := b
 simp only at p q ⊢
 clear hT a6 a7 ra rb a3 a4 a5
 unfold dJ
 simp only
 have bA := aa (af w (.cells #[.bool sa, .slice Q Z U, .int .i64 P] 28)) (af _ (.cells #[.bool sb, .slice S mb X, .int .i64 R] 28))
 have la := (aA w (.bool sa) (.slice Q Z U) (.int .i64 P) 28).l (af _ (.cells #[.bool sb, .slice S mb X, .int .i64 R] 28))
 have lb := aA (w.alloc (.cells #[.bool sa, .slice Q Z U, .int .i64 P] 28)) (.bool sb) (.slice S mb X) (.int .i64 R) 28
 rw [World.size_alloc] at lb
 obtain ⟨W, hW⟩ : ∃ W, ((w.alloc (.cells #[.bool sa, .slice Q Z U, .int .i64 P] 28)).alloc (.cells #[.bool sb, .slice S mb X, .int .i64 R] 28)) = W := ⟨_, rfl⟩
 rw [hW] at bA la lb
 have bd : Below W.heap.size W W.drew := (Below.refl _ _).drew
 have r := aa bA bd
 have B := la.l bd
 have C := lb.l bd
 have I := aA W.drew (.bool false) (.slice none 0 0) (.int .i64 0) 28
 have sW : W.drew.heap.size = w.heap.size + 1 + 1 := by rw [← hW]; simp [World.size_alloc]
 rw [sW] at I
 rw [← hW] at r B C I
 obtain ⟨-, ⟨c0, c1, c2⟩, -⟩ := id B
 obtain ⟨-, ⟨c3, c4, c5⟩, -⟩ := id C
 clear bA la lb bd hW sW
 have ne3 : w.heap.size + 1 + 1 ≠ w.heap.size := by omega
 have a2 : w.heap.size + 1 + 1 ≠ w.heap.size + 1 := by omega
 go_enter func29, ntmps29
 go_wp2_with fail
 go_region_held3 (fun O => (O.cell? ⟨w.heap.size, 0, none⟩ = some (.bool sa) ∧ O.cell? ⟨w.heap.size, 1, none⟩ = some (.slice Q Z U) ∧ O.cell? ⟨w.heap.size, 2, none⟩ = some (.int .i64 P)) ∧ O.cell? ⟨w.heap.size + 1, 0, none⟩ = some (.bool sb) ∧ O.cell? ⟨w.heap.size + 1, 1, none⟩ = some (.slice S mb X) ∧ O.cell? ⟨w.heap.size + 1, 2, none⟩ = some (.int .i64 R)) (go_keep) (first
   | (go_at_call 63; refine (q.out _ r).mono ?_; rintro z D ⟨v1, rfl, L, o⟩; have t := B.l o; have y := C.l o; have k := aa r o; obtain ⟨-, ⟨J, p1, p2⟩, -⟩ := id t; obtain ⟨-, ⟨K, p4, p5⟩, -⟩ := id y; have x0 := World.new_ne D _ J; have x1 := World.new_ne D _ K)
   | (go_at_call 63; refine (q.out _ (aa r (af _ (.cells #[.bool false, .slice none 0 0, .int .i64 0] 28)))).mono ?_; rintro z D ⟨v1, rfl, L, o⟩; have t := (B.l (af _ (.cells #[.bool false, .slice none 0 0, .int .i64 0] 28))).l o; have y := (C.l (af _ (.cells #[.bool false, .slice none 0 0, .int .i64 0] 28))).l o; have k := aa (aa r (af _ (.cells #[.bool false, .slice none 0 0, .int .i64 0] 28))) o; have ad := I.l o; obtain ⟨-, ⟨J, p1, p2⟩, -⟩ := id t; obtain ⟨-, ⟨K, p4, p5⟩, -⟩ := id y; have x0 := World.new_ne D _ J; have x1 := World.new_ne D _ K)
   | (go_at_call 62; refine (p.out _ D k ⟨_, rfl, L⟩).mono ?_; rintro z w4 ⟨v2, rfl, M, i⟩; obtain ⟨tq, N, a1⟩ := M.shape; subst a1; have F := t.l i; have G := y.l i; have A := aa k i; (try (have Y := ad.l i; obtain ⟨-, ⟨d0, d1, d2⟩, f0, f1, f2⟩ := id Y)); obtain ⟨-, ⟨u0, u1, u2⟩, -⟩ := id F; obtain ⟨-, ⟨u3, u4, u5⟩, -⟩ := id G; have y0 := World.new_ne w4 _ u0; have y1 := World.new_ne w4 _ u3)
   | (go_at_call 62; refine (p.out _ _ (aa k (af _ (.cells #[.bool false, .slice none 0 0, .int .i64 0] 28))) ⟨_, rfl, L.l (af _ (.cells #[.bool false, .slice none 0 0, .int .i64 0] 28))⟩).mono ?_; rintro z w4 ⟨v2, rfl, M, i⟩; obtain ⟨tq, N, a1⟩ := M.shape; subst a1; have F := (t.l (af _ (.cells #[.bool false, .slice none 0 0, .int .i64 0] 28))).l i; have G := (y.l (af _ (.cells #[.bool false, .slice none 0 0, .int .i64 0] 28))).l i; have A := aa (aa k (af _ (.cells #[.bool false, .slice none 0 0, .int .i64 0] 28))) i; have Y := (aA D (.bool false) (.slice none 0 0) (.int .i64 0) 28).l i; obtain ⟨-, ⟨d0, d1, d2⟩, f0, f1, f2⟩ := id Y; obtain ⟨-, ⟨u0, u1, u2⟩, -⟩ := id F; obtain ⟨-, ⟨u3, u4, u5⟩, -⟩ := id G))
 ·have g : (Dg.dg 65536 c).length = 0 ↔ c = 0 := by rw [List.length_eq_zero_iff]; exact E
  have a0 := k.size
  have d := aa A (af w4 (.cells #[.bool rs, .slice tq (Dg.dg 65536 c).length N, .int .i64 re] 28))
  clear B C I c0 c1 c2 c3 c4 c5 p q t y J p1 p2 K p4 p5 L M F G E r k A o i x0 x1 ne3 a2
  by_cases h : c = 0
  ·have s := g.2 h
   have H : Hid (c = 0) := h
   rw [s] at d
   clear g h
   go_wp2
   go_ret
   exact ⟨by first | rfl | rw [if_pos H.out], d⟩
  ·have f : ¬(Dg.dg 65536 c).length = 0 := fun e => h (g.1 e)
   have H : Hid (¬c = 0) := h
   have s : (((Dg.dg 65536 c).length : Int) == 0) = false := by
    revert f
    generalize (Dg.dg 65536 c).length = mr
    intro f
    simp; exact f
   clear g h f
   cases rs
   ·go_wp2
    go_ret
    exact ⟨by first | rfl | (rw [if_neg H.out]; rfl), d⟩
   ·go_wp2
    go_ret
    exact ⟨by first | rfl | (rw [if_neg H.out]; rfl), d⟩
 ·obtain ⟨-, ⟨g0, g1, g2⟩, -⟩ := aD Y (.bool rs) (.slice tq (Dg.dg 65536 c).length N) (.int .i64 re)
  have g : (Dg.dg 65536 c).length = 0 ↔ c = 0 := by rw [List.length_eq_zero_iff]; exact E
  have a0 := k.size
  have d := am A a0 (.bool rs) (.slice tq (Dg.dg 65536 c).length N) (.int .i64 re)
  clear B C I c0 c1 c2 c3 c4 c5 p q t y J p1 p2 K p4 p5 L M F G E r k A o i x0 x1 ne3 a2
  by_cases h : c = 0
  ·have s := g.2 h
   have H : Hid (c = 0) := h
   rw [s] at d
   clear g h
   go_wp2
   go_ret
   exact ⟨by first | rfl | rw [if_pos H.out], d⟩
  ·have f : ¬(Dg.dg 65536 c).length = 0 := fun e => h (g.1 e)
   have H : Hid (¬c = 0) := h
   have s : (((Dg.dg 65536 c).length : Int) == 0) = false := by
    revert f
    generalize (Dg.dg 65536 c).length = mr
    intro f
    simp; exact f
   clear g h f
   cases rs
   ·go_wp2
    go_ret
    exact ⟨by first | rfl | (rw [if_neg H.out]; rfl), d⟩
   ·go_wp2
    go_ret
    exact ⟨by first | rfl | (rw [if_neg H.out]; rfl), d⟩
 ·obtain ⟨-, ⟨g0, g1, g2⟩, -⟩ := aD Y (.bool rs) (.slice tq (Dg.dg 65536 c).length N) (.int .i64 re)
  have g : (Dg.dg 65536 c).length = 0 ↔ c = 0 := by rw [List.length_eq_zero_iff]; exact E
  have a0 := k.size
  have d := am A (show w.heap.size ≤ w.heap.size + 1 + 1 by omega) (.bool rs) (.slice tq (Dg.dg 65536 c).length N) (.int .i64 re)
  clear B C I c0 c1 c2 c3 c4 c5 p q t y J p1 p2 K p4 p5 L M F G E r k A o i x0 x1 ne3 a2
  by_cases h : c = 0
  ·have s := g.2 h
   have H : Hid (c = 0) := h
   rw [s] at d
   clear g h
   go_wp2
   go_ret
   exact ⟨by first | rfl | rw [if_pos H.out], d⟩
  ·have f : ¬(Dg.dg 65536 c).length = 0 := fun e => h (g.1 e)
   have H : Hid (¬c = 0) := h
   have s : (((Dg.dg 65536 c).length : Int) == 0) = false := by
    revert f
    generalize (Dg.dg 65536 c).length = mr
    intro f
    simp; exact f
   clear g h f
   cases rs
   ·go_wp2
    go_ret
    exact ⟨by first | rfl | (rw [if_neg H.out]; rfl), d⟩
   ·go_wp2
    go_ret
    exact ⟨by first | rfl | (rw [if_neg H.out]; rfl), d⟩
theorem kB (R D L G:Int)(gr s:Bool)(g:Option Addr)(i:Nat)(xs:List Nat)(p:Int)(j v x:Bool)(w:World)(n:Rd w .u32 (.slice g xs.length i) xs)(u:Dg.Small 4294967296 xs)(A:Tab w):
  yC 69 #[ypV s (.slice g xs.length i) p j v x,ygV R D L G gr] w (gR w (cC (ix xs p R D L G) ⟨s,Dg.vl 4294967296 xs,(ai R:Int)*p⟩)):=by
 obtain⟨⟨⟨rs,t,q⟩,c⟩,d⟩: ∃r,cC (ix xs p R D L G) ⟨s,Dg.vl 4294967296 xs,(ai R:Int)*p⟩=r:=⟨_,rfl⟩;have m: ∀k,ix xs p R D L G=k→ ¬k=0→rs=false∧t=0∧q=0∧c=k:=fun k y a=>by
  rw[y,Xw a] at d;simp only[Prod.mk.injEq,ak.mk.injEq] at d;exact⟨d.1.1.symm,d.1.2.1.symm,d.1.2.2.symm,d.2.symm⟩
 rw[d];refine Zr R D L G gr s g _ i p j v x (ai R) (chk xs) (bk R D L G) c (eJ 20000 p) rs t q w ?_ ?_ ?_ ?_ ?_ ?_ ?_ ?_
 ·intro h
  exact m _ (if_neg h) h
 ·intro h a
  exact m _ ((if_pos h).trans (if_neg a)) a
 ·intro h a f
  exact m 3 ((if_pos h).trans ((if_pos a).trans (if_pos f))) (by decide)
 ·intro e b
  refine(jC _ xs e (n.l b)).mono ?_;rintro z w' ⟨rfl,rfl⟩;exact⟨rfl,Below.refl _ _⟩
 ·intro e
  exact vE R D L G gr e
 ·intro e
  exact nK p 20000 e (by omega) (by omega)
 ·intro h a f e
  have:=wS (R:=R) (A8 f);exact CW R D L G gr s g _ i p e ⟨by omega,by omega⟩
 ·intro h a f e b
  have C:=wS (R:=R) (A8 f);obtain⟨o,B⟩:=aF h;have j:(Dg.dg 4294967296 (Dg.vl 4294967296 xs)).length≤1200:=by rw[←Dg.eq_dg 4294967296 (by omega) xs _ u o rfl];exact B
  rw[kA h a f] at d;rw[←d];exact kL _ _ e (jw (n.l b) u o) (by simp only;omega) ⟨by simp only;omega,by simp only;omega⟩ (A.l b) (by have:=gZ (Dg.vl 4294967296 xs) 1200 j;simp only;omega)
abbrev NP:=encNum_held_mg.1
abbrev NO:=encNum_held_mg.2
theorem Ip (n:Int)(R D L G f:Int)(gr:Bool)(sz e:Nat)(F:Nat)(c p:Int)(ng:Bool)(a:Option Addr)(d b:Nat)(w:World)
  (j:yJ 35 #[yi n] (.tuple #[ylV R D L G gr sz e f F,yi 0]))
  (x:Int) (m:yH w 36 #[.slice a d b] (yi x))
  (A:ByteArray) (s:Int) (o:yJ 38 #[ylV R D L G gr sz e f F,yvV c ng (.slice a d b) p] (.tuple #[.string A,yi s])) (N:1≤c) (O:c≤5) (t:c≠2) (J:x=0):
  yC 11 #[yi n,yvV c ng (.slice a d b) p] w (yR w (.tuple #[.string A,yi s])):=by
 subst J;have C:Hid _:=m;clear m;have P: ¬c<1:=by omega
 have Q: ¬5<c:=by omega
 have E:Hid _:=o;clear o;have S:(c==2)=false:=by simpa using t
 clear t;have T:=cD;have U:=gn;have u:=ah w (yvL c ng (.slice a d b) p) 39;have q:=af w (.cells (yvA c ng (.slice a d b) p) 39);have k:Hid _:=j;clear j
 go_enter func11,ntmps11
 go_wp2_with fail
 refine(k.out _).mono ?_;rintro z B ⟨rfl,g⟩;have i:=af B (.cells (ylA R D L G gr sz e f F) 93);have v:=(u.l g).l i;have y:=ah B (ylL R D L G gr sz e f F) 93;have r:=aa (aa q g) i;obtain⟨u0,u1,u2,u3⟩:=v.cs4;obtain⟨W,X,Y,Z,s4,s5,s6,s7,s8⟩:=y.cs9;clear u q g i k
 go_wp2_with fail
 refine(C.out _ r).mono ?_;rintro z w2 ⟨rfl,h⟩;have K:=v.l h;have M:=y.l h;have H:=aa r h;obtain⟨v0,v1,v2,v3⟩:=K.cs4;obtain⟨t0,t1,t2,t3,t4,t5,t6,t7,t8⟩:=M.cs9
 go_wp2_with fail
 refine(E.out _).mono ?_;rintro z w3 ⟨rfl,I⟩
 go_wp2
 go_ret2
 exact⟨rfl,aa H I⟩
theorem wI {c:Int}{t r:ak}(h:cC c t=(r,0)):r=bare t∧aS (Dg.dg 4294967296 r.n) r.e=0:=by
 unfold cC at h
 by_cases a:c=0
 ·rw[if_pos a] at h
  unfold bU at h
  by_cases d:1200< (Dg.dg 4294967296 (bare t).n).length
  ·rw[if_pos d] at h
   simp at h
  ·rw[if_neg d] at h
   by_cases b:(bare t).e< -20000∨20000< (bare t).e
   ·rw[if_pos b] at h
    simp at h
   ·rw[if_neg b] at h
    simp only[Prod.mk.injEq,and_true] at h;subst h;have f:=Dg.norm_dg 4294967296 (bare t).n (by omega);refine⟨rfl, ?_⟩;unfold aS;rw[if_pos (pJ f (by omega)),if_neg b]
 ·rw[if_neg a] at h
  simp only[Prod.mk.injEq] at h;exact absurd h.2 a
def enN (k:Nat)(ng:Bool)(xs:List Nat)(p:Int):ak×Int:=
 cC (ix xs p (rdN k) (dgN k) (lsI k) (gsI k)) ⟨ng,Dg.vl 4294967296 xs,(ai (rdN k):Int)*p⟩
def enE (k:Nat)(ng:Bool)(xs:List Nat)(p:Int):Int:=
 if p< -20000∨20000<p then 3 else if xs.length=0 then 4 else if(enN k ng xs p).2=0∧enH k (enN k ng xs p).1=true then 0 else 4
def enS (k:Nat)(ng:Bool)(xs:List Nat)(p:Int):ByteArray:=
 if enE k ng xs p=0 then cF (kU k (plT k (enN k ng xs p).1.s (enN k ng xs p).1.n (enN k ng xs p).1.e).s (heE (rdN k) (lsI k) (gW k) (plT k (enN k ng xs p).1.s (enN k ng xs p).1.n (enN k ng xs p).1.e)) (plT k (enN k ng xs p).1.s (enN k ng xs p).1.n (enN k ng xs p).1.e).d) else⟨#[]⟩
theorem B5 (k:Nat)(hk:1≤k∧k≤8)(ng:Bool)(ao:Option Addr)(ca:Nat)(xs:List Nat)(p:Int)(w:World)(hr:Rd w .u32 (.slice ao xs.length ca) xs)(sa:Dg.Small 4294967296 xs)(hc:chk xs=0)(hT:Tab w):
  yC 37 #[.agg (tS k).toArray,yvV 2 ng (.slice ao xs.length ca) p] w (yR w (.tuple #[.string (enS k ng xs p),yi (enE k ng xs p)])):=by
 have key: ∀er,enE k ng xs p=er→enS k ng xs p=if er=0 then cF (kU k (plT k (enN k ng xs p).1.s (enN k ng xs p).1.n (enN k ng xs p).1.e).s (heE (rdN k) (lsI k) (gW k) (plT k (enN k ng xs p).1.s (enN k ng xs p).1.n (enN k ng xs p).1.e)) (plT k (enN k ng xs p).1.s (enN k ng xs p).1.n (enN k ng xs p).1.e).d) else⟨#[]⟩:=fun er h=>by unfold enS;rw[h]
 by_cases hp:p< -20000∨20000<p
 ·have hE:enE k ng xs p=3:=if_pos hp
  rw[key 3 hE,hE,if_neg (by omega)]
  rcases hp with hp|hp
  ·rcases bO hk with rfl|rfl|rfl|rfl|rfl|rfl|rfl|rfl
   all_goals exact Q7 _ _ _ _ _ _ _ _ _ 2 p ng ao xs.length ca w hp
  ·rcases bO hk with rfl|rfl|rfl|rfl|rfl|rfl|rfl|rfl
   all_goals exact NN _ _ _ _ _ _ _ _ _ 2 p ng ao xs.length ca w hp
 ·have hp1: -20000≤p:=by omega
  have hp2:p≤20000:=by omega
  by_cases hl:xs.length=0
  ·have hE:enE k ng xs p=4:=by unfold enE;rw[if_neg hp,if_pos hl]
   rw[key 4 hE,hE,if_neg (by omega)]
   rcases bO hk with rfl|rfl|rfl|rfl|rfl|rfl|rfl|rfl
   all_goals exact KO _ _ _ _ _ _ _ _ _ 2 p ng ao xs.length ca w hp1 hp2 hl
  ·have hnx:Dg.vl 4294967296 xs≠0:=fun h=>by
    obtain⟨n1,-⟩:=aF hc;exact Dg.vl_ne_zero 4294967296 (by omega) xs (by intro e;subst e;simp at hl) n1 h
   have HN1:=fun w1 (b:yB w w1)=>kB (rdN k) (dgN k) (lsI k) (gsI k) (decide (k≤3)) ng ao ca xs p false false false w1 (hr.l b) sa (hT.l b)
   have hen:cC (ix xs p (rdN k) (dgN k) (lsI k) (gsI k)) ⟨ng,Dg.vl 4294967296 xs,(ai (rdN k):Int)*p⟩=enN k ng xs p:=rfl;rw[hen] at HN1;have hE:enE k ng xs p=if(enN k ng xs p).2=0∧enH k (enN k ng xs p).1=true then 0 else 4:=by unfold enE;rw[if_neg hp,if_neg hl]
   have hfact:(enN k ng xs p).2=0→(enN k ng xs p).1.n≠0∧aS (Dg.dg 4294967296 (enN k ng xs p).1.n) (enN k ng xs p).1.e=0:=fun h=>by
    have h2:=wI (show cC (ix xs p (rdN k) (dgN k) (lsI k) (gsI k)) ⟨ng,Dg.vl 4294967296 xs,(ai (rdN k):Int)*p⟩=((enN k ng xs p).1,0) from by rw[hen];exact Prod.ext rfl h)
    obtain⟨h3,h4⟩:=h2;refine⟨fun h5=> ?_,h4⟩
    rw[h3] at h5;exact hnx ((fI ⟨ng,Dg.vl 4294967296 xs,(ai (rdN k):Int)*p⟩).1 h5)
   clear hen;generalize enN k ng xs p=r at*;obtain⟨t,er⟩:=r;simp only at hE hfact key HN1⊢;have HN: ∀w1,yB w w1→yC 71 #[.agg (tS k).toArray,yvV 2 ng (.slice ao xs.length ca) p] w1 (gR w1 (t,er)):=fun w1 b=>by
    rcases bO hk with rfl|rfl|rfl|rfl|rfl|rfl|rfl|rfl
    all_goals exact Je _ _ _ _ _ _ _ _ _ 2 p ng ao xs.length ca (t,er) w1 (fun w2 b2=>HN1 w2 (aa b b2))
   by_cases her:er=0
   ·obtain⟨hn0,hdc⟩:=hfact her
    have sm:=Dg.small_dg 4294967296 t.n (by omega);have HH:=fun so sc w1 (b:yB w w1) (h:Rd w1 .u32 (yT so t.n sc) (Dg.dg 4294967296 t.n))=>qR (rdN k) (dgN k) (lsI k) (gsI k) (decide (k≤3)) t.s so sc (Dg.dg 4294967296 t.n) t.e w1 h sm (hT.l b)
    have hgr:bk (rdN k) (dgN k) (lsI k) (gsI k)=0:=by
     rcases bO hk with rfl|rfl|rfl|rfl|rfl|rfl|rfl|rfl<;>decide
    have hon:onC (aS (Dg.dg 4294967296 t.n) t.e) (bk (rdN k) (dgN k) (lsI k) (gsI k))=0:=by unfold onC;rw[if_pos hdc];exact hgr
    rw[hon] at HH
    by_cases hq:enH k t=true
    ·rw[if_pos ⟨her,hq⟩] at hE
     rw[key 0 hE,hE,if_pos rfl];have hq':um (Dg.dg 4294967296 t.n) t.e (rdN k) (dgN k) (lsI k) (gsI k) (decide (k≤3))=true:=hq;have hheld:dA (rdN k) (dgN k) (lsI k) (gsI k) (decide (k≤3)) (Dg.vl 4294967296 (Dg.dg 4294967296 t.n)) t.e=true:=by
      have h:=hq';unfold um at h;rw[if_pos hon] at h;exact h
     have HE:=fun so sc w1 (_b:yB w w1) (h:Rd w1 .u32 (yT so t.n sc) (Dg.dg 4294967296 t.n))=>xE k hk t.s so sc (Dg.dg 4294967296 t.n) t.e w1 h sm hdc (by rw[Dg.vl_dg 4294967296 t.n (by omega)];exact hn0) hheld
     rw[Dg.vl_dg 4294967296 t.n (by omega)] at HE;rw[hq'] at HH;generalize cF (kU k (plT k t.s t.n t.e).s (heE (rdN k) (lsI k) (gW k) (plT k t.s t.n t.e)) (plT k t.s t.n t.e).d)=st at*
     rcases bO hk with rfl|rfl|rfl|rfl|rfl|rfl|rfl|rfl
     all_goals exact NP _ _ _ _ _ _ _ _ _ 2 p ng ao xs.length ca w t er HN true 0 HH st 0 HE hp1 hp2 (by omega) her rfl rfl
    ·have hqf:um (Dg.dg 4294967296 t.n) t.e (rdN k) (dgN k) (lsI k) (gsI k) (decide (k≤3))=false:=by
      have:enH k t=false:=by simpa using hq
      exact this
     rw[if_neg (fun h=>hq h.2)] at hE
     rw[key 4 hE,hE,if_neg (by omega)];rw[hqf] at HH
     rcases bO hk with rfl|rfl|rfl|rfl|rfl|rfl|rfl|rfl
     all_goals exact NO _ _ _ _ _ _ _ _ _ 2 p ng ao xs.length ca w t er HN false 0 HH hp1 hp2 (by omega) her rfl rfl
   ·rw[if_neg (fun h=>her h.1)] at hE
    rw[key 4 hE,hE,if_neg (by omega)]
    rcases bO hk with rfl|rfl|rfl|rfl|rfl|rfl|rfl|rfl
    all_goals exact Q8 _ _ _ _ _ _ _ _ _ 2 p ng ao xs.length ca w t er HN hp1 hp2 (by omega) her
theorem Va {k:Nat}(c:1≤k∧k≤8){ng:Bool}{E F:Nat}(f:E<2^exN k)(hF:F<2^frN k)(g:F<2^64)(a:dh k ng E F=2)(j:rdN k=2):
  ge k ng E F=(ji k ng E F).n∧gw k ng E F=(ji k ng E F).e:=by
 rw[iq c f hF a];unfold ge gw;rw[if_pos a,if_pos a,j];have l:=jX a;have i:=vS c E g;generalize iI k E F=D at*;generalize ii k E=P at*;obtain⟨m,b⟩:=fO (n:=D) (by omega);have h:=lI b;have d:=FZ 2 (by omega) (tz D) 64 (2*m+1) P (by omega) (by rw[←b];exact i);rw[←b] at d;rw[d];unfold bare;rw[if_neg (by show¬D=0;omega)]
 refine⟨h.symm, ?_⟩
 show P+(tz D:Int)=wdI ((2:Nat):Int)*P+(tz D:Int)
 rw[show wdI ((2:Nat):Int)=1 from by decide,Int.one_mul]
theorem I5 {k:Nat}(g:1≤k∧k≤8){ng:Bool}{E F:Nat}(j:E<2^exN k)(hF:F<2^frN k)(l:F<2^64)(c:dh k ng E F=2)(r:rdN k=16):
  4*gw k ng E F≤(ji k ng E F).e∧(ji k ng E F).e<4*gw k ng E F+4∧ge k ng E F=shN (ji k ng E F).n ((ji k ng E F).e-4*gw k ng E F):=by
 rw[iq g j hF c];unfold ge gw;rw[if_pos c,if_pos c,r];have s:=jX c;have p:=vS g E l;generalize iI k E F=D at*;generalize ii k E=P at*;obtain⟨m,h⟩:=fO (n:=D) (by omega);have o:=lI h;obtain⟨a,b,d,t⟩: ∃a b,tz D=4*a+b∧b<4:=⟨tz D/4,tz D % 4,by omega,Nat.mod_lt _ (by omega)⟩;have f:D=16^a*(2^b*(2*m+1)):=by
  rw[h,d,Nat.pow_add,Nat.pow_mul,Nat.mul_assoc]
 have q:2^b*(2*m+1) % 16≠0:=by
  rcases(show b=0∨b=1∨b=2∨b=3 by omega) with rfl|rfl|rfl|rfl<;>omega
 have i:=FZ 16 (by omega) a 64 (2^b*(2*m+1)) P q (by rw[←f];exact p);rw[←f] at i;rw[i];unfold bare;rw[if_neg (by show¬D=0;omega),show wdI ((16:Nat):Int)=4 from by decide]
 simp only;rw[d];refine⟨by push_cast;omega,by push_cast;omega, ?_⟩;rw[show 4*P+((4*a+b:Nat):Int)-4*(P+(a:Int))=(b:Int) from by push_cast;omega]
 unfold shN;rw[if_neg (by omega),Int.toNat_natCast,←d,o,Nat.mul_comm]
def gI (n c:Int)(ng:Bool)(xs:List Nat)(p:Int):Int:=
 if dK n=0∨c<1∨5<c then 6 else if chk xs≠0 then chk xs else if c=2 then enE n.toNat ng xs p else qX n.toNat c.toNat xs.length ng p
theorem AE {t:ak}(a:t.n≠0):(Dg.dg 65536 (bare t).n).length≤(Dg.dg 65536 t.n).length∧t.e≤(bare t).e∧(bare t).e≤t.e+(bitLen t.n:Int):=by
 obtain⟨-,b,c⟩:=gN a;refine⟨IZ (kR t),by omega,by omega⟩
theorem AW {k:Nat}{ng:Bool}{xs:List Nat}{p:Int}(g:chk xs=0)(f:xs.length≠0)(l: ¬(p< -20000∨20000<p))(m:Dg.Small 4294967296 xs)(b:enE k ng xs p=0):
  (enN k ng xs p).1=bare ⟨ng,Dg.vl 4294967296 xs,(ai (rdN k):Int)*p⟩∧(Dg.dg 65536 (bare ⟨ng,Dg.vl 4294967296 xs,(ai (rdN k):Int)*p⟩).n).length≤20000∧ -79000≤(bare ⟨ng,Dg.vl 4294967296 xs,(ai (rdN k):Int)*p⟩).e∧(bare ⟨ng,Dg.vl 4294967296 xs,(ai (rdN k):Int)*p⟩).e≤200000:=by
 have i:(enN k ng xs p).2=0:=by
  refine Decidable.byContradiction fun c=> ?_
  unfold enE at b;rw[if_neg l,if_neg f,if_neg (fun h=>c h.1)] at b
  omega
 have a:=wI (show cC (ix xs p (rdN k) (dgN k) (lsI k) (gsI k)) ⟨ng,Dg.vl 4294967296 xs,(ai (rdN k):Int)*p⟩=((enN k ng xs p).1,0) from Prod.ext rfl i)
 have d:=a.2;rw[a.1] at d;obtain⟨-,o,q⟩:=bL d;have j:=AE (t:=⟨ng,Dg.vl 4294967296 xs,(ai (rdN k):Int)*p⟩) (JN g f);have r:=KN m (aF g).2;refine⟨a.1,Nat.le_trans j.1 ?_,by omega,by omega⟩
 show(Dg.dg 65536 (Dg.vl 4294967296 xs)).length≤20000
 omega
theorem Oe {k:Nat}{ng:Bool}{xs a:List Nat}{p q:Int}(s:Dg.Small 4294967296 xs)(t:Dg.Small 4294967296 a)(n:chk xs=0)(o:chk a=0)(h:enE k ng xs p=0)(d:enE k ng a q=0)
  (m:bare ⟨ng,Dg.vl 4294967296 a,(ai (rdN k):Int)*q⟩=bare ⟨ng,Dg.vl 4294967296 xs,(ai (rdN k):Int)*p⟩):enS k ng a q=enS k ng xs p:=by
 have f: ∀(zs:List Nat) (r:Int),enE k ng zs r=0→ ¬(r< -20000∨20000<r)∧zs.length≠0:=fun zs r b=>by
  have e: ¬(r< -20000∨20000<r):=fun c=>by
   unfold enE at b;rw[if_pos c] at b;omega
  refine⟨e,fun c=> ?_⟩
  unfold enE at b;rw[if_neg e,if_pos c] at b;omega
 obtain⟨g,i⟩:=f xs p h;obtain⟨j,l⟩:=f a q d;unfold enS;rw[if_pos h,if_pos d,(AW (k:=k) (ng:=ng) n i g s h).1,(AW (k:=k) (ng:=ng) o l j t d).1,m]
theorem J8 {k:Nat}(a:1≤k∧k≤8)(ng:Bool)(E:Nat){F:Nat}(hF:F<2^64):ge k ng E F<2^64:=by
 unfold ge
 split
 ·exact Nat.lt_of_le_of_lt (GI _ _ _ _) (vS a E hF)
 ·decide
theorem J9 {k:Nat}(a:1≤k∧k≤8){ng:Bool}{E F:Nat}(c:E<2^exN k)(hF:F<2^frN k)(d:dh k ng E F=2):
  -16445≤(ji k ng E F).e∧(ji k ng E F).e≤16464∧ -16460≤gw k ng E F∧gw k ng E F≤16464:=by
 have f:=mZ a hF;obtain⟨o,p,-,-⟩:=TS a c;have h:=iq a c hF d;rw[wQ a] at h;have j:=jX d;have i:=vS a E f;have g:=AE (t:=⟨ng,iI k E F,(ai (rdN k):Int)*ii k E⟩) (Nat.ne_of_gt j);have n:bitLen (iI k E F)≤64:=bF _ _ i;rw[←h] at g;simp only at g;obtain⟨-,l,m⟩:=g;refine⟨by omega,by omega, ?_⟩;have b:rdN k=2∨rdN k=16:=by
  rcases bO a with rfl|rfl|rfl|rfl|rfl|rfl|rfl|rfl<;>decide
 rcases b with b|b
 ·have:=(Va a c hF f d b).2
  omega
 ·have:=I5 a c hF f d b
  omega
def ovV (k:Nat)(wy:Int)(ng:Bool):Int×Bool×Nat×Int:=
 if dK k=3 then(5,false,0,0) else if dK k=1∧aaV wy ng=true then(3,ng,0,0) else(2,ng,rdN k^dgN k-1,gsI k)
def pG (k:Nat)(wy:Int)(P:fz):Int×Bool×Nat×Int×Int:=
 if P.ov=true then((ovV k wy P.s).1,(ovV k wy P.s).2.1,(ovV k wy P.s).2.2.1,(ovV k wy P.s).2.2.2,5)
 else if P.un=true∧P.p<lsI k then(1,false,0,0,3)
 else((if P.d=0 then 1 else 2),P.s,P.d,P.p,if P.ex=true then 0 else if P.un=true then 3 else 1)
theorem Fm {k:Nat}(i:1≤k∧k≤8){ng:Bool}{E F:Nat}(a:dh k ng E F≠2):ji k ng E F=⟨false,0,0⟩:=by
 by_cases b:dh k ng E F=1
 ·exact zd i b
 have m:2^exN k=kp k+1:=by
  rcases bO i with rfl|rfl|rfl|rfl|rfl|rfl|rfl|rfl<;>decide
 have j:k=3→2^ (dgN k-1)=2^63:=fun h=>by subst h;rfl
 unfold dh at a b;unfold ji
 by_cases f:k≤3
 ·rw[if_pos f] at a b
  by_cases d:E=0
  ·rw[if_pos d] at a b
   by_cases e:F=0
   ·rw[if_pos e] at b
    exact absurd rfl b
   ·rw[if_neg e] at a
    exact absurd rfl a
  ·rw[if_neg d] at a
   by_cases l:E=kp k
   ·by_cases c:k=3
    ·rw[if_pos c,if_pos (.inl (by omega))]
    ·rw[if_neg c,if_pos (by omega),if_pos (by omega)]
   ·rw[if_neg l] at a
    by_cases c:k=3∧F<2^63
    ·rw[if_pos c.1,if_pos (.inr ⟨by omega,by rw[j c.1];exact c.2⟩)]
    ·rw[if_neg c] at a
     exact absurd rfl a
 ·rw[if_neg f] at a b
  rw[if_neg (show¬k=3 by omega),if_neg (show¬k≤2 by omega)]
  by_cases g:k≤5
  ·rw[if_pos g] at a b
   by_cases e:F=0
   ·rw[if_pos e] at b
    exact absurd rfl b
   ·rw[if_neg e] at a
    exact absurd rfl a
  ·rw[if_neg g] at a⊢
   by_cases d:E=0
   ·rw[if_pos d]
   ·rw[if_neg d] at a
    exact absurd rfl a
theorem way_is {way:Int}:iC way=true↔1≤way∧way≤5:=by
 unfold iC;simp
theorem readPower_any (a:ByteArray)(w:World):yC 141 #[.string a] w (yR w (.tuple #[yi (rpV a).1,.bool (rpV a).2])):=by
 have g:=fun b=>prefix_any a ⟨#[45]⟩ b
 unfold rpV
 by_cases d:(undash a).size≤5
 rotate_left
 ·rw[if_neg (fun c=>d c.1)]
  exact tpower_long a (undash a) (dash a) w (by omega) g
 have f:=fun b=>tdecimals_any (undash a) b (by omega)
 cases hd:digB (undash a)
 ·rw[if_neg (fun c=>by cases c.2)]
  rw[hd] at f;exact tpower_no a (undash a) (dash a) w d g f
 ·rw[if_pos ⟨d,rfl⟩]
  rw[hd] at f;have h:=fun b=>atoi_any (undash a) _ b (by omega) (atoi_dig _ hd)
  have i:=Tb (undash a) ((digB_iff _).1 hd).2 _ (Nat.le_refl _);have j:10^ (undash a).size≤10^5:=Nat.pow_le_pow_right (by omega) d
  cases hg:dash a
  ·rw[if_neg (by decide)]
   have e:Lib.hasPrefix a.data.toList [45]=false:=hg;exact tpower_plus a (undash a) _ w d (fun b=>by
    have:=g b;rw[show(⟨#[45]⟩:ByteArray).data.toList=[45] from rfl,e] at this
    exact this) f h
  ·rw[if_pos rfl]
   have e:Lib.hasPrefix a.data.toList [45]=true:=hg;exact tpower_minus a (undash a) _ _ w d (IntWalk.i64_in _ ⟨by omega,by omega⟩) (fun b=>by
    have:=g b;rw[show(⟨#[45]⟩:ByteArray).data.toList=[45] from rfl,e] at this
    exact this) f h
def nmV (t:ByteArray):(Bool×ByteArray×Int)×Int:=
 if 400<t.size then(nmZ,2) else
 if(nmP t).2=false∨digB ((nmD t).1++(nmD t).2.1)=false∨((nmD t).2.2=true∧(nmD t).2.1.size=0) then(nmZ,1) else
 if nmQ t< -6000∨6000<nmQ t then(nmZ,3) else((dash t,(nmD t).1++(nmD t).2.1,nmQ t),0)
theorem rpV_in (a:ByteArray): -100000< (rpV a).1∧(rpV a).1<100000:=by
 unfold rpV
 split
 ·rename_i h
  have b:=Tb (undash a) ((digB_iff _).1 h.2).2 _ (Nat.le_refl _);have c:10^ (undash a).size≤10^5:=Nat.pow_le_pow_right (by omega) h.1
  show-100000< (if dash a=true then-((pv (undash a) (undash a).size:Nat):Int) else((pv (undash a) (undash a).size:Nat):Int))∧(if dash a=true then-((pv (undash a) (undash a).size:Nat):Int) else((pv (undash a) (undash a).size:Nat):Int))<_
  generalize pv (undash a) (undash a).size=P at b⊢
  split<;>omega
 ·exact⟨by decide,by decide⟩
def raE (t:ByteArray):Int:=(nmV t).2
def raV (t:ByteArray):Bool×Nat×Nat×Int:=nrV (nmV t).1
theorem nmV_zero {t:ByteArray}(h:(nmV t).2=0):(nmV t).1.2.1.size≤400∧digB (nmV t).1.2.1=true∧ -6000≤(nmV t).1.2.2∧(nmV t).1.2.2≤6000:=by
 unfold nmV at h⊢
 by_cases a:400<t.size
 ·rw[if_pos a] at h
  exact absurd h (by decide)
 rw[if_neg a] at h⊢
 split at h
 ·exact absurd h (by decide)
 rename_i h1
 rw[if_neg h1]
 split at h
 ·exact absurd h (by decide)
 rename_i h2
 rw[if_neg h2];have f:=undash_size t;have c:=cutS_size 101 (undash t);have e:=cutS_size 46 (nmC t).1;have d:(nmC t).1.size+(nmC t).2.1.size≤400:=by unfold nmC;omega
 have b:(nmD t).1.size+(nmD t).2.1.size≤400:=by unfold nmD;omega
 refine⟨?_, ?_, ?_, ?_⟩
 ·show((nmD t).1++(nmD t).2.1).size≤400
  rw[ByteArray.size_append];exact b
 ·show digB ((nmD t).1++(nmD t).2.1)=true
  cases hg:digB ((nmD t).1++(nmD t).2.1)
  ·exact absurd (.inr (.inl hg)) h1
  ·rfl
 ·show-6000≤nmQ t
  omega
 ·show nmQ t≤6000
  omega
theorem prR_nm {x:ak}(g:Bool){k:Nat}(h:x.n<2^64)(a: -16500≤x.e)(b:x.e≤16500)(c:x.n≠0)(d:1≤k)(q:k≤60):
  (dgS x k).size=k∧prR g (dcH x) (dcC x) (dcP x) k=nuS g (dgS x k) ⟨(Lib.itoa (prN (dcH x) (dcC x) (dcP x) k)).toArray⟩:=by
 obtain⟨j,l,m,o,p⟩:=dc_all h a b c;have i:=prQ_ge (k:=k) (dcH_low h a b c) d (by omega);have f:k≤(oW (prQ (dcH x) (dcC x) k)).size:=by
  have:=Nat.lt_of_le_of_lt i decS_big;have:=(Nat.pow_lt_pow_iff_right (by omega:1<10)).1 this;omega
 refine⟨tpT_size f, ?_⟩;unfold prR tpS nuS tpG nuG;rw[tpP_nuP f d];rfl
theorem nu_nm (l:List UInt8):nuL l=nmL l:=by
 have R:isDg 46=false:=by decide
 have H:isDg 101=false:=by decide
 have A: ∀(x t:List UInt8),(∀b∈x,isDg b=true)→noD t→t.head? ≠some 46→nuL (x++t)=nuE x 0 t:=fun x t n i h=>by
  unfold nuL;rw[spD_app x t n i,if_neg h]
 have B: ∀(x v t:List UInt8),(∀b∈x,isDg b=true)→(∀b∈v,isDg b=true)→noD t→v≠[]→nuL (x++46::(v++t))=nuE (x++v) (-(v.length:Int)) t:=fun x v t n F i h=>by
  rw[nuL_pt (spD_app x (46::(v++t)) n R) (spD_app v t F i),if_neg h]
 unfold nmL;simp only;obtain⟨c,P⟩: ∃c,cutc 101 l=c:=⟨_,rfl⟩;obtain⟨d,E⟩: ∃d,cutc 46 c.1=d:=⟨_,rfl⟩;have J:=cutc_true 101 l;have cf:=cutc_false 101 l;have K:=cutc_true 46 c.1;have df:=cutc_false 46 c.1;rw[P] at J cf⊢;rw[E] at K df⊢;obtain⟨I,Z,c3⟩:=c;obtain⟨f,a,u⟩:=d;simp only at J cf K df E⊢
 by_cases g:f++a=[]∨ ¬(∀b∈f++a,isDg b=true)∨(u=true∧a=[])
 ·rw[if_pos g]
  cases hn:nuL l with
  |none=>rfl
  |some z=>
   exfalso
   unfold nuL at hn;have e:=spD_eq l;have j:=spD_dig l;obtain⟨x,n⟩: ∃x,(spD l).1=x:=⟨_,rfl⟩;obtain⟨t,i⟩: ∃t,(spD l).2=t:=⟨_,rfl⟩;rw[n,i] at e hn;rw[n] at j;have S: ∀(y:List UInt8) (D:List UInt8) (p:Int) (r:List UInt8),D≠[]→nuE D p r=some z→101∉y→l=y++r→I=y:=fun y D p r O h X m=>by
    cases r with
    |nil=>
     rw[List.append_nil] at m;have:=cutc_none 101 y X;rw[←m,P] at this;rw[m] at this;exact congrArg Prod.fst this
    |cons b r=>
     have k:b=101:=Classical.byContradiction fun c=>by
      rw[nuE_bad (b::r) (by simp) (by simpa using c)] at h
      cases h
     subst k;have:=cutc_app 101 y r X;rw[←m,P] at this;exact congrArg Prod.fst this
   by_cases o:t.head? =some 46
   ·rw[if_pos o] at hn
    simp only at hn;have et:=head_cons o;have w:=spD_eq t.tail;have M:=spD_dig t.tail;obtain⟨v,F⟩: ∃x,(spD t.tail).1=x:=⟨_,rfl⟩;obtain⟨s,hs⟩: ∃x,(spD t.tail).2=x:=⟨_,rfl⟩;rw[F,hs] at w hn;rw[F] at M
    by_cases G:v=[]
    ·rw[if_pos G] at hn
     cases hn
    rw[if_neg G] at hn;have O:x++v≠[]:=fun c=>G (List.append_eq_nil_iff.1 c).2
    have m:l=(x++46::v)++s:=by rw[e,et,w];simp
    have N:101∉x++46::v:=by
     rw[List.mem_append,List.mem_cons];rintro(q|q|q)
     ·exact dig_ne H j q
     ·cases q
     ·exact dig_ne H M q
    have C:=S (x++46::v) (x++v) _ s O hn N m;have:=cutc_app 46 x v (dig_ne R j);rw[←C,E] at this;obtain⟨rfl,rfl,rfl⟩:=Prod.mk.injEq .. ▸(by simpa using this:f=x∧a=v∧u=true)
    rcases g with h|h|h
    ·exact O h
    ·refine h fun b k=> ?_
     rcases List.mem_append.1 k with q|q
     ·exact j b q
     ·exact M b q
    ·exact G h.2
   ·rw[if_neg o] at hn
    by_cases Q:x=[]
    ·rw[Q,nuE_none] at hn
     cases hn
    have N:=dig_ne H j;have C:=S x x _ t Q hn N e;have:=cutc_none 46 x (dig_ne R j);rw[←C,E] at this;obtain⟨rfl,rfl,rfl⟩:f=I∧a=[]∧u=false:=by simpa using this
    rw[List.append_nil,C] at g
    rcases g with h|h|h
    ·exact Q h
    ·exact h j
    ·cases h.1
 ·rw[if_neg g]
  have T:f++a≠[]:=fun c=>g (.inl c)
  have U: ∀b∈f++a,isDg b=true:=Classical.byContradiction fun c=>g (.inr (.inl c))
  have W: ∀b∈f,isDg b=true:=fun b k=>U b (List.mem_append.2 (.inl k))
  have a0: ∀b∈a,isDg b=true:=fun b k=>U b (List.mem_append.2 (.inr k))
  have Y: ∀t,noD t→t.head? ≠some 46→nuL (I++t)=nuE (f++a) (-(a.length:Int)) t:=fun t i o=>by
   cases u with
   |true=>
    have a1:a≠[]:=fun c=>g (.inr (.inr ⟨rfl,c⟩))
    have e:=K rfl;rw[e,List.append_assoc,List.cons_append];exact B f a t W a0 i a1
   |false=>
    obtain⟨L,w⟩:=df rfl;subst L w;rw[List.append_nil];exact A f t W i o
  cases c3 with
  |true=>
   rw[if_pos rfl,J rfl,Y (101::Z) H (by simp),nuE_e _ T]
   congr 1
   funext q
   rw[Int.add_comm,←Int.sub_eq_add_neg]
  |false=>
   rw[if_neg (by decide)];obtain⟨L,-⟩:=cf rfl;have:=Y [] trivial (by simp);rw[List.append_nil,nuE_nil T] at this;rw[←L];exact this
theorem raV_in {t:ByteArray}(h:raE t=0):(Dg.dg 4294967296 (raV t).2.1).length≤1200∧(Dg.dg 4294967296 (raV t).2.2.1).length≤1200∧(raV t).2.2.1≠0∧ -20000≤(raV t).2.2.2∧(raV t).2.2.2≤20000∧(Dg.dg 65536 (raV t).2.1).length≤20000∧(Dg.dg 65536 (raV t).2.2.1).length≤20000:=by
 obtain⟨s,i,u,j⟩:=nmV_zero h;have l:=((digB_iff _).1 i).2;obtain⟨a,v⟩: ∃a,a=1600:=⟨_,rfl⟩;have f:pv (nmV t).1.2.1 (nmV t).1.2.1.size<2^a:=Nat.lt_of_lt_of_le (Tb _ l _ (Nat.le_refl _)) (Nat.le_trans (pow10_two _) (Nat.pow_le_pow_right (by omega) (by omega)));unfold raV nrV
 split
 ·refine⟨by decide,by decide,by decide,by decide,by decide,by decide,by decide⟩
 ·rename_i h0
  obtain⟨r,d⟩:=nrM_in (p:=(nmV t).1.2.2) h0 f j;have g:=Nat.div_le_self (nrM (pv (nmV t).1.2.1 (nmV t).1.2.1.size) (nmV t).1.2.2).1 (2^tz (nrM (pv (nmV t).1.2.1 (nmV t).1.2.1.size) (nmV t).1.2.2).1);obtain⟨c,w⟩: ∃c,c=18000:=⟨_,rfl⟩;have b:(nrM (pv (nmV t).1.2.1 (nmV t).1.2.1.size) (nmV t).1.2.2).2≤2^c∧(nrM (pv (nmV t).1.2.1 (nmV t).1.2.1.size) (nmV t).1.2.2).2≠0:=by
   unfold nrM
   split
   ·exact⟨Nat.pow_pos (by omega),Nat.one_ne_zero⟩
   ·refine⟨Nat.le_trans (pow5_two _) (Nat.pow_le_pow_right (by omega) ?_),Nat.ne_of_gt (Nat.pow_pos (by omega))⟩
    have:=(redF_le (-(nmV t).1.2.2).toNat (pv (nmV t).1.2.1 (nmV t).1.2.1.size)).2;omega
  have n:(nmV t).1.2.2+(tz (nrM (pv (nmV t).1.2.1 (nmV t).1.2.1.size) (nmV t).1.2.2).1:Int)≤20000:=by
   by_cases m:0< (nmV t).1.2.2
   ·have e:(nrM (pv (nmV t).1.2.1 (nmV t).1.2.1.size) (nmV t).1.2.2).1=pv (nmV t).1.2.1 (nmV t).1.2.1.size*5^ (nmV t).1.2.2.toNat:=by
     unfold nrM;rw[if_pos m]
    rw[e,tz_five h0];have:=tz_bits h0 f;omega
   ·have:=tz_bits r d
    omega
  have o:(Dg.dg 4294967296 ((nrM (pv (nmV t).1.2.1 (nmV t).1.2.1.size) (nmV t).1.2.2).1/2^tz (nrM (pv (nmV t).1.2.1 (nmV t).1.2.1.size) (nmV t).1.2.2).1)).length≤1200:=jq (Nat.lt_of_le_of_lt g d) (by omega);have q:(Dg.dg 4294967296 (nrM (pv (nmV t).1.2.1 (nmV t).1.2.1.size) (nmV t).1.2.2).2).length≤1200:=jq (k:=c+1) (Nat.lt_of_le_of_lt b.1 (Nat.pow_lt_pow_right (by omega) (by omega))) (by omega);exact⟨o,q,b.2,by show _≤(nmV t).1.2.2+_;omega,n,UI (k:=a+18000) (Nat.le_of_lt (Nat.lt_of_le_of_lt g d)) (by omega),UI (k:=c) b.1 (by omega)⟩
end Go.Proofs.YtlhkndcmbpcpgaaGreatDoor
