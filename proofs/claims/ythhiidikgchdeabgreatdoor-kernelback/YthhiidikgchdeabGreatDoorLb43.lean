/- Texts laid together. -/
import Derived.Test.YthhiidikgchdeabGreatDoorLb37
import Derived.Test.YthhiidikgchdeabGreatDoorLb38
import Derived.Test.YthhiidikgchdeabGreatDoorLb40
set_option maxRecDepth 100000
set_option maxHeartbeats 3200000
namespace Go.Proofs.YthhiidikgchdeabGreatDoor
open _root_.Go.Proofs.Tryz
open Go.RowKit
theorem zy {K:Nat}{a b:ak}(i: -(K:Int)≤a.e)(j: -(K:Int)≤b.e): -(K:Int)≤(cO a b).e:=by
 obtain⟨e,f⟩: ∃e,(if b.n=0 then a.e else if a.n=0 then b.e else min a.e b.e)=e:=⟨_,rfl⟩
 have g: -(K:Int)≤e:=by rw[←f];split<;>(try split)<;>omega
 have h:(cO a b).e=e:=by
  unfold cO;simp only[f]
  by_cases c:a.s=b.s
  ·rw[if_pos c]
  ·rw[if_neg c]
   by_cases d:b.n*2^ (max 0 (b.e-e)).toNat≤a.n*2^ (max 0 (a.e-e)).toNat
   ·rw[if_pos d]
   ·rw[if_neg d]
 rw[h];exact g
theorem uw {w:World}{a:Option Addr}{len cap:Nat}{zs:List Int}
  (h:(a=none∧len=0∧cap=0∧zs=[])∨ ∃x,a=some x∧len≤cap∧cap≤maxLen∧zs.length=cap∧(∀i,i<zs.length→w.cell? (x.add i)=some (.int .u32 (zs.getD i 0)))∧ ∀n∈zs,(Lit.int .u32 n).wf=true):
  ∃xs,Rd w .u32 (.slice a len cap) xs∧Dg.Small 4294967296 xs:=by
 rcases h with⟨rfl,rfl,rfl,rfl⟩| ⟨x,rfl,l,m,t,f,q⟩
 ·exact⟨[],⟨none,0,rfl,by simp,by unfold maxLen;omega,fun h=>by simp at h⟩,Dg.small_nil _ (by omega)⟩
 ·obtain⟨b,r,s⟩:=x
  have e: ∀i,i<zs.length→0≤zs.getD i 0∧zs.getD i 0<4294967296:=fun i c=>by
   have:=bounds_u32 (q (zs.getD i 0) (by simp[List.getD_eq_getElem?_getD,c]));omega
  have d:((zs.take len).map Int.toNat).length=len:=by simp;omega
  have g: ∀i,i<len→(((zs.take len).map Int.toNat).getD i 0:Nat)=(zs.getD i 0).toNat:=fun i c=>by
   have k:i<zs.length:=by omega
   simp[List.getD_eq_getElem?_getD,c,k]
  refine⟨(zs.take len).map Int.toNat,⟨_,cap,by rw[d],by rw[d];exact l,m,fun o=> ?_⟩,fun i=> ?_⟩
  ·rw[d] at o
   have j:=f 0 (by omega);have p:s=none:=by simpa[Addr.add] using World.cell?_spot j
   subst p;refine⟨b,r,rfl,fun i c=> ?_⟩
   rw[d] at c;have:=f i (by omega);rw[rO] at this;rw[this,g i c];have:=(e i (by omega)).1
   congr 2
   omega
  ·by_cases c:i<len
   ·rw[g i c];have:=e i (by omega);omega
   ·rw[Dg.getD_of_le _ _ (by rw[d];omega)];omega
theorem CB (a b:ak):dJ (aG a (dV b))=sgn (V (a.e.natAbs+b.e.natAbs) a-V (a.e.natAbs+b.e.natAbs) b):=by
 have f: -((a.e.natAbs+b.e.natAbs:Nat):Int)≤a.e:=by omega
 have g: -((a.e.natAbs+b.e.natAbs:Nat):Int)≤(dV b).e:=by show _≤b.e;omega
 have c:=dH f g;rw[pC] at c;have d:=Di (a.e.natAbs+b.e.natAbs) (aG a (dV b));rw[c] at d;unfold dJ;rw[←d]
 congr 1
theorem EI (K:Nat)(t:ak):V K (dB t)= -V K t:=by
 rw[←pC,eV,eV];unfold dB dV;simp only
 by_cases h:0<t.n
 ·simp[h]
 ·have a:t.n=0:=by omega
  rw[a,Nat.zero_mul];simp[sz]
theorem exp_up {u:ak×ak}{B f N:Nat}{x:Rat}{l:Nat→Rat}{C:Rat}(a:84≤B)(b:B≤1000)(e:(ivS u).inn (1/2))(g:(ivS u).lo≤(ivS u).hi)(i:(ivS u).wd≤p2 (17-(B:Int)))(hf:B+2≤f)
  (h:CxN.Has (fun n=>⟨l n,0⟩) ⟨2,0⟩) (c: ∀n,CxN.nm ⟨l n,0⟩≤C) (j:EvN fun n=>(ivS u).has (x-(N:Rat)*l n)):
  SIn (ivS (upS (pwsT u B nxE f 1 (wTr 1,wTr 1) (wTr 1,wTr 1)) N)) (er x):=by
 refine⟨_,CxN.exp_take h c N x, ?_⟩;obtain⟨M,d⟩:=j;obtain⟨k,-,-,-,-⟩:=exp_sum a b e g i hf;refine⟨M+(B+3),fun n m=> ?_⟩
 rw[up_ivS,rp_p2];exact IvN.scl_has (k _ (d n (by omega)) n (by omega)) (by have:=p2_pos N;grind)
theorem expS_any {x:ak}{B:Nat}{one:ak×ak}{l:Nat→Rat}{C:Rat}(a:84≤B)(b:B≤1000)(o:x.s=false)(j:x.n≠0)
  (k:0≤x.e+(bitLen x.n:Int)→1/2≤qT one.1∧qT one.1≤qT one.2∧qT one.2≤7/10∧qT one.2-qT one.1≤p2 (15-(B:Int)-(x.e+(bitLen x.n:Int)))∧EvN fun n=>(ivS one).has (l n))
  (i:CxN.Has (fun n=>⟨l n,0⟩) ⟨2,0⟩) (h: ∀n,CxN.nm ⟨l n,0⟩≤C):
  SIn (ivS (expS x B one)) (er (qT x))∧0< (ivS (expS x B one)).lo∧(ivS (expS x B one)).lo≤(ivS (expS x B one)).hi∧(ivS (expS x B one)).wd≤p2 (31-(B:Int))*(ivS (expS x B one)).lo:=by
 obtain⟨c,d,f,t⟩:=restE_any a b o j k;obtain⟨-,E,u,v,F⟩:=exp_sum a b c d f (Nat.le_refl (B+2));refine⟨exp_up a b c d f (Nat.le_refl _) i h t, ?_⟩;unfold expS;rw[up_ivS];generalize ivS (pwsT (restE x B one).2 B nxE (B+2) 1 (wTr 1,wTr 1) (wTr 1,wTr 1))=P at*;have m:=p2_pos ((restE x B one).1:Int);generalize p2 ((restE x B one).1:Int)=z at*;have g:p2 (31-(B:Int))=4*p2 (29-(B:Int)):=by
  rw[show 31-(B:Int)=2+(29-(B:Int)) by omega,p2_add]
  have:p2 2=4:=by decide+kernel
  rw[this]
 have w:=p2_pos (29-(B:Int));rw[g];generalize p2 (29-(B:Int))=y at*;have p:=Rat.mul_pos m (show 0<P.lo by grind)
 have q:=Rat.mul_le_mul_of_nonneg_left u (show 0≤z by grind)
 have A:=Rat.mul_le_mul_of_nonneg_left v (show 0≤4*y by grind)
 have r:P.wd≤4*y*P.lo:=by grind
 have D:=Rat.mul_le_mul_of_nonneg_left r (show 0≤z by grind)
 refine⟨p,q, ?_⟩;have:(IvN.scl z P).wd=z*P.wd:=by unfold IvN.wd IvN.scl;simp only;grind
 rw[this]
 show z*P.wd≤4*y*(z*P.lo)
 grind
theorem expN_any {x:ak}{B:Nat}{one:ak×ak}{l:Nat→Rat}{C:Rat}(D:84≤B)(E:B≤1000)(L:x.s=false)(I:x.n≠0)
  (p:0≤x.e+(bitLen x.n:Int)→1/2≤qT one.1∧qT one.1≤qT one.2∧qT one.2≤7/10∧qT one.2-qT one.1≤p2 (15-(B:Int)-(x.e+(bitLen x.n:Int)))∧EvN fun n=>(ivS one).has (l n))
  (H:CxN.Has (fun n=>⟨l n,0⟩) ⟨2,0⟩) (F: ∀n,CxN.nm ⟨l n,0⟩≤C):
  let R:=ivS (overS4 (wTr 1,wTr 1) (expS x B one) B)
  SIn R (er (-qT x))∧0<R.lo∧R.lo≤R.hi∧R.wd≤p2 (32-(B:Int))*R.lo:=by
 intro R;obtain⟨k,c,f,m⟩:=expS_any D E L I p H F;obtain⟨P,g⟩: ∃P,expS x B one=P:=⟨_,rfl⟩;have o:R=ivS (overS4 (wTr 1,wTr 1) P B):=by show ivS (overS4 (wTr 1,wTr 1) (expS x B one) B)=_;rw[g]
 rw[g] at k c f m;rw[o];clear o g R p;have q1:0<qT P.1:=c;have q2:qT P.1≤qT P.2:=f;have N:0<qT P.2:=by grind
 have i:qT (wTr 1)=1:=by rw[qT_w];rfl
 obtain⟨X1,h⟩: ∃X,X*qT P.2=1:=⟨1/qT P.2,Rat.div_mul_cancel (by grind)⟩;obtain⟨X2,b⟩: ∃X,X*qT P.1=1:=⟨1/qT P.1,Rat.div_mul_cancel (by grind)⟩;obtain⟨j,q,u⟩:=over_ivS (s:=(wTr 1,wTr 1)) (t:=P) (B:=B) (X1:=X1) (X2:=X2) (by omega) (by show 0<qT (wTr 1);rw[i];grind) Rat.le_refl q1 q2 (by show _=qT (wTr 1);rw[i];exact h) (by show _=qT (wTr 1);rw[i];exact b)
 have G:=SIn.inv k c f (CxN.exp_opp (qT x)) h b;refine⟨G.cut j, ?_⟩;have y:p2 (31-(B:Int))=536870912*p2 (2-(B:Int)):=by
  rw[show 31-(B:Int)=29+(2-(B:Int)) by omega,p2_add]
  have:p2 29=536870912:=by decide+kernel
  rw[this]
 have z:p2 (32-(B:Int))=2*p2 (31-(B:Int)):=by
  rw[show 32-(B:Int)=1+(31-(B:Int)) by omega,p2_add,p2_one]
 have J:p2 (31-(B:Int))≤1/16:=by
  have:=p2_mono (show 31-(B:Int)≤ -4 by omega)
  have e:p2 (-4)=1/16:=by
   have:=p2_neg 4;have w:p2 4=16:=by decide+kernel
   rw[w] at this
   grind
  rwa [e] at this
 have M:=p2_pos (2-(B:Int));have K:(⟨X1,X2⟩:IvN).wd≤p2 (31-(B:Int))*X1:=by
  show X2-X1≤_
  have A:qT P.2-qT P.1≤p2 (31-(B:Int))*qT P.1:=m;have v:X2-X1=(qT P.2-qT P.1)*(X1*X2):=by
   have a:(qT P.2-qT P.1)*(X1*X2)=X1*qT P.2*X2-X2*qT P.1*X1:=by grind
   rw[a,h,b]
   grind
  rw[v];have:=Rat.mul_le_mul_of_nonneg_right A (Rat.mul_nonneg (show 0≤X1 by grind) (show 0≤X2 by grind))
  have a:p2 (31-(B:Int))*qT P.1*(X1*X2)=p2 (31-(B:Int))*X1*(X2*qT P.1):=by grind
  rw[a,b] at this
  grind
 have:=narrow_cut2 (S:=⟨X1,X2⟩) (d:=p2 (2-(B:Int))) (r:=p2 (31-(B:Int))) q u (by grind) J (by rw[y];grind) K j;rw[z];exact this
theorem athS_any {z:ak×ak}{B:Nat}{X:Rat}(y:84≤B)(A:B≤1000)(i:ab X≤1/4)(c:IvN.Cut (p2 (2-(B:Int))) ⟨X,X⟩ (ivS z)):
  (∀m,B+3≤m→(ivS (athS z B)).has (2*aw X m))∧(ivS (athS z B)).wd≤p2 (32-(B:Int))*ab X∧(ivS (athS z B)).lo≤(ivS (athS z B)).hi:=by
 have T:=p2_pos (2-(B:Int));have E:p2 (2-(B:Int))≤1/4:=by
  have:=p2_mono (show 2-(B:Int)≤ -2 by omega)
  have e:p2 (-2)=1/4:=by
   have:=p2_neg 2;have v:p2 2=4:=by decide+kernel
   rw[v] at this
   grind
  rwa [e] at this
 have u:p2 (17-(B:Int))=32768*p2 (2-(B:Int)):=by
  rw[show 17-(B:Int)=15+(2-(B:Int)) by omega,p2_add]
  have:p2 15=32768:=by decide+kernel
  rw[this]
 have w:p2 (29-(B:Int))=134217728*p2 (2-(B:Int)):=by
  rw[show 29-(B:Int)=27+(2-(B:Int)) by omega,p2_add]
  have:p2 27=134217728:=by decide+kernel
  rw[this]
 have x:p2 (32-(B:Int))=1073741824*p2 (2-(B:Int)):=by
  rw[show 32-(B:Int)=30+(2-(B:Int)) by omega,p2_add]
  have:p2 30=1073741824:=by decide+kernel
  rw[this]
 have j:=ab_nonneg X;have h:hf 2=1/4:=by simp only[hf];grind
 have d:hf 4=1/16:=by simp only[hf];grind
 have C:=ab_le.1 i;have D:=ab_le.1 (Rat.le_refl (a:=ab X));have q:(ivS z).inn (1/4):=by
  have:=c.pow 2 (by rw[h];exact⟨by show-_≤X;grind,C.1⟩)
  rwa [h] at this
 have zX:(ivS z).has X:=c.has ⟨Rat.le_refl,Rat.le_refl⟩;obtain⟨O,g⟩:=c.wd (m:=ab X) (by grind) ⟨by show-_≤X;grind,D.1⟩ Rat.le_refl
 have Q:(⟨X,X⟩:IvN).wd=0:=by unfold IvN.wd;simp only;grind
 rw[Q] at O;have N:(ivS z).inn (2*ab X):=by
  have s:=c.lo';have t:=c.hi';have R:X-(ivS z).lo≤p2 (2-(B:Int))*ab X:=s;have S:(ivS z).hi-X≤p2 (2-(B:Int))*ab X:=t;have:=Rat.mul_le_mul_of_nonneg_right E j
  constructor<;>grind
 obtain⟨t1,K,o⟩:=IvN.times_wd q q g g;have cu:=cut_ivS (timesS z z) B (by omega) (by rw[times_iv];exact o);rw[times_iv] at cu;have n:(IvN.times (ivS z) (ivS z)).inn (hf 4):=by
  rw[d];have:(1/4:Rat)*(1/4)=1/16:=by grind
  rwa [this] at K
 have p:=cu.pow 4 n;rw[d] at p;obtain⟨uw,M⟩:=cu.wd (by grind) n o;rw[d] at uw;have L:(ivS (cutSp (timesS z z) B)).inn (1/2):=by
  obtain⟨a,b⟩:=p
  constructor<;>grind
 have U:=Rat.mul_le_mul_of_nonneg_left i (show 0≤p2 (2-(B:Int)) by grind)
 obtain⟨I,l,J,Z,s5⟩:=sum_gen (f:=B+2) y A (fun k=>(cA_in k).1) (fun k=>(cA_in k).2) L M (by rw[u];grind) (Nat.le_refl _)
 have G:(ivS (cutSp (timesS z z) B)).has (X*X):=cu.has (IvN.times_has zX zX);unfold athS;rw[up_ivS,times_iv,p2_one];generalize ivS (pwsT (cutSp (timesS z z) B) B nxA (B+2) 1 (wTr 1,wTr 1) (wTr 1,wTr 1))=P at*;have r:P.inn 3:=by
  constructor<;>grind
 obtain⟨W,Y,H⟩:=IvN.times_wd N r g J;refine⟨fun m F=> ?_, ?_, ?_⟩
 ·rw[aw_tm]
  exact IvN.scl_has (IvN.times_has zX (I _ G m F)) (by grind)
 ·have:(IvN.scl 2 (IvN.times (ivS z) P)).wd=2*(IvN.times (ivS z) P).wd:=by unfold IvN.wd IvN.scl;simp only;grind
  rw[this,x];rw[w] at l;have:=Rat.mul_le_mul_of_nonneg_left l (show 0≤2*ab X by grind)
  have:=Rat.mul_nonneg (show 0≤p2 (2-(B:Int)) by grind) j
  grind
 ·show 2*_≤2*_
  exact Rat.mul_le_mul_of_nonneg_left H (by grind)
theorem logS_any {z one:ak×ak}{B:Nat}{X:Rat}{p:Int}(H:84≤B)(I:B≤1000)(i:ab X≤1/5)(N:p=0→X≠0)(y:IvN.Cut (p2 (2-(B:Int))) ⟨X,X⟩ (ivS z))
  (O:p≠0→69/100≤qT one.1∧qT one.1≤qT one.2∧qT one.2≤7/10∧qT one.2-qT one.1≤p2 (15-(B:Int))∧EvN fun n=>(ivS one).has (CxN.la n)):
  (EvN fun n=>(ivS (logS z one B p)).has (lgV p X n))∧(∃v,(ivS (logS z one B p)).has v∧v≠0∧(ivS (logS z one B p)).wd≤p2 (32-(B:Int))*ab v)∧(ivS (logS z one B p)).lo≤(ivS (logS z one B p)).hi:=by
 obtain⟨f,w,x⟩:=athS_any H I (by grind) y;have W:=p2_pos (32-(B:Int))
 by_cases d:p=0
 ·subst d
  have e:logS z one B 0=athS z B:=by unfold logS;rw[if_pos rfl]
  rw[e];have F: ∀n,lgV 0 X n=2*aw X n:=fun n=>by unfold lgV;have:((0:Int):Rat)=0:=rfl;grind
  obtain⟨G,-⟩:=aw_far i (B+3) (by omega);have Z:0<ab X:=by have:=N rfl;unfold ab;grind
  refine⟨⟨B+3,fun n a=>by show(ivS (athS z B)).has (lgV 0 X n);rw[F];exact f n a⟩,⟨_,f (B+3) (Nat.le_refl _), ?_, ?_⟩,x⟩
  ·intro c
   have:ab (aw X (B+3))=0:=by
    have h:aw X (B+3)=0:=by grind
    rw[h];unfold ab;grind
   grind
  ·have:ab (2*aw X (B+3))=2*ab (aw X (B+3)):=ab_two _
   rw[this];have:=Rat.mul_le_mul_of_nonneg_left G (show 0≤p2 (32-(B:Int)) by grind)
   grind
 ·obtain⟨o1,r,o3,R,M,s⟩:=O d
  have P:(1:Rat)≤(p.natAbs:Rat):=nat_le (show 1≤p.natAbs by omega)
  have Q:ivS (wTr p.natAbs,wTr p.natAbs)=⟨(p.natAbs:Rat),(p.natAbs:Rat)⟩:=by
   unfold ivS ivT;simp only;rw[qT_w]
  have b:ivS (timesS one (wTr p.natAbs,wTr p.natAbs))=⟨(p.natAbs:Rat)*qT one.1,(p.natAbs:Rat)*qT one.2⟩:=by
   rw[times_iv,Q,times_whole (show(ivS one).lo≤(ivS one).hi from r) (by grind)]
   rfl
  obtain⟨T,J,K,L,Y⟩: ∃T:ak×ak,logS z one B p=plusS (athS z B) T∧(∀n,M≤n→(ivS T).has ((p:Rat)*CxN.la n))∧(ivS T).wd=(p.natAbs:Rat)*(qT one.2-qT one.1)∧(ivS T).lo≤(ivS T).hi:=by
   have q:=Rat.mul_le_mul_of_nonneg_left r (show 0≤(p.natAbs:Rat) by grind)
   have m: ∀n,M≤n→(ivS (timesS one (wTr p.natAbs,wTr p.natAbs))).has ((p.natAbs:Rat)*CxN.la n):=fun n a=>by
    obtain⟨j,u⟩:=s n a;rw[b];exact⟨Rat.mul_le_mul_of_nonneg_left j (by grind),Rat.mul_le_mul_of_nonneg_left u (by grind)⟩
   by_cases o:p<0
   ·refine⟨negS (timesS one (wTr p.natAbs,wTr p.natAbs)),by unfold logS;rw[if_neg d,if_pos o],fun n a=> ?_, ?_, ?_⟩
    ·rw[neg_ivS]
     have:=IvN.neg_has (m n a);have e:(p:Rat)= -(p.natAbs:Rat):=by
      rw[show p= -((p.natAbs:Nat):Int) by omega,Rat.intCast_neg,Rat.intCast_natCast,show(-((p.natAbs:Nat):Int)).natAbs=p.natAbs by omega]
     rw[e];have g: -(p.natAbs:Rat)*CxN.la n= -((p.natAbs:Rat)*CxN.la n):=by grind
     rw[g];exact this
    ·rw[neg_ivS,b];unfold IvN.wd IvN.neg;simp only;grind
    ·rw[neg_ivS,b];unfold IvN.neg;simp only;grind
   ·refine⟨timesS one (wTr p.natAbs,wTr p.natAbs),by unfold logS;rw[if_neg d,if_neg o],fun n a=> ?_, ?_, ?_⟩
    ·have e:(p:Rat)=(p.natAbs:Rat):=by
      rw[show p=((p.natAbs:Nat):Int) by omega,Rat.intCast_natCast,show(((p.natAbs:Nat):Int)).natAbs=p.natAbs by omega]
     rw[e];exact m n a
    ·rw[b];unfold IvN.wd;simp only;grind
    ·rw[b];exact q
  rw[J,plus_ivS];have k: ∀n,B+3+M≤n→(IvN.plus (ivS (athS z B)) (ivS T)).has (lgV p X n):=fun n a=>IvN.plus_has (f n (by omega)) (K n (by omega))
  refine⟨⟨B+3+M,k⟩,⟨_,k _ (Nat.le_refl _), ?_⟩, ?_⟩
  rotate_left
  ·unfold IvN.plus
   grind
  obtain⟨-,S⟩:=aw_far i (B+3+M) (by omega);obtain⟨j,u⟩:=s (B+3+M) (by omega);have a0:qT one.1≤CxN.la (B+3+M):=j;have l:27/100*(p.natAbs:Rat)≤ab (lgV p X (B+3+M)):=by
   have t:=ab_add (lgV p X (B+3+M)) (-(2*aw X (B+3+M)));rw[ab_neg] at t;have A:lgV p X (B+3+M)+ -(2*aw X (B+3+M))=(p:Rat)*CxN.la (B+3+M):=by unfold lgV;grind
   rw[A,ab_mul] at t;have g:ab (p:Rat)=(p.natAbs:Rat):=by
    by_cases c:p<0
    ·have:(p:Rat)= -(p.natAbs:Rat):=by
      rw[show p= -((p.natAbs:Nat):Int) by omega,Rat.intCast_neg,Rat.intCast_natCast,show(-((p.natAbs:Nat):Int)).natAbs=p.natAbs by omega]
     rw[this];unfold ab;grind
    ·have:(p:Rat)=(p.natAbs:Rat):=by
      rw[show p=((p.natAbs:Nat):Int) by omega,Rat.intCast_natCast,show(((p.natAbs:Nat):Int)).natAbs=p.natAbs by omega]
     rw[this];unfold ab;grind
   have D:ab (CxN.la (B+3+M))=CxN.la (B+3+M):=by unfold ab;grind
   have E:ab (2*aw X (B+3+M))=2*ab (aw X (B+3+M)):=ab_two _;rw[g,D,E] at t;have:=Rat.mul_le_mul_of_nonneg_left (show 69/100≤CxN.la (B+3+M) by grind) (show 0≤(p.natAbs:Rat) by grind)
   grind
  refine⟨fun c=> ?_, ?_⟩
  ·rw[c] at l
   have:ab 0=0:=by unfold ab;grind
   grind
  ·have ew:(IvN.plus (ivS (athS z B)) (ivS T)).wd=(ivS (athS z B)).wd+(ivS T).wd:=by unfold IvN.wd IvN.plus;simp only;grind
   rw[ew,L];have C:p2 (32-(B:Int))=131072*p2 (15-(B:Int)):=by
    rw[show 32-(B:Int)=17+(15-(B:Int)) by omega,p2_add]
    have:p2 17=131072:=by decide+kernel
    rw[this]
   have U:=p2_pos (15-(B:Int));rw[C] at w⊢;have q:=Rat.mul_le_mul_of_nonneg_left R (show 0≤(p.natAbs:Rat) by grind)
   have m2:=Rat.mul_le_mul_of_nonneg_left i (show 0≤131072*p2 (15-(B:Int)) by grind)
   have m3:=Rat.mul_le_mul_of_nonneg_left l (show 0≤131072*p2 (15-(B:Int)) by grind)
   have m4:=Rat.mul_le_mul_of_nonneg_left P (show 0≤p2 (15-(B:Int)) by grind)
   grind
theorem expV_fit {x:ak}{B:Nat}(f:x.n≠0)(d:RgT 40000 14 x)(e:84≤B)(a:B≤1000):RgS 500000010 500000010 (expV x B):=by
 have g:=expS_rg (x:=sizeT x) rfl f d e a;unfold expV;generalize expS (sizeT x) B (lnSpan (sizeT x) B)=P at*;obtain⟨p,q⟩:=P
 split
 ·have c: ∀j,RgT 500000000 500000000 (fourO (wTr 1) (wTr 1) p q B j):=fun j=>by
   match j with
   |0=>exact over_rg g.1 (by omega) a
   |1=>exact over_rg g.2 (by omega) a
   |2=>exact over_rg g.1 (by omega) a
   |_+3=>exact over_rg g.2 (by omega) a
  have go:RgS 500000000 500000000 (loT (fourO (wTr 1) (wTr 1) p q B) 3,hiT (fourO (wTr 1) (wTr 1) p q B) 3):=⟨RgT.lo fun j _=>c j,RgT.hi fun j _=>c j⟩
  exact(go.cut (b:=B) (by omega)).mono (by omega) (by omega)
 ·exact g.mono (by omega) (by omega)
theorem qT_bare (t:ak):qT (bare t)=qT t:=by
 have h:=dw (K:=t.e.natAbs) (a:=t) (by omega);have c:=qT_V (K:=t.e.natAbs) (t:=t) (by omega);have b:=qT_V (K:=t.e.natAbs) (t:=bare t) (eL (by omega));rw[h,c] at b;exact qT_inj b.symm
theorem expV_any {x:ak}{B:Nat}(i:x.n≠0)(m:RgT 40000 14 x)(a:84≤B)(b:B≤1000):
  SIn (ivS (expV x B)) (er (qT x))∧0< (ivS (expV x B)).lo∧(ivS (expV x B)).lo≤(ivS (expV x B)).hi∧(ivS (expV x B)).wd≤p2 (32-(B:Int))*(ivS (expV x B)).lo:=by
 have f:RgT 40000 14 (sizeT x):=m;have h: ∀n,CxN.nm ⟨CxN.la n,0⟩≤28+14:=fun n=>by have:=CxN.la_bd n;rwa [CxN.lnA_real] at this
 have j:=qT_sq x;have k:qT (sizeT x)=(x.n:Rat)*p2 x.e:=by
  rw[qT_sq];simp only[sizeT,sqT,Bool.false_eq_true,if_false]
  grind
 unfold expV
 cases hs:x.s
 ·rw[if_neg (by decide)]
  obtain⟨d,o,p,q⟩:=expS_any (x:=sizeT x) (one:=lnSpan (sizeT x) B) (l:=CxN.la) a b rfl i (expU a b f) CxN.has_la h;have c:qT (sizeT x)=qT x:=by
   rw[k,j,hs];simp only[sqT,Bool.false_eq_true,if_false]
   grind
  rw[c] at d;refine⟨d,o,p,Rat.le_trans q (Rat.mul_le_mul_of_nonneg_right (p2_mono (by omega)) (by grind))⟩
 ·rw[if_pos rfl]
  have g:=expN_any (x:=sizeT x) (one:=lnSpan (sizeT x) B) (l:=CxN.la) a b rfl i (expU a b f) CxN.has_la h;have c: -qT (sizeT x)=qT x:=by
   rw[k,j,hs];simp only[sqT,if_true]
   grind
  rw[c] at g;exact g
theorem angle_zero (x:ak)(s:Bool)(p:Option Addr)(y v:Nat)(e b f:Int)(w:World)(hf:f=0)
  (i: ∀a,yB w a→yC 41 #[ydV s (.slice p y v) e,yi b] a (NRd a x 0))
  (h: ∀g d a,yB w a→Rd a .u32 (yT g x.n d) (Dg.dg 4294967296 x.n)→yC 20 #[yDV x g d] a (yR a (yi f))):
  yC 19 #[ydV s (.slice p y v) e,yi b] w (NRd w x 0):=by
 replace i:Hid _:=i;replace h:Hid _:=h;obtain⟨X,m,q1,q2,t⟩:=iG w (ydL s (.slice p y v) e) 25 (ydL false yN 0) 48;replace m:Hid _:=m
 go_enter func19,ntmps19
 go_upto_region 1 with fail
 rw[m.out];clear m;obtain⟨N,O,Q⟩:=q1.cs3
 go_wp2_with fail
 refine(i.out _ t).mono ?_;rintro U H ⟨a3,rfl,B,u⟩;have z:=q2.l u;have q:=aa t u;obtain⟨g,d,S⟩:=B.shape;subst S;clear q1 q2 t u i N O Q;obtain⟨W,k,A,j⟩:=cA H (yDL x g d) 48;replace k:Hid _:=k;have a1:w.heap.size≤H.heap.size:=q.size;have a2:=z.lt;have F:=z.l j;have C:=B.l j;have r:=aa q j;clear z B q j
 go_upto_region 2 with fail
 rw[k.out];clear k;obtain⟨K,L,M⟩:=A.cs3
 go_wp2_with fail
 refine(h.out _ _ _ r C).mono ?_;rintro U a4 ⟨rfl,c⟩;have o:=F.l c;have G:=A.l c;have D:=C.l c;have E:=aa r c;clear F A C r c h K L M;obtain⟨Y,Z,a0⟩:=G.cs3;have hf:=afy (P:=Tryz.prog) o E (by omega) underlying48 rfl (by kernel_rfl) (.bool x.s) (yT g x.n d) (yi x.e);have I:Hid (_∧_∧_):=⟨hf.1,hf.2.2.rd D (aX D o (by simp)),hf.2.1⟩;obtain⟨⟨z0,z1,z2⟩,y0,y1,y2⟩:=afA o;clear hf o G D E
 go_wp2
 obtain⟨R,T,J⟩:=I.out;exact bodyPost_ret (aj results19 rfl rfl R) rfl ⟨_,rfl,T,J⟩
theorem kernelBegun_W (a b p q:ak)(w:World)
  (r: ∀d,yB w d→yC 14 #[ydV false yN 0,yi 30] d (BRd d a b 0))
  (o: ∀d,yB w d→yC 8 #[ydV false yN 0,yi 30] d (BRd d p q 0))
  (t: ∀m x v d,yB w d→Rd d .u32 (yT x a.n v) (Dg.dg 4294967296 a.n)→au d m 36 [.int .u32 1]→yC 18 #[yDV a x v,ydV false (.slice (some ⟨m,0,none⟩) 1 1) 0] d (yR d (.bool true)))
  (u: ∀m G F d,yB w d→Rd d .u32 (yT G q.n F) (Dg.dg 4294967296 q.n)→au d m 36 [.int .u32 1]→yC 18 #[yDV q G F,ydV false (.slice (some ⟨m,0,none⟩) 1 1) 0] d (yR d (.bool true))):
  yC 5 #[] w (yR w (.bool true)):=by
 replace r:Hid _:=r;replace o:Hid _:=o;replace t:Hid _:=t;replace u:Hid _:=u
 go_enter func5,ntmps5
 have I:=Below.refl w.heap.size w
 go_wp2_with fail
 refine(r.out _ I).mono ?_;rintro Z d ⟨bt,bv,rfl,X,ad,a1⟩;have O:=aa I a1;obtain⟨x,v,g⟩:=X.shape;subst g;obtain⟨bo,bc,g⟩:=ad.shape;subst g;clear I a1 r;obtain⟨bi,B,a3,H⟩:=cA d [.bool a.s,yT x a.n v,yi a.e,.bool b.s,yT bo b.n bc,yi b.e] 29;replace B:Hid _:=B;have bl:w.heap.size≤d.heap.size:=O.size;have a7:=X.l H;have J:=aa O H;clear X ad O H
 go_upto_region 2 with fail
 rw[B.out];clear B
 go_wp2_with fail
 refine(o.out _ J).mono ?_;rintro Z ax ⟨bs,bu,rfl,a8,Y,y⟩;have P:=a3.l y;have a9:=a7.l y;have K:=aa J y;obtain⟨po,pc,g⟩:=a8.shape;subst g;obtain⟨G,F,g⟩:=Y.shape;subst g;clear a3 a7 J y o;obtain⟨j,z,Q,k⟩:=cA ax [.bool p.s,yT po p.n pc,yi p.e,.bool q.s,yT G q.n F,yi q.e] 29;replace z:Hid _:=z;have bm:w.heap.size≤ax.heap.size:=K.size;have bn:=P.lt;have R:=P.l k;have ae:=a9.l k;have al:=Y.l k;have a0:=aa K k;clear P a9 a8 Y K k
 go_upto_region 3 with fail
 rw[z.out];clear z;have bp:=R.lt;have bq:=Q.lt;have h:=af j (.cells #[.int .u32 1] 36);have S:=ah j [.int .u32 1] 36;have T:=R.l h;have U:=Q.l h;have an:=ae.l h;have ap:=al.l h;have L:=aa a0 h;obtain⟨bj,A,C,f⟩:=cA (j.alloc (.cells #[.int .u32 1] 36)) (ydL false (.slice (some ⟨j.heap.size,0,none⟩) 1 1) 0) 25;replace A:Hid _:=A;have be:w.heap.size≤(j.alloc (.cells #[.int .u32 1] 36)).heap.size:=L.size;have bf:=T.lt;have bg:=U.lt;have bh:=S.lt;simp only[World.size_alloc] at C be bf bg bh;have D:=T.l f;have a4:=U.l f;have W:=S.l f;have aq:=an.l f;have ar:=ap.l f;have M:=aa L f;clear T U S an ap L f R Q ae al a0 h
 go_upto_region 4 with fail
 rw[A.out];clear A;have az:=D.c 0 rfl;have b1:=D.c 1 rfl;have b2:=D.c 2 rfl;obtain⟨b3,b4,b5⟩:=C.cs3
 go_wp2_with fail
 refine(t.out _ _ _ _ M aq W).mono ?_;rintro Z bw ⟨rfl,i⟩;have E:=a4.l i;have a5:=W.l i;have a6:=C.l i;have av:=ar.l i;have N:=aa M i;clear D a4 W C aq ar M i t az b1 b2 b3 b4 b5;have b6:=E.c 3 rfl;have b8:=E.c 4 rfl;have b9:=E.c 5 rfl;obtain⟨ba,bb,bd⟩:=a6.cs3
 go_wp2_with fail
 refine(u.out _ _ _ _ N av a5).mono ?_;rintro Z bx ⟨rfl,a2⟩;have ay:=aa N a2;clear E a5 a6 av N a2 u b6 b8 b9 ba bb bd
 go_wp2
 go_ret
 exact⟨by simp,ay⟩
theorem choose200_any (c:Int)(w:World)(i: -9223372036854775808≤c)(j:c≤9223372036854775807):
  ∃m:Nat,m<200∧yH w 6 #[yi c,yi 200] (yi (m:Int)):=by
 by_cases h:c<0
 ·have b:(c+1).tmod 200= -((-(c+1)) % 200):=by
   have:=Int.neg_tmod (-(c+1)) 200;rw[Int.neg_neg] at this;rw[this,Int.tmod_eq_emod_of_nonneg (by omega)]
  have d:=Int.emod_nonneg (-(c+1)) (show(200:Int)≠0 by omega)
  have e:=Int.emod_lt_of_pos (-(c+1)) (show(0:Int)<200 by omega)
  obtain⟨m,a⟩: ∃m:Nat,(-(c+1)) % 200=(m:Int):=⟨((-(c+1)) % 200).toNat,by omega⟩;refine⟨m,by omega,fun g _=> ?_⟩
  have f:(c+1).tmod 200= -(m:Int):=by rw[b,a]
  clear b a d e
  go_enter func6,ntmps6
  go_wp2
  go_ret
  exact⟨by simp,Below.refl _ _⟩
 ·have b:c.tmod 200=c % 200:=Int.tmod_eq_emod_of_nonneg (by omega)
  have d:=Int.emod_nonneg c (show(200:Int)≠0 by omega)
  have e:=Int.emod_lt_of_pos c (show(0:Int)<200 by omega)
  obtain⟨m,a⟩: ∃m:Nat,c % 200=(m:Int):=⟨(c % 200).toNat,by omega⟩;refine⟨m,by omega,fun g _=> ?_⟩
  have f:c.tmod 200=(m:Int):=by rw[b,a]
  clear b a d e
  go_enter func6,ntmps6
  go_wp2
  go_ret
  exact⟨by simp,Below.refl _ _⟩
theorem er_mul2 {A B:Nat→Rat}{K:Rat}(c: ∀n,ab (A n)≤K)(k: ∀n,ab (B n)≤K):NrN (fun n=>er (A n) n*er (B n) n) (fun n=>er (A n+B n) n):=fun e l=>by
 have o:0≤K:=Rat.le_trans (ab_nonneg _) (c 0);obtain⟨N,H⟩:=er_lim (B:=K+K) (by grind) l;refine⟨N+1,fun n r=> ?_⟩
 have h:=H n (2*n) (by omega) (by omega);have p:=ez_prod ⟨A n,0⟩ ⟨B n,0⟩ n;have j:CxN.add ⟨A n,0⟩ ⟨B n,0⟩=⟨A n+B n,0⟩:=by apply CxN.ext'<;>simp only[CxN.add]<;>grind
 have m:ab 0=0:=by unfold ab;grind
 have f: ∀x:Rat,CxN.nm ⟨x,0⟩=ab x:=fun x=>by unfold CxN.nm;simp only;grind
 rw[j,ez_real,ez_real,ez_real,f,f] at p;have q:CxN.nm (CxN.add (CxN.mul ⟨er (A n) n,0⟩ ⟨er (B n) n,0⟩) (CxN.sc (-1) ⟨er (A n+B n) n,0⟩))=ab (er (A n) n*er (B n) n-er (A n+B n) n):=by
  unfold CxN.nm CxN.add CxN.mul CxN.sc;simp only;have g:er (A n) n*er (B n) n-0*0+ -1*er (A n+B n) n=er (A n) n*er (B n) n-er (A n+B n) n:=by grind
  have i:er (A n) n*0+0*er (B n) n+ -1*0=0:=by grind
  rw[g,i,m]
  grind
 rw[q] at p;have d:=er_diff (a:=ab (A n)+ab (B n)) (b:=K+K) (by have:=ab_nonneg (A n);have:=ab_nonneg (B n);grind) (by have:=c n;have:=k n;grind) (show n≤2*n by omega)
 exact Rat.le_trans p (Rat.le_trans d h)
theorem lgSp_any {x:ak}{B:Nat}{one:ak×ak}(r:84≤B)(t:B≤1000)(E:x.s=false)(C:x.n≠0)(u:qT x≠1)
  (D:69/100≤qT one.1∧qT one.1≤qT one.2∧qT one.2≤7/10∧qT one.2-qT one.1≤p2 (15-(B:Int))∧EvN fun n=>(ivS one).has (CxN.la n)):
  ∃L:Nat→Rat,(NrN (fun n=>er (L n) n) (fun _=>qT x))∧(∃K,∀n,ab (L n)≤K)∧(EvN fun n=>(ivS (lgSp x B one)).has (L n))∧
   (∃v,(ivS (lgSp x B one)).has v∧v≠0∧(ivS (lgSp x B one)).wd≤p2 (32-(B:Int))*ab v)∧(ivS (lgSp x B one)).lo≤(ivS (lgSp x B one)).hi:=by
 obtain⟨G,H,i⟩:=lg_y E C;have h:qT (wTr 1)=1:=by rw[qT_w];rfl
 have F:qT (aG (lgY x) (dV (wTr 1)))=qT (lgY x)-1:=by rw[qT_plus,qT_neg,h];grind
 have g:qT (aG (lgY x) (wTr 1))=qT (lgY x)+1:=by rw[qT_plus,h]
 obtain⟨X,d⟩: ∃X,X*(qT (lgY x)+1)=qT (lgY x)-1:=⟨(qT (lgY x)-1)/(qT (lgY x)+1),Rat.div_mul_cancel (by grind)⟩;have y:(aG (lgY x) (wTr 1)).n≠0:=fun c=>by
  have:=qT_zero c;rw[g] at this
  grind
 have k:=over_point (a:=aG (lgY x) (dV (wTr 1))) (b:=aG (lgY x) (wTr 1)) (B:=B) (X:=X) (by omega) y (by rw[F,g];exact d);have f:ab X≤1/5:=by
  rw[ab_le]
  constructor
  ·refine cancel_le (show 0<qT (lgY x)+1 by grind) ?_
   rw[d]
   grind
  ·refine cancel_le (show 0<qT (lgY x)+1 by grind) ?_
   have: -X*(qT (lgY x)+1)= -(X*(qT (lgY x)+1)):=by grind
   rw[this,d]
   grind
 have A:qT (lgY x)*(1-X)=1+X:=by
  have:qT (lgY x)*(1-X)=qT (lgY x)-(X*(qT (lgY x)+1))+X:=by grind
  rw[this,d]
  grind
 have w:lgP x=0→X≠0:=fun j c=>by
  rw[j,p2_zero] at i;rw[c] at d;exact u (by grind)
 obtain⟨m,o,q⟩:=logS_any (z:=lgZ x B) (one:=one) (p:=lgP x) r t f w k (fun _=>D)
 obtain⟨e,l⟩:=lg_er (p:=lgP x) f A;rw[←i] at e;exact⟨lgV (lgP x) X,e,l,m,o,q⟩
def logOut (s:Bool)(xs:List Nat)(e b:Int):ak×ak×Int:=
 if numR s xs e b≠0 then(zTr,zTr,numR s xs e b)
 else if dJ (bare ⟨s,Dg.vl 4294967296 xs,e⟩)≤0 then(zTr,zTr,5)
 else if bJ (bare ⟨s,Dg.vl 4294967296 xs,e⟩) (wTr 1)=0 then(zTr,zTr,0)
 else iD (bU (cutSp (lgSp (bare ⟨s,Dg.vl 4294967296 xs,e⟩) (b.toNat+64) (lnLo (b.toNat+64),lnHi (b.toNat+64))) (b.toNat+32)).1) (bU (cutSp (lgSp (bare ⟨s,Dg.vl 4294967296 xs,e⟩) (b.toNat+64) (lnLo (b.toNat+64),lnHi (b.toNat+64))) (b.toNat+32)).2)
end Go.Proofs.YthhiidikgchdeabGreatDoor
