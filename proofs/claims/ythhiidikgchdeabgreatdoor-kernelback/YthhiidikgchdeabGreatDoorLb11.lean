/- Texts laid together. -/
import Derived.Test.YthhiidikgchdeabGreatDoorLb02
import Derived.Test.YthhiidikgchdeabGreatDoorLb06
import Derived.Test.YthhiidikgchdeabGreatDoorLb07
set_option maxRecDepth 100000
set_option maxHeartbeats 800000
namespace Go.Proofs.YthhiidikgchdeabGreatDoor
open _root_.Go.Proofs.Tryz
open Go.RowKit
theorem pr {w:World}{base e:Nat}{k:IntKind}{g:Nat}{zs:List Nat}(h:w.heap[g]? =some (.cells (zs.map (fun n:Nat=>Value.int k (n:Int))).toArray e (0,0)))(a:base≤g)(b:zs.length≤maxLen):
  Own w base e k (.slice (some ⟨g,0,none⟩) zs.length zs.length) zs:=by
 refine⟨by simp,.inr ⟨g,_,_,rfl,a,h,Nat.le_refl _,b,by simp, ?_⟩⟩;simp only[Nat.mul_one];exact List.take_of_length_le (by simp)
theorem Nv (w:World)(g:Nat)(c a:Array Value)(t:TypeId)(b:w.heap[g]? =some (.cells c t (0,0))):(w.setRow g a).heap[g]? =some (.cells a t (0,0)):=by
 simp[World.setRow,Array.getElem?_modify,b]
theorem Nw {P:Program}{w:World}{base e:Nat}{k:IntKind}{g n m cap:Nat}{r:Option Addr}{c zs:List Nat}(i o p:Nat)(h:P.underlying i=some (.slice e))(x:(P.info? e).map (·.size)=some 1)
  (f:Own w base e k (.slice (some ⟨g,0,none⟩) n n) c) (v:Rd w k (.slice r m cap) zs) (t:zs.length≤c.length):
  ∃q,(Builtin.copy_ #[i,o] p #[.slice (some ⟨g,0,none⟩) n n,.slice r m cap]).run P w= .ok (yi m) q∧Own q base e k (.slice (some ⟨g,0,none⟩) n n) (zs++c.drop zs.length)∧w.grownBy q (some g):=by
 have F:=f.len;have E:=wn v;subst F E;have l:=f.heap;have A:=f.block;have N:c.length≤maxLen:=by
  rcases f.2 with⟨y,_⟩| ⟨J,cap',I,y,K,l,O,L,M,Q⟩
  ·simp at y
  ·omega
 by_cases z:zs.length=0
 ·obtain rfl:zs=[]:=List.eq_nil_of_length_eq_zero z
  refine⟨w,run_copy_none (P:=P) w i o p e _ _ _ _ _ _ h x (by simp),by simpa using f,⟨rfl,rfl,rfl,Nat.le_refl _,fun _ _ _=>rfl⟩⟩
 ·obtain⟨-,-,B⟩:=iQ v
  obtain⟨b,H,rfl,C⟩:=B (by omega);have G:=run_copy_row (P:=P) w i o p e g 0 c.length c.length ⟨b,H,none⟩ zs.length cap _ e (zs.map (fun n:Nat=>Value.int k n)) h x l (by rw[List.length_map];exact(Nat.min_eq_left t).symm)
   (by
    intro j u d;have s:j<zs.length:=by have:=(List.getElem?_eq_some_iff.1 d).1;simpa using this
    rw[j9 k zs j s] at d;rw[rO,C j s];exact d)
   (by simpa using t) (by intro u h;simp at h;obtain⟨a,_,rfl⟩:=h;rfl)
  refine⟨w.setRow g (zs.map (fun n:Nat=>Value.int k n)++(c.map (fun n:Nat=>Value.int k n)).drop zs.length).toArray,by rw[G];simp[goInt], ?_,⟨rfl,rfl,rfl,by simp[World.setRow],fun j _ d=>setRow_other w g j _ (fun e=>d (by rw[e]))⟩⟩
  have D:(zs++c.drop zs.length).length=c.length:=by simp;omega
  have:=pr (w:=w.setRow g (zs.map (fun n:Nat=>Value.int k n)++(c.map (fun n:Nat=>Value.int k n)).drop zs.length).toArray) (base:=base) (e:=e) (k:=k) (g:=g) (zs:=zs++c.drop zs.length)
   (by rw[Nv w g _ _ e l];simp[List.map_drop]) A.1 (by omega)
  rw[D] at this
  simpa using this
theorem Bz (v:Value)(zs:List Nat)(w:World)(h:Rd w .u32 v zs)(x:zs.length≤1000000000):
  yC 131 #[v] w fun e w'=>e= .returned (.slice (some ⟨w.heap.size,0,none⟩) zs.length zs.length)∧Own w' w.heap.size 36 .u32 (.slice (some ⟨w.heap.size,0,none⟩) zs.length zs.length) zs∧yB w w':=by
 obtain⟨q,c,o,g,p⟩:=info_parts Tryz.infoU32;have f:(Tryz.prog.info? 36).map (·.size)=some 1:=by rw[c];simp[g]
 obtain⟨t,u,rfl⟩:=h.shape
 go_enter func131,ntmps131
 go_wp2_with (at_make;refine wpList_make_full _ rfl _ _ 89 rfl w.heap.size 36 q (.int .u32 0) 1 underlying89 c o g _ _ _ _ zs.length rfl rfl (by omega) (by omega) ?b2 ?b3 (Nat.le_refl _) ?_)
 case b2=>rw[p];omega
 case b3=>unfold maxLen;omega
 intro s d b;have r:=gL d;have a:yB w s:=(Below.refl _ _).grown b (Nat.le_refl _) (fun k h=>by cases h)
 obtain⟨z,y,i,m⟩:=Nw 89 89 3 underlying89 f r (h.l a) (by simp);have j:=a.grown m a.size (fun k n=>by cases n;exact Nat.le_refl _)
 clear d b f
 go_wp2
 go_ret
 refine⟨rfl, ?_,j⟩;have e:zs++(List.replicate zs.length 0).drop zs.length=zs:=by simp
 rw[e] at i;exact i
theorem Ew {w w':World}(g:Option Nat)(h:yB w w'):w.grownBy w' g:=⟨h.os,h.tape,h.output,h.size,fun k a _=>h.block k a⟩
theorem eF {w c d:World}{g:Option Nat}(h:w.grownBy c g)(k:c.grownBy d g):w.grownBy d g:=
 ⟨k.os.trans h.os,k.tape.trans h.tape,k.output.trans h.output,Nat.le_trans h.size k.size,fun i a b=>(k.block i (Nat.lt_of_lt_of_le a h.size) b).trans (h.block i a b)⟩
theorem Tx {zs a:List Nat}{d k r t:Nat}(h:acQ zs a d (k+1) r)(l:k<zs.length)(p:t=r*4294967296+zs.getD k 0)(i:0<d)(m:t/d<4294967296):
  acQ zs (a.set k (t/d)) d k (t % d):=by
 obtain⟨b,c,n,f,g⟩:=h;refine⟨by simpa using b,Dg.small_set c _ _ m,Nat.mod_lt _ i,fun j o=> ?_, ?_⟩
 ·rw[Dg.getD_set _ _ _ _ (by omega),if_neg (by omega)];exact f j (by omega)
 ·rw[AU zs k l,AU (a.set k (t/d)) k (by simpa using(by omega:k<a.length)),Dg.getD_set _ _ _ _ (by omega),if_pos rfl,List.drop_set_of_lt (by omega)]
  simp only[Dg.vl];rw[g];have:=Nat.div_add_mod t d;rw[Nat.add_mul,Nat.mul_comm (t/d) d,Nat.mul_assoc,Nat.mul_add];have e:r*4294967296=4294967296*r:=Nat.mul_comm _ _;omega
theorem cE {w:World}{k:IntKind}{e:Nat}(zs:List Nat)(a:Array Value)(b:a=(zs.map (fun n:Nat=>Value.int k (n:Int))).toArray)(d:zs.length≤maxLen):
  Rd (w.alloc (.cells a e)) k (.slice (some ⟨w.heap.size,0,none⟩) zs.length zs.length) zs:=by
 refine⟨_,zs.length,rfl,Nat.le_refl _,d,fun _=>⟨w.heap.size,0,rfl,fun i c=> ?_⟩⟩
 rw[World.cell?_alloc_at _ _ _ _ rfl,b,Nat.zero_add];simp only[List.getElem?_toArray];exact j9 k zs i c
theorem iV (B:Nat)(l:List Nat)(k:Nat):Dg.vl B (l.take (k+1))=Dg.vl B (l.take k)+B^k*l.getD k 0:=by
 by_cases h:k<l.length
 ·exact Dg.vl_take_succ _ _ _ h
 ·rw[List.take_of_length_le (by omega),List.take_of_length_le (by omega),Dg.getD_of_le _ _ (by omega)];omega
theorem IL (B:Nat)(b:Nat)(f:B=2^b)(k:1<B)(zs:List Nat)(j:Dg.Small B zs)(g:Dg.Norm zs)(e:zs≠[]):bitLen (Dg.vl B zs)=b*(zs.length-1)+bitLen (zs.getD (zs.length-1) 0):=by
 have l:0<zs.length:=List.length_pos_iff.2 e;have a:=Dg.vl_split B zs (zs.length-1) (by omega);rw[show zs.length-1+1=zs.length from by omega,List.drop_of_length_le (Nat.le_refl _)] at a
 simp only[Dg.vl,Nat.mul_zero,Nat.add_zero] at a;have d:=Dg.vl_lt B (zs.take (zs.length-1)) (Dg.small_take j _ (by omega));rw[List.length_take,Nat.min_eq_left (by omega)] at d;have i:B^ (zs.length-1)=2^ (b*(zs.length-1)):=by rw[f,Nat.pow_mul]
 have c:Dg.vl B zs/2^ (b*(zs.length-1))=zs.getD (zs.length-1) 0:=by
  rw[←i,a,Nat.add_comm,Nat.mul_add_div (Nat.pow_pos (by omega)),Nat.div_eq_of_lt d,Nat.add_zero]
 have h:=g e;rw[bitLen_shift _ (b*(zs.length-1)) (by rw[c];exact h),c]
theorem aN (w:World)(k:IntKind):Rd w k yN []:=(aQ w 0 0 k).rd
theorem au.cs2 {w:World}{b:Nat}{e:TypeId}{a d:Value}{l:List Value}(h:au w b e (a::d::l)):w.cell? ⟨b,0,none⟩=some a∧w.cell? ⟨b,1,none⟩=some d:=⟨h.c 0 rfl,h.c 1 rfl⟩
theorem au.cs6 {w:World}{b:Nat}{j:TypeId}{a d e f g i:Value}{l:List Value}(h:au w b j (a::d::e::f::g::i::l)):w.cell? ⟨b,0,none⟩=some a∧w.cell? ⟨b,1,none⟩=some d∧w.cell? ⟨b,2,none⟩=some e∧w.cell? ⟨b,3,none⟩=some f∧w.cell? ⟨b,4,none⟩=some g∧w.cell? ⟨b,5,none⟩=some i:=⟨h.c 0 rfl,h.c 1 rfl,h.c 2 rfl,h.c 3 rfl,h.c 4 rfl,h.c 5 rfl⟩
theorem aX {w:World}{k:IntKind}{v:Value}{zs:List Nat}(h:Rd w k v zs){b:Nat}{q:TypeId}{i:List Value}(m:au w b q i)(p: ∀x∈i,∀n:Int,x≠ .int k n):wF b v zs:=fun f a n c o=>by
 obtain⟨r,cap,rfl,_,_,j⟩:=h;obtain⟨g,s,rfl,l⟩:=j f
 cases o
 have d:=l 0 f
 show g≠b
 intro e;subst e;unfold World.cell? at d;simp only at d;rw[m] at d;simp only[Option.isSome_none,Bool.false_eq_true,if_false,List.getElem?_toArray] at d;exact p _ (List.mem_of_getElem? d) _ rfl
def mL (w:World)(b:Nat)(v0 v1 v2 v3 v4 v5:Value):Prop:=
 b<w.heap.size∧(w.cell? ⟨b,0,none⟩=some v0∧w.cell? ⟨b,1,none⟩=some v1∧w.cell? ⟨b,2,none⟩=some v2∧w.cell? ⟨b,3,none⟩=some v3∧w.cell? ⟨b,4,none⟩=some v4∧w.cell? ⟨b,5,none⟩=some v5)∧
  (w.frozen? ⟨b,0,none⟩=false∧w.frozen? ⟨b,1,none⟩=false∧w.frozen? ⟨b,2,none⟩=false∧w.frozen? ⟨b,3,none⟩=false∧w.frozen? ⟨b,4,none⟩=false∧w.frozen? ⟨b,5,none⟩=false)
def ZB6 (w:World)(b:Nat):Prop:=b<w.heap.size∧ ∃ty,w.heap[b]? =some (.cells #[.bool false,yN,yi 0,.bool false,yN,yi 0] ty (0,0))
def Lx (w:World)(t:ak)(e:Ending)(w':World):Prop:= ∃s,e= .returned (ydV t.s s t.e)∧Rd w' .u32 s (Dg.dg 4294967296 t.n)∧yB w w'
def aeT (w:World)(l h:ak)(z:Ending)(w':World):Prop:=
 ∃p q,z= .returned (.agg #[.bool l.s,p,yi l.e,.bool h.s,q,yi h.e])∧Rd w' .u32 p (Dg.dg 4294967296 l.n)∧Rd w' .u32 q (Dg.dg 4294967296 h.n)∧yB w w'
theorem csf6 {w:World}{b:Nat}{k:TypeId}{a d e g i j:Value}(h:au w b k [a,d,e,g,i,j]):(w.cell? ⟨b,0,none⟩=some a∧w.cell? ⟨b,1,none⟩=some d∧w.cell? ⟨b,2,none⟩=some e∧w.cell? ⟨b,3,none⟩=some g∧w.cell? ⟨b,4,none⟩=some i∧w.cell? ⟨b,5,none⟩=some j)∧w.frozen? ⟨b,0,none⟩=false∧w.frozen? ⟨b,1,none⟩=false∧w.frozen? ⟨b,2,none⟩=false∧w.frozen? ⟨b,3,none⟩=false∧w.frozen? ⟨b,4,none⟩=false∧w.frozen? ⟨b,5,none⟩=false:=
 ⟨⟨h.c 0 rfl,h.c 1 rfl,h.c 2 rfl,h.c 3 rfl,h.c 4 rfl,h.c 5 rfl⟩,h.f 0,h.f 1,h.f 2,h.f 3,h.f 4,h.f 5⟩
theorem t9 {w:World}{k:IntKind}{v:Value}{zs:List Nat}(h:Rd w k v zs){b:Nat}(j:w.heap.size≤b):wF b v zs:=fun f a n c m=>by
 obtain⟨o,cap,rfl,_,_,i⟩:=h;obtain⟨g,p,rfl,l⟩:=i f
 cases m
 have d:=l 0 f
 show g≠b
 intro e;subst e;unfold World.cell? at d;simp only at d;rw[Array.getElem?_eq_none j] at d
 cases d
def SX (R cur ys:List Nat)(i t k c b:Nat):Prop:=
 cur.length=R.length∧Dg.Small 4294967296 cur∧c<4294967296∧b≤1∧(∀j,i+k≤j→cur.getD j 0=R.getD j 0)∧Dg.vl 4294967296 cur+4294967296^i*(Dg.vl 4294967296 (ys.take k)*t)=Dg.vl 4294967296 R+4294967296^ (i+k)*(b+c)
theorem VS {R f d:List Nat}{i t k c b y p a:Nat}(h:SX R f d i t k c b)(_hk:k<d.length)(F:i+k<R.length)(w:d.getD k 0=y)(u:R.getD (i+k) 0=p)(I:p<4294967296)(D:a=c+y*t)(s:a/4294967296<4294967296):
  SX R (f.set (i+k) ((p+4294967296-a % 4294967296-b) % 4294967296)) d i t (k+1) (a/4294967296) (brw p (a % 4294967296) b):=by
 obtain⟨o,q,B,C,g,r⟩:=h;refine⟨by simpa using o,Dg.small_set q _ _ (Nat.mod_lt _ (by omega)),s,RN _ _ _,fun j E=> ?_, ?_⟩
 ·rw[Dg.getD_set _ _ _ _ (by omega),if_neg (by omega)];exact g j (by omega)
 ·have v:=Dg.vl_set 4294967296 f (i+k) ((p+4294967296-a % 4294967296-b) % 4294967296) (by omega)
  rw[g _ (Nat.le_refl _),u] at v;have G:a % 4294967296<4294967296:=Nat.mod_lt _ (by omega);have A:p+4294967296*brw p (a % 4294967296) b=(p+4294967296-a % 4294967296-b) % 4294967296+a % 4294967296+b:=by unfold brw;split<;>omega
  generalize H:(p+4294967296-a % 4294967296-b) % 4294967296=x at*;generalize brw p (a % 4294967296) b=e at*;rw[iV,w];have l:4294967296^i*((Dg.vl 4294967296 (d.take k)+4294967296^k*y)*t)=4294967296^i*(Dg.vl 4294967296 (d.take k)*t)+4294967296^ (i+k)*(y*t):=by
   rw[Nat.add_mul,Nat.mul_add,Nat.pow_add,Nat.mul_assoc,Nat.mul_assoc]
  have m:4294967296^ (i+(k+1))*(e+a/4294967296)=4294967296^ (i+k)*(4294967296*e+4294967296*(a/4294967296)):=by
   rw[show i+(k+1)=i+k+1 from by omega,Nat.pow_succ,Nat.mul_assoc,Nat.mul_add]
  have z:=Nat.mod_add_div a 4294967296;have n:4294967296^ (i+k)*(4294967296*e+4294967296*(a/4294967296)+p)=4294967296^ (i+k)*(x+b+c+y*t):=by congr 1;omega
  rw[Nat.mul_add,Nat.mul_add,Nat.mul_add,Nat.mul_add,Nat.mul_add] at n;rw[Nat.mul_add] at r;rw[l,m,Nat.mul_add];omega
theorem VT {R d a:List Nat}{i t c b p:Nat}(h:SX R d a i t a.length c b)(w:i+a.length<R.length)(q:R.getD (i+a.length) 0=p)(x:p<4294967296):
  (d.set (i+a.length) ((p+4294967296-c-b) % 4294967296)).length=R.length∧Dg.Small 4294967296 (d.set (i+a.length) ((p+4294967296-c-b) % 4294967296))∧(∀j,i+a.length<j→(d.set (i+a.length) ((p+4294967296-c-b) % 4294967296)).getD j 0=R.getD j 0)∧
   Dg.vl 4294967296 (d.set (i+a.length) ((p+4294967296-c-b) % 4294967296))+4294967296^i*(Dg.vl 4294967296 a*t)=Dg.vl 4294967296 R+4294967296^ (i+a.length+1)*brw p c b:=by
 obtain⟨n,o,s,u,f,g⟩:=h;refine⟨by simpa using n,Dg.small_set o _ _ (Nat.mod_lt _ (by omega)),fun j v=> ?_, ?_⟩
 ·rw[Dg.getD_set _ _ _ _ (by omega),if_neg (by omega)];exact f j (by omega)
 ·have r:=Dg.vl_set 4294967296 d (i+a.length) ((p+4294967296-c-b) % 4294967296) (by omega)
  rw[f _ (Nat.le_refl _),q] at r;have m:p+4294967296*brw p c b=(p+4294967296-c-b) % 4294967296+c+b:=by unfold brw;split<;>omega
  generalize(p+4294967296-c-b) % 4294967296=new at*;generalize brw p c b=e at*;rw[List.take_of_length_le (Nat.le_refl _)] at g;have k:4294967296^ (i+a.length+1)*e=4294967296^ (i+a.length)*(4294967296*e):=by rw[Nat.pow_succ,Nat.mul_assoc]
  have l:4294967296^ (i+a.length)*(p+4294967296*e)=4294967296^ (i+a.length)*(new+c+b):=by rw[m]
  rw[Nat.mul_add,Nat.mul_add,Nat.mul_add] at l;rw[Nat.mul_add] at g;rw[k];omega
def Sp (R cur ys:List Nat)(i k c:Nat):Prop:=
 cur.length=R.length∧Dg.Small 4294967296 cur∧c≤1∧(∀j,i+k≤j→cur.getD j 0=R.getD j 0)∧Dg.vl 4294967296 cur+4294967296^ (i+k)*c=Dg.vl 4294967296 R+4294967296^i*Dg.vl 4294967296 (ys.take k)
theorem TV {R b a:List Nat}{i k c y p:Nat}(h:Sp R b a i k c)(w:i+k<R.length)(q:a.getD k 0=y)(n:R.getD (i+k) 0=p)(x:p<4294967296)(z:y<4294967296):
  Sp R (b.set (i+k) ((p+y+c) % 4294967296)) a i (k+1) ((p+y+c)/4294967296):=by
 obtain⟨g,l,t,d,u⟩:=h;refine⟨by simpa using g,Dg.small_set l _ _ (Nat.mod_lt _ (by omega)),by omega,fun j v=> ?_, ?_⟩
 ·rw[Dg.getD_set _ _ _ _ (by omega),if_neg (by omega)];exact d j (by omega)
 ·have o:=Dg.vl_set 4294967296 b (i+k) ((p+y+c) % 4294967296) (by omega)
  rw[d _ (Nat.le_refl _),n] at o;rw[iV,q];generalize m:p+y+c=T at*;have e:4294967296^i*(Dg.vl 4294967296 (a.take k)+4294967296^k*y)=4294967296^i*Dg.vl 4294967296 (a.take k)+4294967296^ (i+k)*y:=by rw[Nat.mul_add,Nat.pow_add,Nat.mul_assoc]
  have f:4294967296^ (i+(k+1))*(T/4294967296)=4294967296^ (i+k)*(4294967296*(T/4294967296)):=by rw[show i+(k+1)=i+k+1 from by omega,Nat.pow_succ,Nat.mul_assoc]
  have r:4294967296^ (i+k)*T=4294967296^ (i+k)*(T % 4294967296)+4294967296^ (i+k)*(4294967296*(T/4294967296)):=by rw[←Nat.mul_add,Nat.mod_add_div]
  have s:4294967296^ (i+k)*T=4294967296^ (i+k)*p+4294967296^ (i+k)*y+4294967296^ (i+k)*c:=by rw[←m,Nat.mul_add,Nat.mul_add]
  rw[e,f];omega
theorem TW {R b a:List Nat}{i c p:Nat}(h:Sp R b a i a.length c)(t:i+a.length<R.length)(m:R.getD (i+a.length) 0=p)(u:p<4294967296):
  Py R (b.set (i+a.length) ((p+c) % 4294967296)) a i ((p+c)/4294967296):=by
 obtain⟨f,g,r,d,k⟩:=h;refine⟨by simpa using f,Dg.small_set g _ _ (Nat.mod_lt _ (by omega)),fun j s=> ?_,by omega, ?_⟩
 ·rw[Dg.getD_set _ _ _ _ (by omega),if_neg (by omega)];exact d j (by omega)
 ·have n:=Dg.vl_set 4294967296 b (i+a.length) ((p+c) % 4294967296) (by omega)
  rw[d _ (Nat.le_refl _),m] at n;rw[List.take_of_length_le (Nat.le_refl _)] at k;generalize l:p+c=T at*;have e:4294967296^ (i+a.length+1)*(T/4294967296)=4294967296^ (i+a.length)*(4294967296*(T/4294967296)):=by rw[Nat.pow_succ,Nat.mul_assoc]
  have o:4294967296^ (i+a.length)*T=4294967296^ (i+a.length)*(T % 4294967296)+4294967296^ (i+a.length)*(4294967296*(T/4294967296)):=by rw[←Nat.mul_add,Nat.mod_add_div]
  have q:4294967296^ (i+a.length)*T=4294967296^ (i+a.length)*p+4294967296^ (i+a.length)*c:=by rw[←l,Nat.mul_add]
  rw[e];omega
theorem CG (B:Nat)(l:List Nat)(j:Nat)(b:0<B)(c:Dg.Small B l):l.getD j 0=Dg.vl B l/B^j % B:=by
 by_cases h:j<l.length
 ·have d:=Dg.vl_split B l j h
  have a:=Dg.vl_lt B (l.take j) (Dg.small_take c j b);rw[List.length_take,Nat.min_eq_left (by omega)] at a;rw[d,Nat.add_mul_div_left _ _ (Nat.pow_pos b),Nat.div_eq_of_lt a,Nat.zero_add,Nat.add_mul_mod_self_left];exact(Nat.mod_eq_of_lt (c j)).symm
 ·rw[Dg.getD_of_le l j (by omega)]
  have a:=Dg.vl_lt B l c;have e:B^l.length≤B^j:=Nat.pow_le_pow_right b (by omega);rw[Nat.div_eq_of_lt (by omega),Nat.zero_mod]
theorem Dk (B:Nat)(l:List Nat)(m:Nat)(b:0<B)(c:Dg.Small B l)(e: ∀j,m≤j→l.getD j 0=0):Dg.vl B l<B^m:=by
 by_cases h:m≤l.length
 ·rw[Dg.vl_take_drop B l m h]
  have d:Dg.vl B (l.drop m)=0:=Dg.vl_zeros B _ (fun i=>by
   have:=e (m+i) (by omega)
   simpa[List.getD_eq_getElem?_getD,List.getElem?_drop] using this)
  have a:=Dg.vl_lt B (l.take m) (Dg.small_take c m b);rw[List.length_take,Nat.min_eq_left h] at a;rw[d,Nat.mul_zero,Nat.add_zero];exact a
 ·have a:=Dg.vl_lt B l c
  have f:B^l.length≤B^m:=Nat.pow_le_pow_right b (by omega);omega
theorem NB (B:Nat)(l:List Nat)(m:Nat)(a:0<B)(c:Dg.Small B l)(h:Dg.vl B l<B^m)(j:Nat)(b:m≤j):l.getD j 0=0:=by
 rw[CG B l j a c];have d:B^m≤B^j:=Nat.pow_le_pow_right a b;rw[Nat.div_eq_of_lt (by omega),Nat.zero_mod]
theorem QR {R c a:List Nat}{i g b q X D:Nat}(P:acc R c a i g b)(U:Dg.Small 4294967296 R)(A:Dg.vl 4294967296 R=X)(y:Dg.vl 4294967296 a=D)(z:0<D)(a0:D<4294967296^a.length)
  (S:X<D*4294967296^ (i+1)) (T:X/4294967296^i/D=q) (r:g=q∨g=q+1):
  (b=0→g=q∧Dg.vl 4294967296 c+4294967296^i*(D*q)=X∧Dg.vl 4294967296 c<D*4294967296^i)∧
  (b=1→g=q+1∧ ∀(d:List Nat) (o:Nat),Py c d a i o→Dg.vl 4294967296 d+4294967296^i*(D*q)=X∧Dg.vl 4294967296 d<D*4294967296^i):=by
 have C:X<4294967296^ (i+a.length+1):=by
  have n:D*4294967296^ (i+1)≤4294967296^a.length*4294967296^ (i+1):=Nat.mul_le_mul_right _ (by omega);rw[←Nat.pow_add,show a.length+(i+1)=i+a.length+1 from by omega] at n
  omega
 have G: ∀j,i+a.length+1≤j→R.getD j 0=0:=fun j k=>NB 4294967296 R _ (by omega) U (by rw[A];exact C) j k
 obtain⟨W,I,J,Y,u⟩:=P;have t: ∀j,i+a.length+1≤j→c.getD j 0=0:=fun j k=>by rw[J j (by omega)];exact G j k
 have Q:=Dk 4294967296 c _ (by omega) I t;have f:=ND (X:=X) (D:=D) (i:=i) (B:=4294967296) (by omega) z;rw[T] at f;rw[A,y] at u;have x:4294967296^i*(D*(q+1))=4294967296^i*(D*q)+4294967296^i*D:=by rw[Nat.mul_add,Nat.mul_one,Nat.mul_add]
 have e4:4294967296^i*D≤4294967296^ (i+a.length+1):=by
  have n:4294967296^i*D≤4294967296^i*4294967296^a.length:=Nat.mul_le_mul_left _ (by omega);rw[←Nat.pow_add] at n;have e2:(4294967296:Nat)^ (i+a.length)≤4294967296^ (i+a.length+1):=Nat.pow_le_pow_right (by omega) (by omega);omega
 have L:D*4294967296^i=4294967296^i*D:=Nat.mul_comm _ _;have a3:0<4294967296^i*D:=Nat.mul_pos (Nat.pow_pos (by omega)) z;have F:4294967296^i*(D*g)=4294967296^i*(D*q)∨4294967296^i*(D*g)=4294967296^i*(D*q)+4294967296^i*D:=by
  rcases r with e|e
  ·left;rw[e]
  ·right;rw[e,x]
 have E:(4294967296^i*(D*g)=4294967296^i*(D*q)→g=q)∧(4294967296^i*(D*g)=4294967296^i*(D*q)+4294967296^i*D→g=q+1):=by
  constructor
  ·intro e
   rcases r with h|h
   ·exact h
   ·rw[h,x] at e;omega
  ·intro e
   rcases r with h|h
   ·rw[h] at e;omega
   ·exact h
 have s:=QQ f.1 f.2 F E u Q Y;rw[L];have a2:=f.2;have a1:=f.1;refine⟨fun M=> ?_,fun N=> ?_⟩
 ·have:=s.1 M
  exact⟨this.1,this.2,by omega⟩
 ·have p:=s.2 N
  refine⟨p.1,fun d o O=> ?_⟩
  obtain⟨K,v,w,Z,m⟩:=O;have H: ∀j,i+a.length+1≤j→d.getD j 0=0:=fun j k=>by rw[w j (by omega)];exact t j k
  have a4:=Dk 4294967296 d _ (by omega) v H;rw[y] at m;have h3:=p.2;have l:o=0∨o=1:=by omega
  clear s F E u G t H W I J K v w p S C
  rcases l with l|l
  ·subst l
   rw[Nat.mul_zero] at m;omega
  ·subst l
   rw[Nat.mul_one] at m;omega
theorem Own.other {w w':World}{base e:Nat}{k:IntKind}{b g n cap:Nat}{zs:List Nat}(h:Own w base e k (.slice (some ⟨b,0,none⟩) n cap) zs)(j:w.grownBy w' (some g))(p:b≠g):Own w' base e k (.slice (some ⟨b,0,none⟩) n cap) zs:=by
 have o:=h.block;obtain⟨m,a⟩:=h;refine⟨m, ?_⟩
 rcases a with a| ⟨c,cap',f,d,i,l,r⟩
 ·exact .inl a
 ·refine .inr ⟨c,cap',f,d,i, ?_,r⟩
  simp at d;rw[j.block c (by omega) (by intro e;cases e;omega)]
  exact l
theorem Own.form {w:World}{base e:Nat}{k:IntKind}{v:Value}{zs:List Nat}(h:Own w base e k v zs)(l:0<zs.length): ∃g cap,v= .slice (some ⟨g,0,none⟩) zs.length cap∧base≤g∧g<w.heap.size∧zs.length≤cap:=by
 have c:=h;obtain⟨j,a⟩:=h
 rcases a with⟨_,a⟩| ⟨b,cap',f,rfl,d,i,r⟩
 ·omega
 ·exact⟨b,cap',rfl,d,c.block.2,r.1⟩
theorem V7 (a:List Nat)(s:Nat)(f:Dg.Small 4294967296 a)(l:Dg.Norm a)(c:2≤a.length)(t:s=32-bitLen (a.getD (a.length-1) 0)):
  s<32∧2147483648*4294967296^ (a.length-1)≤Dg.vl 4294967296 a*2^s∧Dg.vl 4294967296 a*2^s<4294967296^a.length:=by
 have k:a.getD (a.length-1) 0≠0:=l (by intro e;rw[e] at c;simp at c);have u:=f (a.length-1);have b:=Dg.vl_split 4294967296 a (a.length-1) (by omega);have j:=Dg.vl_lt 4294967296 (a.take (a.length-1)) (Dg.small_take f _ (by omega));rw[List.length_take,Nat.min_eq_left (by omega)] at j;rw[show a.length-1+1=a.length from by omega,List.drop_length] at b
 simp only[Dg.vl,Nat.mul_zero,Nat.add_zero] at b;generalize a.getD (a.length-1) 0=y at*;generalize Dg.vl 4294967296 (a.take (a.length-1))=d at*;have⟨h1,h2,h3⟩:=uB y k;have r:=bF y 32 (by omega);have p:2^ (bitLen y-1)*2^s=2147483648:=by rw[←Nat.pow_add,show bitLen y-1+s=31 from by omega]
 have q:2^bitLen y*2^s=4294967296:=by rw[←Nat.pow_add,show bitLen y+s=32 from by omega]
 have i:(4294967296:Nat)^a.length=4294967296^ (a.length-1)*4294967296:=by rw[←Nat.pow_succ,show(a.length-1).succ=a.length from by omega]
 have m:2^ (bitLen y-1)*2^s≤y*2^s:=Nat.mul_le_mul_right _ h2;have n:(y+1)*2^s≤2^bitLen y*2^s:=Nat.mul_le_mul_right _ h3;refine⟨by omega, ?_, ?_⟩
 ·rw[b,Nat.add_mul,Nat.mul_assoc]
  have:4294967296^ (a.length-1)*2147483648≤4294967296^ (a.length-1)*(y*2^s):=Nat.mul_le_mul_left _ (by omega);rw[Nat.mul_comm 2147483648];omega
 ·rw[b,i]
  have g:(d+4294967296^ (a.length-1)*y)<4294967296^ (a.length-1)*(y+1):=by rw[Nat.mul_add,Nat.mul_one];omega
  have h:(d+4294967296^ (a.length-1)*y)*2^s<4294967296^ (a.length-1)*(y+1)*2^s:=Nat.mul_lt_mul_of_pos_right g (Nat.pow_pos (by omega));rw[Nat.mul_assoc (4294967296^ (a.length-1)) (y+1)] at h;have o:4294967296^ (a.length-1)*((y+1)*2^s)≤4294967296^ (a.length-1)*4294967296:=Nat.mul_le_mul_left _ (by omega);omega
def ae2 (w:World)(A D M N gr go gb cb:Nat)(bs:List Nat)(iv:Value)(wr:World):Prop:=
 ∃(k:Nat) (R os:List Nat),k≤M∧iv=yi ((k:Int)-1)∧Jm A D M R os N k∧Own wr w.heap.size 36 .u32 (.slice (some ⟨gr,0,none⟩) N N) R∧Own wr w.heap.size 36 .u32 (.slice (some ⟨go,0,none⟩) M M) os∧
  Own wr w.heap.size 36 .u32 (.slice (some ⟨gb,0,none⟩) bs.length cb) bs∧yB w wr
def Two (w:World)(q r:Nat)(e:Ending)(w':World):Prop:=
 ∃v1 v2,e= .returned (.tuple #[v1,v2])∧Own w' w.heap.size 36 .u32 v1 (Dg.dg 4294967296 q)∧Own w' w.heap.size 36 .u32 v2 (Dg.dg 4294967296 r)∧yB w w'
theorem Pi {A D M N i nn:Nat}{R x a:List Nat}(h:Jm A D M R x N (i+1))(q:Dg.Small 4294967296 a)(p:Dg.vl 4294967296 a=D)(C:2≤nn)(l:2147483648*4294967296^ (nn-1)≤D)(d:D<4294967296^nn):
  2147483648≤a.getD (nn-1) 0∧R.getD (i+nn) 0≤a.getD (nn-1) 0∧
  ∀g,g<4294967296→(∀k,k*(a.getD (nn-1) 0*4294967296+a.getD (nn-2) 0)≤(R.getD (i+nn) 0*4294967296+R.getD (i+(nn-1)) 0)*4294967296+R.getD (i+(nn-2)) 0→k<4294967296→k≤g)→
   g*(a.getD (nn-1) 0*4294967296+a.getD (nn-2) 0)≤(R.getD (i+nn) 0*4294967296+R.getD (i+(nn-1)) 0)*4294967296+R.getD (i+(nn-2)) 0→
   Dg.vl 4294967296 R/4294967296^i/D<4294967296∧(g=Dg.vl 4294967296 R/4294967296^i/D∨g=Dg.vl 4294967296 R/4294967296^i/D+1):=by
 obtain⟨-,-,f,-,-,-,e⟩:=h;obtain⟨m,rfl⟩: ∃m,nn=m+2:=⟨nn-2,by omega⟩;have b:(0:Nat)<4294967296:=by omega
 rw[show m+2-1=m+1 from rfl] at*
 rw[show m+2-2=m from rfl]
 have s:a.getD (m+1) 0=D/4294967296^ (m+1) % 4294967296:=by rw[CG 4294967296 a (m+1) b q,p]
 have r:a.getD m 0=D/4294967296^m % 4294967296:=by rw[CG 4294967296 a m b q,p]
 have p2:=CG 4294967296 R (i+(m+2)) b f;have p1:=CG 4294967296 R (i+(m+1)) b f;have y:=CG 4294967296 R (i+m) b f;have t:Dg.vl 4294967296 R<4294967296^ (i+m+3):=by
  have c:D*4294967296^ (i+1)≤4294967296^ (m+2)*4294967296^ (i+1):=Nat.mul_le_mul_right _ (Nat.le_of_lt d);rw[←Nat.pow_add,show m+2+(i+1)=i+m+3 from by omega] at c
  exact Nat.lt_of_lt_of_le e c
 have j:=adr (n:=m+2) b (by omega) e;rw[show m+2-1=m+1 from rfl] at j
 have o:D/4294967296^ (m+1)<4294967296:=by
  rw[Nat.div_lt_iff_lt_mul (Nat.pow_pos b),Nat.mul_comm,←Nat.pow_succ];exact d
 have B:=aeU 4294967296 (Dg.vl 4294967296 R) (i+m) b t;have z:=two 4294967296 D m b d;rw[s,r,p2,p1,y];rw[show i+(m+2)=i+m+2 from by omega] at j⊢
 rw[show i+(m+1)=i+m+1 from by omega]
 refine⟨?_, ?_, ?_⟩
 ·rw[Nat.mod_eq_of_lt o,Nat.le_div_iff_mul_le (Nat.pow_pos b)]
  exact l
 ·rw[Nat.mod_eq_of_lt o]
  exact Nat.le_trans (Nat.mod_le _ _) j
 ·rw[B,z]
  intro g u v w;refine NC b e ?_ u v w;have c:1*4294967296^ (m+1)≤2147483648*4294967296^ (m+1):=Nat.mul_le_mul_right _ (by omega);rw[Nat.one_mul] at c;exact Nat.le_trans c l
theorem Pj {X a nn s D:Nat}{b:List Nat}(c:Dg.dg 4294967296 (X*2^s)=b)(k:b.length≤a+1)(h:X<4294967296^a)(n:s<32)(m:1≤nn)(l:nn≤a+1)(g:2147483648*4294967296^ (nn-1)≤D):
  Jm (X*2^s) D (a+1-nn) (b++(List.replicate (a+1) 0).drop b.length) (List.replicate (a+1-nn) 0) (a+1) (a+1-nn):=by
 have sz:Dg.Small 4294967296 b:=by rw[←c];exact Dg.small_dg _ _ (by omega)
 have d:Dg.vl 4294967296 (b++(List.replicate (a+1) 0).drop b.length)=X*2^s:=by
  rw[List.drop_replicate,acV,←c,Dg.vl_dg _ _ (by omega)]
 refine⟨by simp;omega,by simp, ?_,CV _,fun j _=>EP _ j, ?_, ?_⟩
 ·rw[List.drop_replicate]
  exact TM sz (CV _)
 ·rw[d,Dg.vl_zeros _ _ (EP _),Nat.mul_zero,Nat.zero_add]
 ·rw[d]
  have e:2147483648*4294967296^ (nn-1)*4294967296^ (a+1-nn)≤D*4294967296^ (a+1-nn):=Nat.mul_le_mul_right _ g;rw[Nat.mul_assoc,←Nat.pow_add,show nn-1+(a+1-nn)=a from by omega] at e
  have i:X*2^s<4294967296^a*2^s:=Nat.mul_lt_mul_of_pos_right h (Nat.pow_pos (by omega));have f:4294967296^a*2^s≤4294967296^a*2^31:=Nat.mul_le_mul_left _ (Nat.pow_le_pow_right (by omega) (by omega));rw[show(2:Nat)^31=2147483648 from rfl,Nat.mul_comm _ 2147483648] at f
  omega
theorem zf (w:World)(base e d:Nat)(a:base≤w.heap.size):Own (w.alloc (.cells #[.int .u32 d] e)) base e .u32 (.slice (some ⟨w.heap.size,0,none⟩) 1 1) [d]:=
 World.ownsRow_lit (e:=e) (size:=1) (base:=base) w #[.int .u32 d] 1 a (by unfold maxLen;omega) rfl
def NmS (w:World)(n:Nat)(z:Ending)(w':World):Prop:= ∃v,z= .returned v∧Rd w' .u32 v (Dg.dg 4294967296 n)∧yB w w'
def TwS (w:World)(a b:Nat)(z:Ending)(w':World):Prop:= ∃v u,z= .returned (.tuple #[v,u])∧Rd w' .u32 v (Dg.dg 4294967296 a)∧Rd w' .u32 u (Dg.dg 4294967296 b)∧yB w w'
def InvR (w:World)(n k tn:Nat)(R:Nat×Nat×Nat)(bb ab:Nat)(pv wv iv:Value)(wr:World):Prop:=
 ∃(f i t s r wg:Nat) (so:Option Addr) (sc:Nat) (ro:Option Addr) (rc:Nat),wv=yi wg∧iv=yi i∧Rd wr .u32 pv (Dg.dg 4294967296 t)∧au wr bb 36 [.int .u32 n]∧
  au wr ab 135 [yT so s sc,yT ro r rc]∧Rd wr .u32 (yT so s sc) (Dg.dg 4294967296 s)∧Rd wr .u32 (yT ro r rc) (Dg.dg 4294967296 r)∧
  au wr w.heap.size 54 [.bool false,yN,yi 0,.bool false,yN,yi 0]∧yB w wr∧w.heap.size<bb∧bb<ab∧Hid (InvN n k tn R f i t s r∧wg=3+3*i)
end Go.Proofs.YthhiidikgchdeabGreatDoor
