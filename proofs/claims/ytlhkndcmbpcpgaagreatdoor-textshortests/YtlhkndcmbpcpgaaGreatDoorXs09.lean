/- Texts laid together. -/
import Derived.Test.YtlhkndcmbpcpgaaGreatDoorXs02
import Derived.Test.YtlhkndcmbpcpgaaGreatDoorXs03
import Derived.Test.YtlhkndcmbpcpgaaGreatDoorXs04
set_option maxRecDepth 100000
set_option maxHeartbeats 25600000
namespace Go.Proofs.YtlhkndcmbpcpgaaGreatDoor
open _root_.Go.Proofs.Tryz
open Go.RowKit
theorem Nw {P:Program}{w:World}{base e:Nat}{k:IntKind}{g n m cap:Nat}{r:Option Addr}{c zs:List Nat}(i o p:Nat)(h:P.underlying i=some (.slice e))(x:(P.info? e).map (·.size)=some 1)
  (f:Own w base e k (.slice (some ⟨g,0,none⟩) n n) c) (v:Rd w k (.slice r m cap) zs) (t:zs.length≤c.length):
  ∃q,(Builtin.copy_ #[i,o] p #[.slice (some ⟨g,0,none⟩) n n,.slice r m cap]).run P w= .ok (yi m) q∧Own q base e k (.slice (some ⟨g,0,none⟩) n n) (zs++c.drop zs.length)∧w.grownBy q (some g):=by
 have F:=f.len;have E:=wn v;subst F E;have l:=f.heap;have A:=f.block;have N:c.length≤maxLen:=by
  rcases f.2 with⟨y,_⟩| ⟨J,cap',I,y,K,l,O,L,M,Q⟩
  ·simp at y
  ·omega
 by_cases z:zs.length=0
 ·obtain rfl:zs=[]:=List.eq_nil_of_length_eq_zero z
  refine⟨w,run_copy_none (P:=P) w i o p e _ _ _ _ _ _ h x (by simp),by simpa using f,⟨rfl,rfl,rfl,Nat.le_refl _,fun _ _ _=>rfl⟩⟩
 ·obtain⟨-,-,B⟩:=iQ v
  obtain⟨b,H,rfl,C⟩:=B (by omega);have G:=run_copy_row (P:=P) w i o p e g 0 c.length c.length ⟨b,H,none⟩ zs.length cap _ e (zs.map (fun n:Nat=>Value.int k n)) h x l (by rw[List.length_map];exact(Nat.min_eq_left t).symm)
   (by
    intro j u d;have s:j<zs.length:=by have:=(List.getElem?_eq_some_iff.1 d).1;simpa using this
    rw[j9 k zs j s] at d;rw[rO,C j s];exact d)
   (by simpa using t) (by intro u h;simp at h;obtain⟨a,_,rfl⟩:=h;rfl)
  refine⟨w.setRow g (zs.map (fun n:Nat=>Value.int k n)++(c.map (fun n:Nat=>Value.int k n)).drop zs.length).toArray,by rw[G];simp[goInt], ?_,⟨rfl,rfl,rfl,by simp[World.setRow],fun j _ d=>setRow_other w g j _ (fun e=>d (by rw[e]))⟩⟩
  have D:(zs++c.drop zs.length).length=c.length:=by simp;omega
  have:=pr (w:=w.setRow g (zs.map (fun n:Nat=>Value.int k n)++(c.map (fun n:Nat=>Value.int k n)).drop zs.length).toArray) (base:=base) (e:=e) (k:=k) (g:=g) (zs:=zs++c.drop zs.length)
   (by rw[Nv w g _ _ e l];simp[List.map_drop]) A.1 (by omega)
  rw[D] at this
  simpa using this
theorem Tx {zs a:List Nat}{d k r t:Nat}(h:acQ zs a d (k+1) r)(l:k<zs.length)(p:t=r*4294967296+zs.getD k 0)(i:0<d)(m:t/d<4294967296):
  acQ zs (a.set k (t/d)) d k (t % d):=by
 obtain⟨b,c,n,f,g⟩:=h;refine⟨by simpa using b,Dg.small_set c _ _ m,Nat.mod_lt _ i,fun j o=> ?_, ?_⟩
 ·rw[Dg.getD_set _ _ _ _ (by omega),if_neg (by omega)];exact f j (by omega)
 ·rw[AU zs k l,AU (a.set k (t/d)) k (by simpa using(by omega:k<a.length)),Dg.getD_set _ _ _ _ (by omega),if_pos rfl,List.drop_set_of_lt (by omega)]
  simp only[Dg.vl];rw[g];have:=Nat.div_add_mod t d;rw[Nat.add_mul,Nat.mul_comm (t/d) d,Nat.mul_assoc,Nat.mul_add];have e:r*4294967296=4294967296*r:=Nat.mul_comm _ _;omega
theorem Mj (g N i P base:Nat)(R a:List Nat)(E:Value)(w:World)(C:Own w base 105 .u32 (.slice (some ⟨g,0,none⟩) N N) R)(t:Dg.Small 4294967296 R)(Q:Dg.Small 4294967296 a)
  (q: ∀w',w.grownBy w' (some g)→Rd w' .u32 E a) (L:i+a.length<R.length) (W:R.length≤2000000):
  yC 135 #[.slice (some ⟨g,i,none⟩) (a.length+1) P,E] w fun e w'=>
   ∃(o:Nat) (d:List Nat),e= .returned (.tuple #[])∧Py R d a i o∧Own w' base 105 .u32 (.slice (some ⟨g,0,none⟩) N N) d∧w.grownBy w' (some g):=by
 obtain⟨T,U,rfl⟩:=(q w (ib _ _)).shape;have F:Hid _:=q
 clear q
 go_enter func135,ntmps135
 go_wp2
 go_loopw [4,9] (fun H s wr=> ∃(k c:Nat) (d:List Nat),k≤a.length∧s=yi k∧H= .int .u32 c∧Own wr base 105 .u32 (.slice (some ⟨g,0,none⟩) N N) d∧Sp R d a i k c∧w.grownBy wr (some g)) (fun _ s _=>a.length-(intOf s).toNat)
 case atStart=>exact⟨0,0,R,Nat.zero_le _,rfl,rfl,C,⟨rfl,t,by omega,fun _ _=>rfl,by simp[Dg.vl]⟩,ib _ _⟩
 case round=>
  clear C;obtain⟨k,c,d,X,rfl,rfl,own,h,gr⟩:=hrel;have B:=h.1;have I:=h.2.2.1
  by_cases M:k<a.length
  ·obtain⟨-,-,z⟩:=iQ (F.out wr gr)
   obtain⟨S,Y,rfl,A⟩:=z (by omega);have O:=A k M;have r:=Q k;have l:=own.c (i+k) (by omega);have J:=own.f (i+k);rw[h.2.2.2.1 _ (Nat.le_refl _)] at l;have j:=t (i+k);obtain⟨y,n⟩: ∃y,a.getD k 0=y:=⟨_,rfl⟩;obtain⟨p,b⟩: ∃p,R.getD (i+k) 0=p:=⟨_,rfl⟩;rw[n] at O r;rw[b] at l j;have m:=TV h (by omega) n b j r;have x:=ur p y c wr j r I;clear n b A z B
   go_wp2_with fail
   refine x.mono ?_;rintro e w' ⟨rfl,rfl⟩;clear x
   go_wp2
   go_roundw
   case rel=>exact⟨k+1,_,_,by omega,by go_num,rfl,own.store (i+k) _,m,eF gr (bI _ _ _ _)⟩
   case measure=>simp[intOf];omega
  ·have K:k=a.length:=by omega
   subst K;have l:=own.c (i+a.length) (by omega);have J:=own.f (i+a.length);rw[h.2.2.2.1 _ (Nat.le_refl _)] at l;have j:=t (i+a.length);obtain⟨p,b⟩: ∃p,R.getD (i+a.length) 0=p:=⟨_,rfl⟩;rw[b] at l j;have m:=TW h L b j;have u:((p:Int)+(c:Int)) % 4294967296=(((p+c) % 4294967296:Nat):Int):=by omega
   have D:=own.store (i+a.length) ((p+c) % 4294967296);have v:=eF gr (bI wr g (i+a.length) (.int .u32 (((p+c) % 4294967296:Nat):Int)));rw[←u] at D v;have G:Hid _:=m;clear b m B u
   go_wp2
   go_end0
   exact⟨_,_,rfl,G,D,v⟩
theorem Pi {A D M N i nn:Nat}{R os a:List Nat}(h:Jm A D M R os N (i+1))(q:Dg.Small 4294967296 a)(p:Dg.vl 4294967296 a=D)(E:2≤nn)(l:2147483648*4294967296^ (nn-1)≤D)(d:D<4294967296^nn):
  2147483648≤a.getD (nn-1) 0∧R.getD (i+nn) 0≤a.getD (nn-1) 0∧
  ∀g,g<4294967296→(∀k,k*(a.getD (nn-1) 0*4294967296+a.getD (nn-2) 0)≤(R.getD (i+nn) 0*4294967296+R.getD (i+(nn-1)) 0)*4294967296+R.getD (i+(nn-2)) 0→k<4294967296→k≤g)→
   g*(a.getD (nn-1) 0*4294967296+a.getD (nn-2) 0)≤(R.getD (i+nn) 0*4294967296+R.getD (i+(nn-1)) 0)*4294967296+R.getD (i+(nn-2)) 0→
   Dg.vl 4294967296 R/4294967296^i/D<4294967296∧(g=Dg.vl 4294967296 R/4294967296^i/D∨g=Dg.vl 4294967296 R/4294967296^i/D+1):=by
 obtain⟨-,-,f,-,-,-,e⟩:=h;obtain⟨m,rfl⟩: ∃m,nn=m+2:=⟨nn-2,by omega⟩;have b:(0:Nat)<4294967296:=by omega
 rw[show m+2-1=m+1 from rfl] at*
 rw[show m+2-2=m from rfl]
 have s:a.getD (m+1) 0=D/4294967296^ (m+1) % 4294967296:=by rw[CG 4294967296 a (m+1) b q,p]
 have r:a.getD m 0=D/4294967296^m % 4294967296:=by rw[CG 4294967296 a m b q,p]
 have z:=CG 4294967296 R (i+(m+2)) b f;have y:=CG 4294967296 R (i+(m+1)) b f;have x:=CG 4294967296 R (i+m) b f;have t:Dg.vl 4294967296 R<4294967296^ (i+m+3):=by
  have c:D*4294967296^ (i+1)≤4294967296^ (m+2)*4294967296^ (i+1):=Nat.mul_le_mul_right _ (Nat.le_of_lt d);rw[←Nat.pow_add,show m+2+(i+1)=i+m+3 from by omega] at c
  exact Nat.lt_of_lt_of_le e c
 have j:=adr (n:=m+2) b (by omega) e;rw[show m+2-1=m+1 from rfl] at j
 have o:D/4294967296^ (m+1)<4294967296:=by
  rw[Nat.div_lt_iff_lt_mul (Nat.pow_pos b),Nat.mul_comm,←Nat.pow_succ];exact d
 have C:=aeU 4294967296 (Dg.vl 4294967296 R) (i+m) b t;have B:=two 4294967296 D m b d;rw[s,r,z,y,x];rw[show i+(m+2)=i+m+2 from by omega] at j⊢
 rw[show i+(m+1)=i+m+1 from by omega]
 refine⟨?_, ?_, ?_⟩
 ·rw[Nat.mod_eq_of_lt o,Nat.le_div_iff_mul_le (Nat.pow_pos b)]
  exact l
 ·rw[Nat.mod_eq_of_lt o]
  exact Nat.le_trans (Nat.mod_le _ _) j
 ·rw[C,B]
  intro g u v w;refine NC b e ?_ u v w;have c:1*4294967296^ (m+1)≤2147483648*4294967296^ (m+1):=Nat.mul_le_mul_right _ (by omega);rw[Nat.one_mul] at c;exact Nat.le_trans c l
theorem Pj {X a nn s D:Nat}{b:List Nat}(c:Dg.dg 4294967296 (X*2^s)=b)(k:b.length≤a+1)(h:X<4294967296^a)(n:s<32)(m:1≤nn)(l:nn≤a+1)(g:2147483648*4294967296^ (nn-1)≤D):
  Jm (X*2^s) D (a+1-nn) (b++(List.replicate (a+1) 0).drop b.length) (List.replicate (a+1-nn) 0) (a+1) (a+1-nn):=by
 have sz:Dg.Small 4294967296 b:=by rw[←c];exact Dg.small_dg _ _ (by omega)
 have d:Dg.vl 4294967296 (b++(List.replicate (a+1) 0).drop b.length)=X*2^s:=by
  rw[List.drop_replicate,acV,←c,Dg.vl_dg _ _ (by omega)]
 refine⟨by simp;omega,by simp, ?_,CV _,fun j _=>EP _ j, ?_, ?_⟩
 ·rw[List.drop_replicate]
  exact TM sz (CV _)
 ·rw[d,Dg.vl_zeros _ _ (EP _),Nat.mul_zero,Nat.zero_add]
 ·rw[d]
  have e:2147483648*4294967296^ (nn-1)*4294967296^ (a+1-nn)≤D*4294967296^ (a+1-nn):=Nat.mul_le_mul_right _ g;rw[Nat.mul_assoc,←Nat.pow_add,show nn-1+(a+1-nn)=a from by omega] at e
  have i:X*2^s<4294967296^a*2^s:=Nat.mul_lt_mul_of_pos_right h (Nat.pow_pos (by omega));have f:4294967296^a*2^s≤4294967296^a*2^31:=Nat.mul_le_mul_left _ (Nat.pow_le_pow_right (by omega) (by omega));rw[show(2:Nat)^31=2147483648 from rfl,Nat.mul_comm _ 2147483648] at f
  omega
theorem Qp {xs a:List Nat}{d k r t:Nat}(h:X9 xs a d (k+1) r)(g:k<xs.length)(l:t=65536*r+xs.getD k 0)(f:0<d)(i:t/d<65536):
  X9 xs (a.set k (t/d)) d k (t % d):=by
 obtain⟨b,c,j,e⟩:=h;refine⟨by simpa using b,Dg.small_set c _ _ i,Nat.mod_lt _ f, ?_⟩;rw[AU xs k g,AU (a.set k (t/d)) k (by simpa using(by omega:k<a.length)),Dg.getD_set _ _ _ _ (by omega),if_pos rfl,List.drop_set_of_lt (by omega)];simp only[Dg.vl];rw[e];have:=Nat.div_add_mod t d;rw[Nat.add_mul,Nat.mul_comm (t/d) d,Nat.mul_assoc,Nat.mul_add];omega
theorem Bj (d:Nat)(w:World)(g:d<65536):yC 99 #[yi d] w (cG w d):=by
 obtain⟨m,i,j,k,l⟩:=info_parts Tryz.infoI64;have a:=Cv d g
 by_cases h:d=0
 ·subst h
  go_enter func99,ntmps99
  go_wp2
  refine wp_loop_rounds 1 ?_;rw[rounds_succ]
  go_wp2
  go_ret
  exact⟨_,rfl,(aQ _ 0 0 _).rd,Below.refl _ _⟩
 ·rw[if_neg h] at a
  have f:Hid (Dg.dg 65536 d=[d]):=a;have n:(d:Int) % 65536=(d:Int):=by omega
  have o:(d:Int)/65536=0:=by omega
  have p:(0:Int)< (d:Int):=by omega
  clear a
  go_enter func99,ntmps99
  go_wp2
  refine wp_loop_rounds 2 ?_;rw[rounds_succ]
  go_wp2_with (at_builtin;refine wpList_append_own _ rfl _ _ 26 rfl w.heap.size 3 m (yi 0) 1 8 underlying26 i j k l rfl (by decide) _ _ _ rfl (World.ownsRow.alloc (World.ownsRow_nil w w.heap.size 3 1) _) ⟨w.heap.size,0,none⟩ 1 1 [yi d] rfl rfl ?c1 ?c2 ?c3 ?c4 ?c5 ?_)
  case c1=>exact cell_one_new _ _ _
  case c2=>intro u e;simp at e;subst e;rfl
  case c3=>unfold maxLen;omega
  case c4=>omega
  case c5=>simp
  intro q r c b _;have R:=iW (Below.refl w.heap.size w) (aQ w w.heap.size 3 .i64) c b;clear c b;rw[List.nil_append,←f.out] at R
  go_wp2
  rw[rounds_succ]
  go_wp2
  go_ret
  exact⟨_,rfl,R.1.rd,R.2⟩
theorem iy (B:Nat)(l:List Nat)(k:Nat):Dg.vl B (l.drop k)=l.getD k 0+B*Dg.vl B (l.drop (k+1)):=by
 rw[abW B (l.drop k),Vm,List.drop_drop]
theorem Zs (B:Nat)(l:List Nat)(k:Nat)(h:l.length≤k+3):Dg.vl B (l.drop k)=l.getD k 0+B*(l.getD (k+1) 0+B*l.getD (k+2) 0):=by
 rw[iy,iy,iy,List.drop_of_length_le (by omega)];simp[Dg.vl]
theorem Zt (B:Nat)(l:List Nat)(k:Nat)(h:l.length≤k+2):Dg.vl B (l.drop k)=l.getD k 0+B*l.getD (k+1) 0:=by
 rw[iy,iy,List.drop_of_length_le (by omega)];simp[Dg.vl]
theorem Zu (rs c:List Nat)(n R b d a:Nat)(G:2≤n)(i:c.length=n)(F:Dg.Small 65536 rs)(z:Dg.Norm c)
  (u:Dg.vl 65536 rs=R) (v:Dg.vl 65536 c=b) (H:rs.length≤n+1) (m:R<65536*b)
  (x:d=65536*(65536*rs.getD n 0+rs.getD (n-1) 0)+rs.getD (n-2) 0) (y:a=c.getD (n-1) 0*65536+c.getD (n-2) 0):
  R/b≤65535∧R/b≤d/(a+1)+1:=by
 obtain⟨k,rfl⟩: ∃k,n=k+2:=⟨n-2,by omega⟩;have l:k+2-1=k+1:=by omega
 have o:k+2-2=k:=by omega
 rw[l,o] at x y;have j:=BH 65536 rs k;rw[Zs 65536 rs k (by omega),u] at j;have f:=BH 65536 c k;rw[Zt 65536 c k (by omega),v] at f;have p:rs.getD k 0+65536*(rs.getD (k+1) 0+65536*rs.getD (k+2) 0)=d:=by omega
 have r:c.getD k 0+65536*c.getD (k+1) 0=a:=by omega
 rw[p] at j;rw[r] at f;have E:Dg.vl 65536 (rs.take k)<65536^k:=Nat.lt_of_lt_of_le (Dg.vl_lt 65536 _ (Dg.small_take F k (by omega))) (Nat.pow_le_pow_right (by omega) (List.length_take_le _ _));have I:65536≤a:=by
  have s:=z (by intro e;rw[e] at i;simp at i);rw[i,l] at s;omega
 obtain⟨P,t⟩: ∃P,65536^k=P:=⟨_,rfl⟩;rw[t] at j f E;have w:0<b:=by
  rcases Nat.eq_zero_or_pos b with h|h
  ·rw[h] at m;omega
  ·exact h
 obtain⟨Q,g⟩: ∃Q,R/b=Q:=⟨_,rfl⟩;have A:Q≤65535:=by
  rw[←g];have:R/b<65536:=by rw[Nat.div_lt_iff_lt_mul w];exact m
  omega
 have J:Q*b≤R:=by rw[←g];exact Nat.div_mul_le_self R b
 rw[g];refine⟨A, ?_⟩;have K:Q*(P*a)≤Q*b:=Nat.mul_le_mul_left _ (by omega);have B:P*(Q*a)<P*(d+1):=by
  have:P*(Q*a)=Q*(P*a):=by rw[←Nat.mul_assoc,Nat.mul_comm P Q,Nat.mul_assoc]
  rw[this,Nat.mul_add];omega
 have C:Q*a<d+1:=Nat.lt_of_mul_lt_mul_left B
 rcases Nat.eq_zero_or_pos Q with h|h
 ·rw[h];exact Nat.zero_le _
 ·obtain⟨q,rfl⟩: ∃q,Q=q+1:=⟨Q-1,by omega⟩
  have D:q*(a+1)≤d:=by
   rw[Nat.add_mul] at C;rw[Nat.mul_add];omega
  have:=(Nat.le_div_iff_mul_le (by omega)).2 D;omega
theorem Vn {xs a:List Nat}{b k R N:Nat}(h:BI xs a b (k+1) R)(p:k<xs.length)(n:N=xs.getD k 0+65536*R)(c:0<b)(q:xs.getD k 0<65536):
  N<65536*b∧BI xs (a.set k (N/b)) b k (N % b):=by
 obtain⟨e,f,g,i,l⟩:=h;have d:N<65536*b:=by
  have:65536*(R+1)≤65536*b:=Nat.mul_le_mul_left _ i;omega
 have m:N/b<65536:=by rw[Nat.div_lt_iff_lt_mul c];exact d
 refine⟨d,by simpa using e,Dg.small_set f _ _ m,fun j o=> ?_,Nat.mod_lt _ c, ?_⟩
 ·rw[Dg.getD_set _ _ _ _ (by omega),if_neg (by omega)]
  exact g j (by omega)
 ·rw[iy 65536 xs k,iy 65536 (a.set k (N/b)) k,Dg.getD_set _ _ _ _ (by omega),if_pos rfl,List.drop_set_of_lt (by omega),l]
  have:=Nat.div_add_mod N b;rw[Nat.add_mul,Nat.mul_comm (N/b) b,Nat.mul_assoc,Nat.mul_add];omega
theorem QV {xs a:List Nat}{b k R N:Nat}(h:BI xs a b (k+1) R)(_hk:k<xs.length)(l:N=xs.getD k 0+65536*R)(g:N<b):BI xs a b k N:=by
 obtain⟨d,e,c,i,f⟩:=h;refine⟨d,e,fun j m=>c j (by omega),g, ?_⟩
 rw[iy 65536 xs k,iy 65536 a k,c k (by omega),f,Nat.zero_add,Nat.mul_add,Nat.mul_assoc];omega
theorem digitsOf_W (x:ak)(i g n2 d2 T B dQ rR rT q:Nat)(k:Nat)(P p0 q1 q2 q3 q4 nl dl km up ua en c P1:Int)(S S2:ByteArray)(xo:Option Addr)(xc:Nat)(w:World)
  (rx:Rd w .i64 (yS xo x.n xc) (Dg.dg 65536 x.n))
  (hn:(0≤x.e∧g=1)∨(¬0≤x.e∧i=x.n))
  (ca: ¬0≤x.e→IntKind.i64.wrap (-x.e)=en)
  (i6:IntKind.i64.wrap (nl-dl)=q1) (i7:IntKind.i64.wrap (q1-1)=q2) (i8:IntKind.i64.wrap (q2*30)=q3) (ic:IntKind.i64.wrap (q3.tdiv 100)=q4) (i5:IntKind.i64.wrap (q4-2)=p0)
  (hp: -5990≤p0∧p0≤5990∧ -5990≤P∧P≤5990) (hk:1≤k∧k≤60)
  (i1:IntKind.i64.wrap ((k:Int)-1)=km) (ig:IntKind.i64.wrap (km-P)=up)
  (hU:(0≤up∧up=ua∧g=d2∧n2=i*T)∨(¬0≤up∧IntKind.i64.wrap (-up)=ua∧i=n2∧d2=g*T)) (hB:i≤B∧g≤B)
  (hr:(0<c∧q=dQ+1)∨(c=0∧dQ % 2=1∧q=dQ+1)∨(c=0∧dQ % 2=0∧q=dQ)∨(c<0∧q=dQ)) (g9:dQ≠0)
  (hS:S.size≤1000∧((k<S.size∧S2=S.extract 0 k∧P1=P+1)∨(S.size≤k∧S2=S∧P1=P)))
  (HU:0≤x.e→ ∀xo xc a,yB w a→Rd a .i64 (yS xo x.n xc) (Dg.dg 65536 x.n)→yC 93 #[yS xo x.n xc,yi x.e] a (cG a i))
  (HD: ¬0≤x.e→ ∀a,yB w a→yC 18 #[yi en] a (cG a g))
  (HL: ∀no G a,yB w a→Rd a .i64 (yS no i G) (Dg.dg 65536 i)→yC 54 #[yS no i G] a (yR a (yi nl)))
  (HM: ∀z y a,yB w a→Rd a .i64 (yS z g y) (Dg.dg 65536 g)→yC 54 #[yS z g y] a (yR a (yi dl)))
  (HO: ∀(p:Int) D C no G z y a,-6000≤p→p≤6000→yB w a→a.rangeAt D 0 [yS no i G]→a.rangeAt C 0 [yS z g y]→Rd a .i64 (yS no i G) (Dg.dg 65536 i)→Rd a .i64 (yS z g y) (Dg.dg 65536 g)→yC 94 #[yi p,.pointer (some ⟨C,0,none⟩),.pointer (some ⟨D,0,none⟩)] a (yR a (.bool (decide (P<p)))))
  (HP: ∀a,yB w a→yC 95 #[yi ua] a (cG a T))
  (HT: ∀(m:Nat) o j ko kc a,m≤B→yB w a→Rd a .i64 (yS o m j) (Dg.dg 65536 m)→Rd a .i64 (yS ko T kc) (Dg.dg 65536 T)→yC 52 #[yS o m j,yS ko T kc] a (cG a (m*T)))
  (HI: ∀no G z y a,yB w a→Rd a .i64 (yS no n2 G) (Dg.dg 65536 n2)→Rd a .i64 (yS z d2 y) (Dg.dg 65536 d2)→yC 59 #[yS no n2 G,yS z d2 y] a (JI a dQ rR))
  (HR: ∀ro rc q a,yB w a→Rd a .i64 (yS ro rR rc) (Dg.dg 65536 rR)→au a q 3 [yi 2]→yC 52 #[yS ro rR rc,.slice (some ⟨q,0,none⟩) 1 1] a (cG a rT))
  (HC: ∀so sc z y a,yB w a→Rd a .i64 (yS so rT sc) (Dg.dg 65536 rT)→Rd a .i64 (yS z d2 y) (Dg.dg 65536 d2)→yC 23 #[yS so rT sc,yS z d2 y] a (yR a (yi c)))
  (HA: ∀go gc b a,yB w a→Rd a .i64 (yS go dQ gc) (Dg.dg 65536 dQ)→au a b 3 [yi 1]→yC 22 #[yS go dQ gc,.slice (some ⟨b,0,none⟩) 1 1] a (cG a (dQ+1)))
  (HS: ∀go gc a,yB w a→Rd a .i64 (yS go q gc) (Dg.dg 65536 q)→yC 96 #[yS go q gc] a (yR a (.string S))):
  yC 55 #[ydV x.s (yS xo x.n xc) x.e,yi k] w ((yR w (.tuple #[.string S2,yi P1]))):=by
 replace hn:Hid _:=hn;replace ca:Hid _:=ca;replace hU:Hid _:=hU;replace hr:Hid _:=hr;replace hS:Hid _:=hS;replace HU:Hid _:=HU;replace HD:Hid _:=HD;replace HL:Hid _:=HL;replace HM:Hid _:=HM;replace HO:Hid _:=HO;replace HP:Hid _:=HP;replace HT:Hid _:=HT;replace HI:Hid _:=HI;replace HR:Hid _:=HR;replace HC:Hid _:=HC;replace HA:Hid _:=HA;replace HS:Hid _:=HS;replace hB:Hid _:=hB;obtain⟨W3,c9,q1,b2⟩:=cA w (ydL x.s (yS xo x.n xc) x.e) 28;replace c9:Hid _:=c9;have r5:=rx.l b2;clear rx
 go_enter func55,ntmps55
 go_upto_region 1 with fail
 rw[c9.out];clear c9;have c6:=q1.c 1 rfl;have i3:=q1.lt;have c1:=af W3 (.cells #[yi 1] 3);have q8:=ah W3 [yi 1] 3;have cv:=q1.l c1;have f1:=r5.l c1;have cj:=aa b2 c1;obtain⟨e2,c8,cw,cx,bi⟩:=iG (W3.alloc (.cells #[yi 1] 3)) [yS xo x.n xc] 26 [.slice (some ⟨W3.heap.size,0,none⟩) 1 1] 26;replace c8:Hid _:=c8;have ga:w.heap.size≤(W3.alloc (.cells #[yi 1] 3)).heap.size:=cj.size;have gd:=cv.lt;have gg:=q8.lt;simp only[World.size_alloc] at cw cx ga gd gg;have em:=cv.l bi;have ep:=q8.l bi;have f6:=f1.l bi;have e6:=aa cj bi;clear cv q8 f1 cj bi q1 r5 b2 c1
 go_upto_region 2 with fail
 rw[c8.out];clear c8;have eh:w.heap.size<W3.heap.size+1∧W3.heap.size+1<W3.heap.size+1+1:=⟨by omega,by omega⟩;have R:DgW w (W3.heap.size+1) (W3.heap.size+1+1) x.n 1 (e2):=⟨e6,_,_,cw,cx,f6,rd_onE ep⟩;have q0:=em;clear em ep cw cx e6 f6 c6;generalize W3.heap.size+1+1=C at R eh⊢;generalize W3.heap.size+1=D at R eh⊢;generalize e2=ws at R q0⊢;have cD:=q0.c 2 rfl
 go_upto_if 20 with fail
 clear cD
 go_cut [] from 20 (fun wx=>DgW w D C i g wx)
 case first=>
  obtain⟨A,v,u,E,F,t,r⟩:=R;obtain⟨j2,j1,rfl⟩:=t.shape;obtain⟨z,y,rfl⟩:=r.shape
  rcases hn.out with⟨he,rfl⟩| ⟨he,rfl⟩
  ·have e1:Hid _:=HU.out he
   clear HU hn;have co:=E.c 0 rfl;have fv:=q0.c 2 rfl
   go_wp2_with fail
   refine(e1.out _ _ _ A t).mono ?_;rintro L fi ⟨it,rfl,d6,bl⟩;have a1:=E.l bl;have el:=F.l bl;have f0:=r.l bl;have e4:=aa A bl;obtain⟨no,G,H⟩:=d6.shape;subst H;clear E F q0 t r A bl e1 co fv;have J:=ag fi D 0 (yS no i G);have gs:au (fi.setCell ⟨D,0,none⟩ (yS no i G)) D 26 [yS no i G]:=(a1.set 0 (yS no i G));have hw:=a1.c 0 rfl;have jd:=a1.f 0;have gy:=J.loc el (by omega);have d4:=f0.setC (a1.c 0 rfl) (fun n=>by simp) (yS no i G)
   have h7:=d6.setC (a1.c 0 rfl) (fun n=>by simp) (yS no i G)
   have fp:=J.below e4 (by omega);clear J;clear a1 el f0 d6 e4
   go_wp2_with fail
   go_meet
   exact⟨fp,_,_,gs,gy,h7,d4⟩
  ·have e0:Hid _:=HD.out he
   have i0:=ca.out he;clear HD hn;have co:=q0.c 2 rfl
   go_wp2_with fail
   refine(e0.out _ A).mono ?_;rintro L fg ⟨ih,rfl,d5,bj⟩;have ek:=E.l bj;have a1:=F.l bj;have ez:=t.l bj;have e3:=aa A bj;obtain⟨z,y,H⟩:=d5.shape;subst H;clear E F q0 t r A bj e0 co;have J:=ag fg C 0 (yS z g y);have gr:au (fg.setCell ⟨C,0,none⟩ (yS z g y)) C 26 [yS z g y]:=(a1.set 0 (yS z g y));have hs:=a1.c 0 rfl;have jc:=a1.f 0;have gx:=J.loc ek (by omega);have h6:=ez.setC (a1.c 0 rfl) (fun n=>by simp) (yS z g y)
   have d4:=d5.setC (a1.c 0 rfl) (fun n=>by simp) (yS z g y)
   have fo:=J.below e3 (by omega);clear J;clear a1 ek ez d5 e3
   go_wp2_with fail
   go_meet
   exact⟨fo,_,_,gx,gr,h6,d4⟩
 case rest=>
  have R:=hcut;clear hcut q0 hn ca HU HD;obtain⟨A,v,u,E,F,t,r⟩:=R;obtain⟨no,G,rfl⟩:=t.shape;obtain⟨z,y,rfl⟩:=r.shape
  go_upto_region 5 with fail
  have b5:yB wc wc.drew:=(Below.refl _ _).drew;have cb:=E.l b5;have cc:=F.l b5;have cg:=t.l b5;have da:=r.l b5;have c2:=aa A b5;clear E F t r A b5;refine wp_region_held_drew (S:=fun wq=>au wq D 26 [yS no i G]∧au wq C 26 [yS z g y]) (by kernel_rfl) ⟨cb,cc⟩ (fun M=> ?_)
  generalize wc.drew=ho at cb cc cg da c2 M⊢;refine tq 0 (yS no i G) rfl (fun _ bt=>gU 26 (.tmp 6) rfl D 0 (by kernel_rfl) _ _ underlying26 rfl (bt.1.c 0 rfl)) M ?_
  refine tq 2 (yS z g y) rfl (fun _ bt=>gU 26 (.tmp 7) rfl C 0 (by kernel_rfl) _ _ underlying26 rfl (bt.2.c 0 rfl)) M ?_
  refine wpAnyH_ready (rs:=[1]) (by kernel_rfl) (by simp) ?_;refine AllReadyH.cons rfl (fun K d=> ?_) AllReadyH.nil
  go_simp
  refine(HL.out _ _ _ c2 cg).mono ?_;rintro L j3 ⟨rfl,b7⟩;have cy:=cb.l b7;have cz:=cc.l b7;have f3:=cg.l b7;have db:=da.l b7;have ck:=aa c2 b7;clear cb cc cg da c2 b7 HL;refine d.out _ _ ⟨cy,cz⟩ (fun g7=> ?_)
  clear d K;refine wpAnyH_ready (rs:=[3]) (by kernel_rfl) (by simp) ?_;refine AllReadyH.cons rfl (fun K d=> ?_) AllReadyH.nil
  go_simp
  refine(HM.out _ _ _ ck db).mono ?_;rintro L fj ⟨rfl,b8⟩;have d0:=cy.l b8;have d1:=cz.l b8;have f4:=f3.l b8;have f5:=db.l b8;have e5:=aa ck b8;clear cy cz f3 db ck b8 HM;refine d.out _ _ ⟨d0,d1⟩ (fun aw=> ?_)
  clear d K;refine tq 4 (yi q1) rfl (fun _ _=>by go_simp) aw ?_
  refine tq 5 (yi q2) rfl (fun _ _=>by go_simp) aw ?_
  refine tq 6 (yi q3) rfl (fun _ _=>by go_simp) aw ?_
  refine tq 7 (yi q4) rfl (fun _ _=>by go_simp) aw ?_
  refine tq 8 (yi p0) rfl (fun _ _=>by go_simp) aw ?_
  refine tq 9 (yi p0) rfl (fun _ _=>by kernel_rfl) aw ?_
  refine wpAnyH_done (by kernel_rfl) ?_ _;clear M g7 aw;simp only[Act.put,List.getElem_toArray,List.getElem_cons_succ,List.getElem_cons_zero,List.setIfInBounds_toArray,List.set_cons_zero,List.set_cons_succ];have hS:DgW w D C i g (fj):=⟨e5,_,_,d0,d1,f4,f5⟩;clear d0 d1 f4 f5 e5;generalize fj=aq at hS⊢
  go_wp2
  have bf:Hid (∀(p:Int),-6000≤p→p≤6000→ ∀(B:Bool),decide (P<p)=B→ ∀no G z y a,yB w a→a.rangeAt D 0 [yS no i G]→a.rangeAt C 0 [yS z g y]→Rd a .i64 (yS no i G) (Dg.dg 65536 i)→Rd a .i64 (yS z g y) (Dg.dg 65536 g)→yC 94 #[yi p,.pointer (some ⟨C,0,none⟩),.pointer (some ⟨D,0,none⟩)] a (yR a (.bool B))):=fun p h1 h2 B hB no G z y a g1 g2 g3 g4 g5=>by
   have:=HO.out p D C no G z y a h1 h2 g1 g2 g3 g4 g5
   rwa [hB] at this
  clear HO
  go_loopw [8] (fun pv wr=>DgA w D C i g P pv wr) (fun pv _=>(intOf pv-(P-3)).toNat)
  case atStart=>exact⟨p0,rfl,by omega,by omega,hS⟩
  case round=>
   clear hS;obtain⟨p,rfl,bd,ct,R⟩:=hrel;obtain⟨A,v,u,E,F,t,r⟩:=R;obtain⟨no,G,rfl⟩:=t.shape;obtain⟨z,y,rfl⟩:=r.shape
   by_cases bp:P<p
   ·have a5:Hid _:=bf.out p bd ct true (decide_eq_true bp)
    have ew:IntKind.i64.wrap (p-3)=p-3:=IntWalk.i64_in _ ⟨by omega,by omega⟩
    go_wp2_with fail
    refine(a5.out _ _ _ _ _ A E.range F.range t r).mono ?_;rintro L j4 ⟨rfl,b9⟩;have gz:=E.l b9;have h0:=F.l b9;have h8:=t.l b9;have h9:=r.l b9;have fr:=aa A b9;clear E F t r A b9 a5
    go_wp2
    go_roundw
    case rel=>exact⟨p-3,by go_num,by omega,by omega,fr,_,_,gz,h0,h8,h9⟩
    case measure=>simp[intOf];omega
   ·have a5:Hid _:=bf.out p bd ct false (decide_eq_false bp)
    go_wp2_with fail
    refine(a5.out _ _ _ _ _ A E.range F.range t r).mono ?_;rintro L fk ⟨rfl,ba⟩;have er:=E.l ba;have es:=F.l ba;have f7:=t.l ba;have f8:=r.l ba;have e7:=aa A ba;clear E F t r A ba a5;have bo:DgW w D C i g (fk):=⟨e7,_,_,er,es,f7,f8⟩;clear er es f7 f8 e7;generalize fk=aq at bo⊢
    go_wp2
    go_loopw [8] (fun pv wr=>DgB w D C i g P pv wr) (fun pv _=>(P-intOf pv).toNat)
    case atStart=>exact⟨p,rfl,bd,by omega,bo⟩
    case round=>
     clear bo bp bd ct;obtain⟨p,rfl,bd,gm,R⟩:=hrel;obtain⟨A,v,u,E,F,t,r⟩:=R;obtain⟨no,G,rfl⟩:=t.shape;obtain⟨z,y,rfl⟩:=r.shape
     by_cases bp:p<P
     ·have a5:Hid _:=bf.out (p+1) (by omega) (by omega) false (decide_eq_false (by omega))
      have ew:IntKind.i64.wrap (p+1)=p+1:=IntWalk.i64_in _ ⟨by omega,by omega⟩
      go_wp2_with fail
      refine(a5.out _ _ _ _ _ A E.range F.range t r).mono ?_;rintro L j5 ⟨rfl,bb⟩;have h4:=E.l bb;have h5:=F.l bb;have ha:=t.l bb;have hb:=r.l bb;have fs:=aa A bb;clear E F t r A bb a5
      go_wp2
      go_roundw
      case rel=>exact⟨p+1,by go_num,by omega,by omega,fs,_,_,h4,h5,ha,hb⟩
      case measure=>simp[intOf];omega
     ·obtain rfl:p=P:=by omega
      have a5:Hid _:=bf.out (p+1) (by omega) (by omega) true (decide_eq_true (by omega));have ew:IntKind.i64.wrap (p+1)=p+1:=IntWalk.i64_in _ ⟨by omega,by omega⟩
      go_wp2_with fail
      refine(a5.out _ _ _ _ _ A E.range F.range t r).mono ?_;rintro L fl ⟨rfl,bc⟩;have et:=E.l bc;have eu:=F.l bc;have f9:=t.l bc;have fa:=r.l bc;have e8:=aa A bc;clear E F t r A bc a5;have R:DgW w D C i g (fl):=⟨e8,_,_,et,eu,f9,fa⟩;clear et eu f9 fa e8;generalize fl=aq at R⊢;clear bf ew bp bd gm
      go_upto_if 56 with fail
      go_cut [] from 56 (fun wx=>DgW w D C n2 d2 wx)
      case first=>
       obtain⟨ed,ee⟩:=hB.out;obtain⟨A,v,u,E,F,t,r⟩:=R;obtain⟨no,G,rfl⟩:=t.shape;obtain⟨z,y,rfl⟩:=r.shape
       rcases hU.out with⟨hu,rfl,rfl,rfl⟩| ⟨hu,ie,rfl,rfl⟩
       ·clear hU
        go_upto_region 13 with fail
        have Y:yB aq aq.drew:=(Below.refl _ _).drew;have a2:=E.l Y;have a3:=F.l Y;have ac:=t.l Y;have ad:=r.l Y;have O:=aa A Y;clear E F t r A Y;refine wp_region_held_drew (S:=fun _=>True) (by kernel_rfl) trivial (fun M=> ?_)
        generalize aq.drew=fn at a2 a3 ac ad O M⊢;refine tq 1 (yi up) rfl (fun _ _=>by kernel_rfl) M ?_
        refine wpAnyH_ready (rs:=[0,2]) (by kernel_rfl) (by simp) ?_;refine AllReadyH.cons rfl (fun K d=> ?_) (AllReadyH.cons rfl (fun K d=> ?_) AllReadyH.nil)
        ·rw[if_pos (by kernel_rfl)]
         refine wp_yield (yS no i G) (gU 26 (.tmp 6) rfl D 0 (by kernel_rfl) _ _ underlying26 rfl (a2.c 0 rfl)) ?_;refine d.out _ _ trivial (fun cp=> ?_)
         clear d K;refine wpAnyH_ready (rs:=[2]) (by kernel_rfl) (by simp) ?_;refine AllReadyH.cons rfl (fun K d=> ?_) AllReadyH.nil
         go_simp
         refine(HP.out _ O).mono ?_;rintro L hg ⟨hd,rfl,b1,a0⟩;have a4:=a2.l a0;have bv:=a3.l a0;have ae:=ac.l a0;have c0:=ad.l a0;have av:=aa O a0;obtain⟨ko,kc,H⟩:=b1.shape;subst H;clear a2 a3 ac ad O a0 HP;refine d.out _ _ trivial (fun ax=> ?_)
         clear d K;refine wpAnyH_ready (rs:=[3]) (by kernel_rfl) (by simp) ?_;refine AllReadyH.cons rfl (fun K d=> ?_) AllReadyH.nil
         go_simp
         refine(HT.out i _ _ _ _ _ ed av ae b1).mono ?_;rintro L N ⟨dv,rfl,X,I⟩;have U:=a4.l I;have W:=bv.l I;have al:=c0.l I;have a6:=aa av I;obtain⟨o,j,H⟩:=X.shape;subst H;clear a4 bv ae c0 b1 av I HT;refine d.out _ _ trivial (fun ay=> ?_)
         clear d K;refine wpAnyH_ready (rs:=[4]) (by kernel_rfl) (by simp) ?_;refine AllReadyH.cons rfl (fun K d=> ?_) AllReadyH.nil
         have Q:=U.c 0 rfl;have b3:=U.f 0;have J:=ag N D 0 (.slice o (Dg.dg 65536 (i*T)).length j);have a9:au (N.setCell ⟨D,0,none⟩ (.slice o (Dg.dg 65536 (i*T)).length j)) D 26 [.slice o (Dg.dg 65536 (i*T)).length j]:=U.set 0 (.slice o (Dg.dg 65536 (i*T)).length j);have an:=al.setC Q (fun n=>by simp) (.slice o (Dg.dg 65536 (i*T)).length j)
         have ao:=X.setC Q (fun n=>by simp) (.slice o (Dg.dg 65536 (i*T)).length j)
         have ab:=J.loc W (by omega);have a7:=J.below a6 (by omega)
         go_simp
         refine d.out _ _ trivial (fun az=> ?_)
         clear d K;clear U Q b3 al X W a6 J;refine wpAnyH_done (by kernel_rfl) ?_ _;clear M cp ax ay az;change Exit.then _ _ _ _ (World.setCell N ⟨D,0,none⟩ (.slice o (Dg.dg 65536 (i*T)).length j));generalize World.setCell N ⟨D,0,none⟩ (.slice o (Dg.dg 65536 (i*T)).length j)=ch at a9 ab an ao a7⊢
         try simp only[Act.put,List.getElem_toArray,List.getElem_cons_succ,List.getElem_cons_zero]
         go_wp2_with fail
         go_meet
         exact⟨a7,_,_,a9,ab,ao,an⟩
        ·go_simp
         refine(HP.out _ O).mono ?_;rintro L hf ⟨hc,rfl,b0,Z⟩;have be:=a2.l Z;have a4:=a3.l Z;have bx:=ac.l Z;have ae:=ad.l Z;have ar:=aa O Z;obtain⟨ko,kc,H⟩:=b0.shape;subst H;clear a2 a3 ac ad O Z HP;refine d.out _ _ trivial (fun cr=> ?_)
         clear d K;refine wpAnyH_ready (rs:=[0]) (by kernel_rfl) (by simp) ?_;refine AllReadyH.cons rfl (fun K d=> ?_) AllReadyH.nil
         rw[if_pos (by kernel_rfl)];refine wp_yield (yS no i G) (gU 26 (.tmp 6) rfl D 0 (by kernel_rfl) _ _ underlying26 rfl (be.c 0 rfl)) ?_;refine d.out _ _ trivial (fun ax=> ?_)
         clear d K;refine wpAnyH_ready (rs:=[3]) (by kernel_rfl) (by simp) ?_;refine AllReadyH.cons rfl (fun K d=> ?_) AllReadyH.nil
         go_simp
         refine(HT.out i _ _ _ _ _ ed ar bx b0).mono ?_;rintro L N ⟨dv,rfl,X,I⟩;have U:=be.l I;have W:=a4.l I;have al:=ae.l I;have a6:=aa ar I;obtain⟨o,j,H⟩:=X.shape;subst H;clear be a4 bx ae b0 ar I HT;refine d.out _ _ trivial (fun ay=> ?_)
         clear d K;refine wpAnyH_ready (rs:=[4]) (by kernel_rfl) (by simp) ?_;refine AllReadyH.cons rfl (fun K d=> ?_) AllReadyH.nil
         have Q:=U.c 0 rfl;have b3:=U.f 0;have J:=ag N D 0 (.slice o (Dg.dg 65536 (i*T)).length j);have a9:au (N.setCell ⟨D,0,none⟩ (.slice o (Dg.dg 65536 (i*T)).length j)) D 26 [.slice o (Dg.dg 65536 (i*T)).length j]:=U.set 0 (.slice o (Dg.dg 65536 (i*T)).length j);have an:=al.setC Q (fun n=>by simp) (.slice o (Dg.dg 65536 (i*T)).length j)
         have ao:=X.setC Q (fun n=>by simp) (.slice o (Dg.dg 65536 (i*T)).length j)
         have ab:=J.loc W (by omega);have a7:=J.below a6 (by omega)
         go_simp
         refine d.out _ _ trivial (fun az=> ?_)
         clear d K;clear U Q b3 al X W a6 J;refine wpAnyH_done (by kernel_rfl) ?_ _;clear M cr ax ay az;change Exit.then _ _ _ _ (World.setCell N ⟨D,0,none⟩ (.slice o (Dg.dg 65536 (i*T)).length j));generalize World.setCell N ⟨D,0,none⟩ (.slice o (Dg.dg 65536 (i*T)).length j)=ch at a9 ab an ao a7⊢
         try simp only[Act.put,List.getElem_toArray,List.getElem_cons_succ,List.getElem_cons_zero]
         go_wp2_with fail
         go_meet
         exact⟨a7,_,_,a9,ab,ao,an⟩
       ·clear hU
        go_upto_region 14 with fail
        have Y:yB aq aq.drew:=(Below.refl _ _).drew;have a2:=E.l Y;have a3:=F.l Y;have ac:=t.l Y;have ad:=r.l Y;have O:=aa A Y;clear E F t r A Y;refine wp_region_held_drew (S:=fun _=>True) (by kernel_rfl) trivial (fun M=> ?_)
        generalize aq.drew=fn at a2 a3 ac ad O M⊢;refine tq 1 (yi up) rfl (fun _ _=>by kernel_rfl) M ?_
        refine tq 2 (yi ua) rfl (fun _ _=>by go_simp) M ?_
        refine wpAnyH_ready (rs:=[0,3]) (by kernel_rfl) (by simp) ?_;refine AllReadyH.cons rfl (fun K d=> ?_) (AllReadyH.cons rfl (fun K d=> ?_) AllReadyH.nil)
        ·rw[if_pos (by kernel_rfl)]
         refine wp_yield (yS z g y) (gU 26 (.tmp 7) rfl C 0 (by kernel_rfl) _ _ underlying26 rfl (a3.c 0 rfl)) ?_;refine d.out _ _ trivial (fun cp=> ?_)
         clear d K;refine wpAnyH_ready (rs:=[3]) (by kernel_rfl) (by simp) ?_;refine AllReadyH.cons rfl (fun K d=> ?_) AllReadyH.nil
         go_simp
         refine(HP.out _ O).mono ?_;rintro L hg ⟨hd,rfl,b1,a0⟩;have a4:=a2.l a0;have bv:=a3.l a0;have ae:=ac.l a0;have c0:=ad.l a0;have av:=aa O a0;obtain⟨ko,kc,H⟩:=b1.shape;subst H;clear a2 a3 ac ad O a0 HP;refine d.out _ _ trivial (fun ax=> ?_)
         clear d K;refine wpAnyH_ready (rs:=[4]) (by kernel_rfl) (by simp) ?_;refine AllReadyH.cons rfl (fun K d=> ?_) AllReadyH.nil
         go_simp
         refine(HT.out g _ _ _ _ _ ee av c0 b1).mono ?_;rintro L N ⟨dv,rfl,X,I⟩;have U:=a4.l I;have W:=bv.l I;have al:=ae.l I;have a6:=aa av I;obtain⟨o,j,H⟩:=X.shape;subst H;clear a4 bv ae c0 b1 av I HT;refine d.out _ _ trivial (fun ay=> ?_)
         clear d K;refine wpAnyH_ready (rs:=[5]) (by kernel_rfl) (by simp) ?_;refine AllReadyH.cons rfl (fun K d=> ?_) AllReadyH.nil
         have Q:=W.c 0 rfl;have b3:=W.f 0;have J:=ag N C 0 (.slice o (Dg.dg 65536 (g*T)).length j);have a9:au (N.setCell ⟨C,0,none⟩ (.slice o (Dg.dg 65536 (g*T)).length j)) C 26 [.slice o (Dg.dg 65536 (g*T)).length j]:=W.set 0 (.slice o (Dg.dg 65536 (g*T)).length j);have an:=al.setC Q (fun n=>by simp) (.slice o (Dg.dg 65536 (g*T)).length j)
         have ao:=X.setC Q (fun n=>by simp) (.slice o (Dg.dg 65536 (g*T)).length j)
         have ab:=J.loc U (by omega);have a7:=J.below a6 (by omega)
         go_simp
         refine d.out _ _ trivial (fun az=> ?_)
         clear d K;clear W Q b3 al X U a6 J;refine wpAnyH_done (by kernel_rfl) ?_ _;clear M cp ax ay az;change Exit.then _ _ _ _ (World.setCell N ⟨C,0,none⟩ (.slice o (Dg.dg 65536 (g*T)).length j));generalize World.setCell N ⟨C,0,none⟩ (.slice o (Dg.dg 65536 (g*T)).length j)=ch at ab a9 an ao a7⊢
         try simp only[Act.put,List.getElem_toArray,List.getElem_cons_succ,List.getElem_cons_zero]
         go_wp2_with fail
         go_meet
         exact⟨a7,_,_,ab,a9,an,ao⟩
        ·go_simp
         refine(HP.out _ O).mono ?_;rintro L hf ⟨hc,rfl,b0,Z⟩;have be:=a2.l Z;have a4:=a3.l Z;have bx:=ac.l Z;have ae:=ad.l Z;have ar:=aa O Z;obtain⟨ko,kc,H⟩:=b0.shape;subst H;clear a2 a3 ac ad O Z HP;refine d.out _ _ trivial (fun cr=> ?_)
         clear d K;refine wpAnyH_ready (rs:=[0]) (by kernel_rfl) (by simp) ?_;refine AllReadyH.cons rfl (fun K d=> ?_) AllReadyH.nil
         rw[if_pos (by kernel_rfl)];refine wp_yield (yS z g y) (gU 26 (.tmp 7) rfl C 0 (by kernel_rfl) _ _ underlying26 rfl (a4.c 0 rfl)) ?_;refine d.out _ _ trivial (fun ax=> ?_)
         clear d K;refine wpAnyH_ready (rs:=[4]) (by kernel_rfl) (by simp) ?_;refine AllReadyH.cons rfl (fun K d=> ?_) AllReadyH.nil
         go_simp
         refine(HT.out g _ _ _ _ _ ee ar ae b0).mono ?_;rintro L N ⟨dv,rfl,X,I⟩;have U:=be.l I;have W:=a4.l I;have al:=bx.l I;have a6:=aa ar I;obtain⟨o,j,H⟩:=X.shape;subst H;clear be a4 bx ae b0 ar I HT;refine d.out _ _ trivial (fun ay=> ?_)
         clear d K;refine wpAnyH_ready (rs:=[5]) (by kernel_rfl) (by simp) ?_;refine AllReadyH.cons rfl (fun K d=> ?_) AllReadyH.nil
         have Q:=W.c 0 rfl;have b3:=W.f 0;have J:=ag N C 0 (.slice o (Dg.dg 65536 (g*T)).length j);have a9:au (N.setCell ⟨C,0,none⟩ (.slice o (Dg.dg 65536 (g*T)).length j)) C 26 [.slice o (Dg.dg 65536 (g*T)).length j]:=W.set 0 (.slice o (Dg.dg 65536 (g*T)).length j);have an:=al.setC Q (fun n=>by simp) (.slice o (Dg.dg 65536 (g*T)).length j)
         have ao:=X.setC Q (fun n=>by simp) (.slice o (Dg.dg 65536 (g*T)).length j)
         have ab:=J.loc U (by omega);have a7:=J.below a6 (by omega)
         go_simp
         refine d.out _ _ trivial (fun az=> ?_)
         clear d K;clear W Q b3 al X U a6 J;refine wpAnyH_done (by kernel_rfl) ?_ _;clear M cr ax ay az;change Exit.then _ _ _ _ (World.setCell N ⟨C,0,none⟩ (.slice o (Dg.dg 65536 (g*T)).length j));generalize World.setCell N ⟨C,0,none⟩ (.slice o (Dg.dg 65536 (g*T)).length j)=ch at ab a9 an ao a7⊢
         try simp only[Act.put,List.getElem_toArray,List.getElem_cons_succ,List.getElem_cons_zero]
         go_wp2_with fail
         go_meet
         exact⟨a7,_,_,ab,a9,an,ao⟩
      case rest=>
       have R:=hcut;clear hcut hU HP HT hB;obtain⟨A,v,u,E,F,t,r⟩:=R;obtain⟨no,G,rfl⟩:=t.shape;obtain⟨z,y,rfl⟩:=r.shape;have fx:=E.c 0 rfl;have g6:=F.c 0 rfl
       go_wp2_with fail
       refine(HI.out _ _ _ _ _ A t r).mono ?_;rintro L dy ⟨iv,j0,rfl,d7,dc,c5⟩;have ev:=F.l c5;have fb:=r.l c5;have e9:=aa A c5;obtain⟨go,gc,H⟩:=d7.shape;subst H;obtain⟨ro,rc,H⟩:=dc.shape;subst H;clear E F t r A c5 HI fx g6
       go_upto_region 16 with fail
       have b6:yB dy dy.drew:=(Below.refl _ _).drew;have bw:=ev.l b6;have dd:=fb.l b6;have dn:=d7.l b6;have dp:=dc.l b6;have c3:=aa e9 b6;clear ev fb d7 dc e9 b6;refine wp_region_held_drew (S:=fun wq=>au wq C 26 [yS z d2 y]) (by kernel_rfl) bw (fun M=> ?_)
       generalize dy.drew=bh at bw dd dn dp c3 M⊢;refine tq 0 (yS ro rR rc) rfl (fun _ _=>by kernel_rfl) M ?_
       refine tq 3 (yS z d2 y) rfl (fun _ bt=>gU 26 (.tmp 7) rfl C 0 (by kernel_rfl) _ _ underlying26 rfl (bt.c 0 rfl)) M ?_
       refine wpAnyH_ready (rs:=[1]) (by kernel_rfl) (by simp) ?_;refine AllReadyH.cons rfl (fun K d=> ?_) AllReadyH.nil
       go_simp
       have b4:=af bh (.cells #[yi 2] 3);have cd:=ah bh [yi 2] 3;have gi:w.heap.size≤bh.heap.size:=c3.size;have gl:=bw.lt;have ce:=bw.l b4;have dq:=dd.l b4;have ds:=dn.l b4;have dt:=dp.l b4;have c4:=aa c3 b4;refine d.out _ _ ce (fun ef=> ?_)
       clear d K;clear bw dd dn dp c3 b4;generalize bh.alloc (.cells #[yi 2] 3)=hq at ce cd dq ds dt c4 ef⊢;generalize bh.heap.size=hl at cd gi gl⊢;refine wpAnyH_ready (rs:=[2]) (by kernel_rfl) (by simp) ?_;refine AllReadyH.cons rfl (fun K d=> ?_) AllReadyH.nil
       go_simp
       refine(HR.out _ _ _ _ c4 dt cd).mono ?_;rintro L j6 ⟨iw,rfl,d9,bm⟩;have d3:=ce.l bm;have fc:=dq.l bm;have fd:=ds.l bm;have cl:=aa c4 bm;obtain⟨so,sc,H⟩:=d9.shape;subst H;clear ce cd dq ds dt c4 bm HR;refine d.out _ _ d3 (fun g8=> ?_)
       clear d K;refine wpAnyH_ready (rs:=[4]) (by kernel_rfl) (by simp) ?_;refine AllReadyH.cons rfl (fun K d=> ?_) AllReadyH.nil
       go_simp
       refine(HC.out _ _ _ _ _ cl d9 fc).mono ?_;rintro L hh ⟨rfl,c7⟩;have ex:=d3.l c7;have fe:=fd.l c7;have ea:=aa cl c7;clear d3 fc fd d9 cl c7 HC;refine d.out _ _ ex (fun eg=> ?_)
       clear d K;refine tq 5 (yi c) rfl (fun _ _=>by kernel_rfl) eg ?_
       refine wpAnyH_done (by kernel_rfl) ?_ _;clear M ef g8 eg;simp only[Act.put,List.getElem_toArray,List.getElem_cons_succ,List.getElem_cons_zero,List.setIfInBounds_toArray,List.set_cons_zero,List.set_cons_succ];have rg:=fe;have bg:=ea;clear ex fe ea;generalize hh=hj at rg bg⊢;obtain⟨rb,a8⟩: ∃rb:Bool,(rb=true∧q=dQ+1)∨(rb=false∧q=dQ):=by
        rcases hr.out with⟨-,h⟩| ⟨-,-,h⟩| ⟨-,-,h⟩| ⟨-,h⟩
        ·exact⟨true,.inl ⟨rfl,h⟩⟩
        ·exact⟨true,.inl ⟨rfl,h⟩⟩
        ·exact⟨false,.inr ⟨rfl,h⟩⟩
        ·exact⟨false,.inr ⟨rfl,h⟩⟩
       replace a8:Hid _:=a8
       go_upto_region 17 with fail
       go_cut [89] (fun v wx=>wx=hj∧v= .bool rb)
       case first=>
        obtain⟨g0,g1,g2⟩:=iQ rg;have cs:0< (Dg.dg 65536 dQ).length:=by
         rcases Nat.eq_zero_or_pos (Dg.dg 65536 dQ).length with h|h
         ·exact absurd ((Dg.dg_nil_iff 65536 _ (by omega)).1 (List.length_eq_zero_iff.1 h)) g9
         ·exact h
        obtain⟨gb,gf,rfl,ej⟩:=g2 cs;have ei:=ej 0 cs;rw[Sb 65536 dQ (by omega),Nat.add_zero] at ei;have i2:(0:Int)< ((Dg.dg 65536 dQ).length:Int):=by omega
        obtain⟨m,hm⟩: ∃m,dQ % 65536=m:=⟨_,rfl⟩;have bs:m % 2=dQ % 2:=by omega
        have i4:m<65536:=by omega
        rw[hm] at ei;have ht:(m:Int).tmod 2=((m % 2:Nat):Int):=by
         rw[Int.tmod_eq_emod_of_nonneg (by omega)];omega
        rw[bs] at ht;clear ej g0 g1 g2 hm cs rg;have ap:=a8.out
        rcases hr.out with⟨h1,h2⟩| ⟨rfl,h2,h3⟩| ⟨rfl,h2,h3⟩| ⟨h1,h2⟩
        ·obtain rfl:rb=true:=by rcases ap with h|h;exact h.1;exact absurd (h.2.symm.trans h2) (by omega)
         clear hr a8 ap ht bs h2
         go_wp2_with fail
         go_meet
         exact⟨rfl,rfl⟩
        ·obtain rfl:rb=true:=by rcases ap with h|h;exact h.1;exact absurd (h.2.symm.trans h3) (by omega)
         rw[h2] at ht;have gp:(m:Int).tmod 2=1:=ht;have gq:IntKind.i64.wrap 1=1:=by decide
         clear hr a8 ap ht bs h2 h3
         go_wp2_with fail
         go_meet
         exact⟨rfl,rfl⟩
        ·obtain rfl:rb=false:=by rcases ap with h|h;exact absurd (h.2.symm.trans h3) (by omega);exact h.1
         rw[h2] at ht;have gp:(m:Int).tmod 2=0:=ht;have gq:IntKind.i64.wrap 0=0:=by decide
         clear hr a8 ap ht bs h2 h3
         go_wp2_with fail
         go_meet
         exact⟨rfl,rfl⟩
        ·obtain rfl:rb=false:=by rcases ap with h|h;exact absurd (h.2.symm.trans h2) (by omega);exact h.1
         have hx: ¬0<c:=by omega
         have hy:(c==0)=false:=by rw[beq_eq_false_iff_ne];omega
         clear hr a8 ap ht bs h2
         go_wp2_with fail
         go_meet
         exact⟨rfl,rfl⟩
       case rest=>
        obtain⟨rfl,rfl⟩:=hcut
        go_upto_if 89 with fail
        go_cut [11] from 89 (fun gv wx=>yB w wx∧Rd wx .i64 gv (Dg.dg 65536 q))
        case first=>
         rcases a8.out with⟨rfl,rfl⟩| ⟨rfl,rfl⟩
         ·clear hr a8
          have ci:=af wc (.cells #[yi 1] 3);have ey:=ah wc [yi 1] 3;have ff:=rg.l ci;have cm:=aa bg ci
          go_wp2_with fail
          refine(HA.out _ _ _ _ cm ff ey).mono ?_;rintro L jb ⟨iz,rfl,f2,eb⟩;have ft:=aa cm eb;obtain⟨eo,ec,H⟩:=f2.shape;subst H;clear ey ff cm eb HA rg bg ci
          go_wp2_with fail
          go_meet
          exact⟨ft,f2⟩
         ·clear hr a8
          go_wp2_with fail
          go_meet
          exact⟨bg,rg⟩
        case rest=>
         obtain⟨bq,rq⟩:=hcut;obtain⟨go,gc,rfl⟩:=rq.shape;clear bg rg hr a8 HA;obtain⟨hz,bo⟩:=hS.out;clear hS
         rcases bo with⟨h1,rfl,rfl⟩| ⟨h1,rfl,rfl⟩
         ·have ew:IntKind.i64.wrap (p+1)=p+1:=IntWalk.i64_in _ ⟨by omega,by omega⟩
          go_wp2_with fail
          refine(HS.out _ _ _ bq rq).mono ?_;rintro L hi ⟨rfl,bn⟩;have cn:=aa bq bn;clear rq bq bn HS
          go_wp2
          go_ret2
          exact⟨rfl,cn⟩
         ·go_wp2_with fail
          refine(HS.out _ _ _ bq rq).mono ?_;rintro L hi ⟨rfl,bn⟩;have cn:=aa bq bn;clear rq bq bn HS
          go_wp2
          go_ret2
          exact⟨rfl,cn⟩
end Go.Proofs.YtlhkndcmbpcpgaaGreatDoor
