/- Texts laid together. -/
import Derived.Test.YtlhkndcmbpcpgaaGreatDoorXs02
import Derived.Test.YtlhkndcmbpcpgaaGreatDoorXs03
set_option maxRecDepth 100000
set_option maxHeartbeats 12800000
namespace Go.Proofs.YtlhkndcmbpcpgaaGreatDoor
open _root_.Go.Proofs.Tryz
open Go.RowKit
theorem vO (Q:Value)(xs:List Nat)(n a d P:Nat)(w:World)(X:Rd w .u32 Q xs)(sa:Dg.Small 4294967296 xs)(a8:xs.length≤1000000)(F:n=32*a+d)(I:d<32)(z:P=2^d)(a9:n≤1000000)(G:xs≠[]):
  yC 85 #[Q,yi n] w (Num w (Dg.vl 4294967296 xs*2^n)):=by
 obtain⟨ao,ca,rfl,-,-,A⟩:=X;obtain⟨i0,Y,a1,a2,a3⟩:=info_parts Tryz.infoU32;have a7:0<xs.length:=List.length_pos_iff.2 G;have a5:((xs.length:Int)==0)=false:=by simp;exact G
 have hq:(n:Int)/32=(a:Int):=by omega
 have hr:(n:Int) % 32=(d:Int):=by omega
 have o:Hid _:=F;have i:Hid _:=z;clear F z
 go_enter func85,ntmps85
 go_wp2_with (at_make;refine wpList_make_full _ rfl _ _ 47 rfl w.heap.size 105 i0 (.int .u32 0) 1 underlying47 Y a1 a2 _ _ _ _ (xs.length+a+1) rfl rfl (by omega) (by omega) ?b2 ?b3 (Nat.le_refl _) ?_)
 case b2=>rw[a3];have:=o.out;omega
 case b3=>unfold maxLen;have:=o.out;omega
 intro w0 H C;have O:=gL H;have y:yB w w0:=(Below.refl _ _).grown C (Nat.le_refl _) (fun k h=>by cases h)
 have ac:a≤1000000:=by have:=o.out;omega
 clear H C
 go_wp2
 go_loopw [25] (fun v wr=> ∃(k:Nat) (g:List Nat),k≤xs.length∧v=yi k∧Own wr w.heap.size 105 .u32 (.slice (some ⟨w.heap.size,0,none⟩) (xs.length+a+1) (xs.length+a+1)) g∧KM xs g a P k∧yB w wr) (fun v _=>xs.length-(intOf v).toNat)
 case atStart=>exact⟨0,_,Nat.zero_le _,rfl,O,Nz xs a P (by rw[i.out];exact Nat.pow_pos (by omega)),y⟩
 case round=>
  clear O y;obtain⟨k,g,hk,rfl,own,j,p⟩:=hrel;have s:=j.1
  by_cases D:k<xs.length
  ·obtain⟨b,ad,rfl,B⟩:=A (by omega)
   have hx:=cell_later p (B k D);have N:=sa k;have hu:=own.c (a+k) (by omega);have hf:=own.f (a+k);have a6:=own.f (a+k+1);have ab:=own.c (a+k+1) (by omega);have L:=j.2.2.2.1;obtain⟨x,r⟩: ∃x,xs.getD k 0=x:=⟨_,rfl⟩;rw[r] at hx N;obtain⟨u,q⟩: ∃u,g.getD (a+k) 0=u:=⟨_,rfl⟩;rw[q] at hu L;have a4:Hid _:=s;have T:Hid _:=r;have R:Hid _:=q;clear r q B A s
   go_wp2
   go_region
   all_goals go_wp2
   all_goals go_roundw
   case rel=>
    have U:=Y7 u x d I (by rw[←i.out];exact L);have W:=Vg x d I;rw[U,W,←i.out];have J:=QJ j D T.out N ⟨2^ (32-d),by rw[i.out,←Nat.pow_add,show d+(32-d)=32 from by omega]⟩ (by omega)
    rw[R.out] at J;exact⟨k+1,_,by omega,by go_num,Own.l ((own.store (a+k) _).store (a+k+1) _) (Below.drew (Below.refl _ _)),J,((p.setCell (by exact Nat.le_refl _) _).setCell (by exact Nat.le_refl _) _).drew⟩
   case measure=>simp[intOf];omega
  ·have Z:k=xs.length:=by omega
   subst Z;have a0:=j.2.1;have t:=j.2.2.2.2;rw[List.take_of_length_le (Nat.le_refl _)] at t;have M:Dg.vl 4294967296 g=Dg.vl 4294967296 xs*2^n:=by
    rw[t,i.out,o.out,Nat.pow_add,Nat.pow_mul,Nat.mul_left_comm]
   have S:Hid _:=M;clear s t M
   go_wp2_with fail
   refine(jD _ _ _ g _ own.rd).mono ?_;rintro e w' ⟨m,rfl,E,rfl⟩;have K:=jW 4294967296 (by omega) own a0 E;rw[S.out] at K;clear E
   go_wp2
   go_ret
   exact⟨_,rfl,K,p⟩
theorem Y8 (P Q:Nat)(b:0<P)(l:List Nat):Dg.vl (P*Q) (low P Q l)=Dg.vl (P*Q) l/P:=by
 induction l with
 |nil=>simp[low,Dg.vl]
 |cons y l ih=>
  simp only[low,Dg.vl,ih];rw[Vh P Q l];have a:(y+P*Q*Dg.vl (P*Q) l)/P=y/P+Q*Dg.vl (P*Q) l:=by
   rw[Nat.mul_assoc,Nat.add_mul_div_left _ _ b]
  rw[a];generalize Dg.vl (P*Q) l=V;have c:V % P*Q+P*Q*(V/P)=Q*V:=by
   have:=Nat.mod_add_div V P
   calc V % P*Q+P*Q*(V/P)=Q*(V % P+P*(V/P)):=by rw[Nat.mul_add,Nat.mul_comm (V % P),Nat.mul_comm P Q,Nat.mul_assoc]
    _=Q*V:=by rw[this]
  omega
theorem abL {xs b:List Nat}{a P Q:Nat}(h:abK xs b a P Q (xs.length-a))(g:a≤xs.length)(c:P*Q=4294967296)(i:Dg.Small 4294967296 xs):
  Dg.Small 4294967296 b∧Dg.vl 4294967296 b=Dg.vl 4294967296 xs/(4294967296^a*P):=by
 have k:0<P:=by
  rcases Nat.eq_zero_or_pos P with e|e
  ·subst e;simp at c
  ·exact e
 have l:b=low P Q (xs.drop a):=by
  apply Dg.eq_of_all
  ·rw[mA,h.1];simp
  ·intro j
   rw[h.2 j]
   by_cases d:j<xs.length-a
   ·rw[if_pos d,Gb P Q _ j (by simpa using d),ui,ui,Nat.add_assoc]
   ·rw[if_neg d,Dg.getD_of_le _ _ (by rw[mA];simp;omega)]
 refine⟨fun j=> ?_, ?_⟩
 ·rw[h.2 j]
  split
  ·exact(I7 c (i _)).2
  ·omega
 ·rw[l,←c,Y8 P Q k,c,←Nat.div_div_eq_div_mul]
  congr 1
  have m:=Dg.vl_take_drop 4294967296 xs a g;have f:=Dg.vl_lt 4294967296 (xs.take a) (Dg.small_take i _ (by omega));rw[List.length_take,Nat.min_eq_left g] at f;rw[m,Nat.add_comm,Nat.mul_add_div (Nat.pow_pos (by omega)),Nat.div_eq_of_lt f,Nat.add_zero]
theorem Qj {xs a b:List Nat}{i k c:Nat}(h:M5 xs a b i k c)(v:Dg.Small 65536 xs)(w:Dg.Small 65536 a)(B:i<xs.length)(C:k<a.length∨0<c)(t:Nat)(l:t=b.getD (i+k) 0+c+xs.getD i 0*a.getD k 0):
  M5 xs a (b.set (i+k) (t % 65536)) i (k+1) (t/65536):=by
 obtain⟨m,f,x,n,g,o,y,z⟩:=h;have D:k≤a.length:=by
  rcases Nat.lt_or_ge a.length k with e|e
  ·have:=o e;omega
  ·exact e
 have d:i+k<b.length:=by omega
 have F:=f (i+k);have H:=C8 (v i) (w k);refine⟨by simpa using m,Dg.small_set f _ _ (Nat.mod_lt _ (by omega)),by omega,fun j q=> ?_,fun r=> ?_,fun r=> ?_,by omega, ?_⟩
 ·rw[Dg.getD_set _ _ _ _ d,if_neg (by omega)];exact n j q
 ·rw[Dg.getD_set _ _ _ _ d,if_neg (by omega)];exact g (by omega)
 ·have s:k=a.length:=by omega
  subst s;rw[g (Nat.le_refl _),Dg.getD_of_le a _ (Nat.le_refl _)] at l;omega
 ·have G:=Dg.vl_set 65536 b (i+k) (t % 65536) d
  rw[iV];have u:65536^ (i+(k+1))*(t/65536)=65536^ (i+k)*(65536*(t/65536)):=by
   rw[show i+(k+1)=(i+k)+1 from by omega,Nat.pow_succ,Nat.mul_assoc]
  have E:65536^ (i+k)*t=65536^ (i+k)*(t % 65536)+65536^ (i+k)*(65536*(t/65536)):=by
   rw[←Nat.mul_add,Nat.mod_add_div]
  have A:65536^ (i+k)*t=65536^ (i+k)*b.getD (i+k) 0+65536^ (i+k)*c+65536^ (i+k)*(xs.getD i 0*a.getD k 0):=by
   rw[l,Nat.mul_add,Nat.mul_add]
  have p:65536^i*(xs.getD i 0*(Dg.vl 65536 (a.take k)+65536^k*a.getD k 0))=65536^i*(xs.getD i 0*Dg.vl 65536 (a.take k))+65536^ (i+k)*(xs.getD i 0*a.getD k 0):=by
   rw[Nat.mul_add,Nat.mul_add,Nat.pow_add]
   congr 1
   rw[Nat.mul_assoc,Nat.mul_left_comm (xs.getD i 0)]
  rw[u,p];omega
theorem fN (Y Z:Value)(xs a:List Nat)(w:World)(ha:Rd w .i64 Y xs)(hb:Rd w .i64 Z a)(W:Dg.Small 65536 xs)(X:Dg.Small 65536 a)(ad:xs.length≤1000000)(ae:a.length≤1000000):
  yC 52 #[Y,Z] w (cG w (Dg.vl 65536 xs*Dg.vl 65536 a)):=by
 obtain⟨i0,hi,a2,a3,a4⟩:=info_parts Tryz.infoI64;obtain⟨ao,ca,rfl,-,-,I⟩:=ha;obtain⟨bo,cb,rfl,-,-,J⟩:=hb
 go_enter func52,ntmps52
 go_wp2_with (at_make;refine wpList_make_full _ rfl _ _ 26 rfl w.heap.size 3 i0 (yi 0) 1 underlying26 hi a2 a3 _ _ _ _ (xs.length+a.length) rfl rfl (by omega) (by omega) ?E ?b3 (Nat.le_refl _) ?_)
 case E=>rw[a4];omega
 case b3=>unfold maxLen;omega
 intro w0 P M;have U:=gL P;have F:yB w w0:=(Below.refl _ _).grown M (Nat.le_refl _) (fun k h=>by cases h)
 clear P M
 go_wp2
 go_loopw [6] (fun C wr=> ∃(i:Nat) (d:List Nat),i≤xs.length∧C=yi i∧Own wr w.heap.size 3 .i64 (.slice (some ⟨w.heap.size,0,none⟩) (xs.length+a.length) (xs.length+a.length)) d∧Sv xs a d i∧yB w wr)
  (fun C _=>xs.length-(intOf C).toNat)
 case atStart=>exact⟨0,_,Nat.zero_le _,rfl,U,M6 xs a,F⟩
 case round=>
  obtain⟨i,d,a9,rfl,own,o,g⟩:=hrel
  by_cases z:i<xs.length
  ·obtain⟨b,r,rfl,L⟩:=I (by omega)
   have K:=L i z;have S:=W i;obtain⟨x,u⟩: ∃x,xs.getD i 0=x:=⟨_,rfl⟩;rw[u] at K S;have Hx:Hid _:=u;clear u L I U F
   go_wp2
   go_loopw [7,8] (fun cv D wr=> ∃(k c:Nat) (d:List Nat),D=yi k∧cv=yi c∧Own wr w.heap.size 3 .i64 (.slice (some ⟨w.heap.size,0,none⟩) (xs.length+a.length) (xs.length+a.length)) d∧M5 xs a d i k c∧yB w wr)
    (fun _ D _=>a.length+2-(intOf D).toNat)
   case atStart=>exact⟨0,0,d,rfl,rfl,own,M7 o,g⟩
   case round=>
    clear own o g d;obtain⟨k,c,d,rfl,rfl,own,n,g⟩:=hrel;have Q:=n.1;have a7:=n.2.2.1;have N:=n.2.2.2.2.2.1;have ab:=n.2.2.2.2.2.2.1
    by_cases q:k<a.length∨0<c
    ·have ac:k≤a.length:=by
      rcases Nat.lt_or_ge a.length k with e|e
      ·have:=N e;omega
      ·exact e
     have hp:=own.c (i+k) (by omega);have A:=n.2.1 (i+k);have a8:=own.f (i+k);have j:=Qj n W X z q _ rfl;have T:=X k;have t: ¬k<a.length→a.getD k 0=0:=fun h=>Dg.getD_of_le _ _ (by omega)
     have al:=cell_later g K;have s:k<a.length→ ∃b r,bo=some ⟨b,r,none⟩∧wr.cell? ⟨b,r+k,none⟩=some (yi ((a.getD k 0:Nat):Int)):=fun h=>by
      obtain⟨b,r,e,a0⟩:=J (by omega);exact⟨b,r,e,cell_later g (a0 k h)⟩
     rw[Hx.out] at j;obtain⟨y,H⟩: ∃y,a.getD k 0=y:=⟨_,rfl⟩;obtain⟨p,G⟩: ∃p,d.getD (i+k) 0=p:=⟨_,rfl⟩;rw[H] at T t s j;rw[G] at hp A j;clear H G N J
     by_cases v:k<a.length
     ·obtain⟨E,ar,rfl,a6⟩:=s v
      have an:=C8 S T;have aq:(x:Int)*(y:Int)≤4294836225:=by rw[←Int.natCast_mul];omega
      have ap:0≤(x:Int)*(y:Int):=by rw[←Int.natCast_mul];omega
      clear s t q
      go_wp2
      go_quiet (fail)
      go_wp2
      go_roundw
      case rel=>
       rw[Ql,Qm];exact⟨k+1,_,_,by go_num,rfl,Own.store (Own.l own (aL (Below.refl _ _) _)) (i+k) _,j,(aL g _).setCell (by exact Nat.le_refl _) _⟩
      case measure=>simp[intOf];omega
     ·have hy:=t v
      subst hy;have a5:0<c:=by omega
      simp only[Nat.mul_zero,Nat.add_zero] at j;clear s t q
      go_wp2
      go_roundw
      case rel=>
       have e1:((p:Int)+(c:Int)) % 65536=(((p+c) % 65536:Nat):Int):=by omega
       have e2:((p:Int)+(c:Int))/65536=(((p+c)/65536:Nat):Int):=by omega
       rw[e1,e2];exact⟨k+1,_,_,by go_num,rfl,own.store (i+k) _,j,g.setCell (by exact Nat.le_refl _) _⟩
      case measure=>simp[intOf];omega
    ·have h1: ¬k<a.length:=by omega
     have v: ¬0<c:=by omega
     have j:=Qk n z q;clear q
     go_wp2
     go_roundw
     case rel=>exact⟨i+1,d,by omega,by go_num,own,j,g⟩
     case measure=>simp[intOf];omega
  ·have a1:i=xs.length:=by omega
   subst a1;have Q:=o.1;have A:=o.2.1;have B:=o.2.2.2;rw[List.take_of_length_le (Nat.le_refl _)] at B;have HV:Hid _:=B;have hl:d.length≤3000000:=by omega
   clear Q B
   go_wp2_with fail
   refine(i9 _ _ _ d _ own.rd).mono ?_;rintro e w' ⟨m,rfl,O,rfl⟩;have R:=xh own A O hl;rw[HV.out] at R;clear O
   go_wp2
   go_ret
   exact⟨_,rfl,R,g⟩
theorem cD (a:Addr)(W:World)(g:Fn):(store a (Value.func g #[] #[])).run Tryz.prog W=stored Tryz.prog W a (Value.func g #[] #[]) .plain:=run_store _ W a _ _ rfl
theorem VS {R f d:List Nat}{i t k c b y p a:Nat}(h:SX R f d i t k c b)(_hk:k<d.length)(F:i+k<R.length)(w:d.getD k 0=y)(u:R.getD (i+k) 0=p)(I:p<4294967296)(D:a=c+y*t)(s:a/4294967296<4294967296):
  SX R (f.set (i+k) ((p+4294967296-a % 4294967296-b) % 4294967296)) d i t (k+1) (a/4294967296) (brw p (a % 4294967296) b):=by
 obtain⟨o,q,B,C,g,r⟩:=h;refine⟨by simpa using o,Dg.small_set q _ _ (Nat.mod_lt _ (by omega)),s,RN _ _ _,fun j E=> ?_, ?_⟩
 ·rw[Dg.getD_set _ _ _ _ (by omega),if_neg (by omega)];exact g j (by omega)
 ·have v:=Dg.vl_set 4294967296 f (i+k) ((p+4294967296-a % 4294967296-b) % 4294967296) (by omega)
  rw[g _ (Nat.le_refl _),u] at v;have G:a % 4294967296<4294967296:=Nat.mod_lt _ (by omega);have A:p+4294967296*brw p (a % 4294967296) b=(p+4294967296-a % 4294967296-b) % 4294967296+a % 4294967296+b:=by unfold brw;split<;>omega
  generalize H:(p+4294967296-a % 4294967296-b) % 4294967296=x at*;generalize brw p (a % 4294967296) b=e at*;rw[iV,w];have l:4294967296^i*((Dg.vl 4294967296 (d.take k)+4294967296^k*y)*t)=4294967296^i*(Dg.vl 4294967296 (d.take k)*t)+4294967296^ (i+k)*(y*t):=by
   rw[Nat.add_mul,Nat.mul_add,Nat.pow_add,Nat.mul_assoc,Nat.mul_assoc]
  have m:4294967296^ (i+(k+1))*(e+a/4294967296)=4294967296^ (i+k)*(4294967296*e+4294967296*(a/4294967296)):=by
   rw[show i+(k+1)=i+k+1 from by omega,Nat.pow_succ,Nat.mul_assoc,Nat.mul_add]
  have z:=Nat.mod_add_div a 4294967296;have n:4294967296^ (i+k)*(4294967296*e+4294967296*(a/4294967296)+p)=4294967296^ (i+k)*(x+b+c+y*t):=by congr 1;omega
  rw[Nat.mul_add,Nat.mul_add,Nat.mul_add,Nat.mul_add,Nat.mul_add] at n;rw[Nat.mul_add] at r;rw[l,m,Nat.mul_add];omega
theorem VT {R d a:List Nat}{i t c b p:Nat}(h:SX R d a i t a.length c b)(w:i+a.length<R.length)(q:R.getD (i+a.length) 0=p)(x:p<4294967296):
  (d.set (i+a.length) ((p+4294967296-c-b) % 4294967296)).length=R.length∧Dg.Small 4294967296 (d.set (i+a.length) ((p+4294967296-c-b) % 4294967296))∧(∀j,i+a.length<j→(d.set (i+a.length) ((p+4294967296-c-b) % 4294967296)).getD j 0=R.getD j 0)∧
   Dg.vl 4294967296 (d.set (i+a.length) ((p+4294967296-c-b) % 4294967296))+4294967296^i*(Dg.vl 4294967296 a*t)=Dg.vl 4294967296 R+4294967296^ (i+a.length+1)*brw p c b:=by
 obtain⟨n,o,s,u,f,g⟩:=h;refine⟨by simpa using n,Dg.small_set o _ _ (Nat.mod_lt _ (by omega)),fun j v=> ?_, ?_⟩
 ·rw[Dg.getD_set _ _ _ _ (by omega),if_neg (by omega)];exact f j (by omega)
 ·have r:=Dg.vl_set 4294967296 d (i+a.length) ((p+4294967296-c-b) % 4294967296) (by omega)
  rw[f _ (Nat.le_refl _),q] at r;have m:p+4294967296*brw p c b=(p+4294967296-c-b) % 4294967296+c+b:=by unfold brw;split<;>omega
  generalize(p+4294967296-c-b) % 4294967296=new at*;generalize brw p c b=e at*;rw[List.take_of_length_le (Nat.le_refl _)] at g;have k:4294967296^ (i+a.length+1)*e=4294967296^ (i+a.length)*(4294967296*e):=by rw[Nat.pow_succ,Nat.mul_assoc]
  have l:4294967296^ (i+a.length)*(p+4294967296*e)=4294967296^ (i+a.length)*(new+c+b):=by rw[m]
  rw[Nat.mul_add,Nat.mul_add,Nat.mul_add] at l;rw[Nat.mul_add] at g;rw[k];omega
theorem QR {R c a:List Nat}{i g b q X D:Nat}(P:acc R c a i g b)(U:Dg.Small 4294967296 R)(A:Dg.vl 4294967296 R=X)(y:Dg.vl 4294967296 a=D)(z:0<D)(a0:D<4294967296^a.length)
  (S:X<D*4294967296^ (i+1)) (T:X/4294967296^i/D=q) (r:g=q∨g=q+1):
  (b=0→g=q∧Dg.vl 4294967296 c+4294967296^i*(D*q)=X∧Dg.vl 4294967296 c<D*4294967296^i)∧
  (b=1→g=q+1∧ ∀(d:List Nat) (o:Nat),Py c d a i o→Dg.vl 4294967296 d+4294967296^i*(D*q)=X∧Dg.vl 4294967296 d<D*4294967296^i):=by
 have C:X<4294967296^ (i+a.length+1):=by
  have n:D*4294967296^ (i+1)≤4294967296^a.length*4294967296^ (i+1):=Nat.mul_le_mul_right _ (by omega);rw[←Nat.pow_add,show a.length+(i+1)=i+a.length+1 from by omega] at n
  omega
 have G: ∀j,i+a.length+1≤j→R.getD j 0=0:=fun j k=>NB 4294967296 R _ (by omega) U (by rw[A];exact C) j k
 obtain⟨W,I,J,Y,u⟩:=P;have t: ∀j,i+a.length+1≤j→c.getD j 0=0:=fun j k=>by rw[J j (by omega)];exact G j k
 have Q:=Dk 4294967296 c _ (by omega) I t;have f:=ND (X:=X) (D:=D) (i:=i) (B:=4294967296) (by omega) z;rw[T] at f;rw[A,y] at u;have x:4294967296^i*(D*(q+1))=4294967296^i*(D*q)+4294967296^i*D:=by rw[Nat.mul_add,Nat.mul_one,Nat.mul_add]
 have e4:4294967296^i*D≤4294967296^ (i+a.length+1):=by
  have n:4294967296^i*D≤4294967296^i*4294967296^a.length:=Nat.mul_le_mul_left _ (by omega);rw[←Nat.pow_add] at n;have e2:(4294967296:Nat)^ (i+a.length)≤4294967296^ (i+a.length+1):=Nat.pow_le_pow_right (by omega) (by omega);omega
 have L:D*4294967296^i=4294967296^i*D:=Nat.mul_comm _ _;have a3:0<4294967296^i*D:=Nat.mul_pos (Nat.pow_pos (by omega)) z;have F:4294967296^i*(D*g)=4294967296^i*(D*q)∨4294967296^i*(D*g)=4294967296^i*(D*q)+4294967296^i*D:=by
  rcases r with e|e
  ·left;rw[e]
  ·right;rw[e,x]
 have E:(4294967296^i*(D*g)=4294967296^i*(D*q)→g=q)∧(4294967296^i*(D*g)=4294967296^i*(D*q)+4294967296^i*D→g=q+1):=by
  constructor
  ·intro e
   rcases r with h|h
   ·exact h
   ·rw[h,x] at e;omega
  ·intro e
   rcases r with h|h
   ·rw[h] at e;omega
   ·exact h
 have s:=QQ f.1 f.2 F E u Q Y;rw[L];have a2:=f.2;have a1:=f.1;refine⟨fun M=> ?_,fun N=> ?_⟩
 ·have:=s.1 M
  exact⟨this.1,this.2,by omega⟩
 ·have p:=s.2 N
  refine⟨p.1,fun d o O=> ?_⟩
  obtain⟨K,v,w,Z,m⟩:=O;have H: ∀j,i+a.length+1≤j→d.getD j 0=0:=fun j k=>by rw[w j (by omega)];exact t j k
  have a4:=Dk 4294967296 d _ (by omega) v H;rw[y] at m;have h3:=p.2;have l:o=0∨o=1:=by omega
  clear s F E u G t H W I J K v w p S C
  rcases l with l|l
  ·subst l
   rw[Nat.mul_zero] at m;omega
  ·subst l
   rw[Nat.mul_one] at m;omega
def wG (k:Nat)(s:ByteArray):List Nat:=jT k (jr s)
theorem fieldsOf_set_mg:
  (∀(D L G c:Int) (gr:Bool) (sz b:Nat) (F:Nat) (s j k m:Bool) (d:Option Addr) (h g:Nat) (i:Int) (e f:Nat) (w:World) (_:IntKind.i64.wrap (i-L)=(e:Int)) (_:e<65536)
  (_: ∀B,yB w B→yC 159 #[.slice d h g] B fun z w'=>z= .returned (.int .u64 f)∧B=w')
  (u:Nat) (o:Int) (_:bits .and .u64 f u=o) (_:o≠0)
  (_:yJ 127 #[ylV 2 D L G gr sz b c F] (.int .u64 u)),
  yC 124 #[ylV 2 D L G gr sz b c F,ypV s (.slice d h g) i j k m] w (yR w (yfV s ((e:Int)+1) f)))∧
  (∀(D L G c:Int) (gr:Bool) (sz b:Nat) (F:Nat) (s j k m:Bool) (d:Option Addr) (h g:Nat) (i:Int) (e f:Nat) (w:World) (_:IntKind.i64.wrap (i-L)=(e:Int)) (_:e<65536)
  (_: ∀B,yB w B→yC 159 #[.slice d h g] B fun z w'=>z= .returned (.int .u64 f)∧B=w')
  (u:Nat) (o:Int) (_:bits .and .u64 f u=o) (_:o=0)
  (_:yJ 127 #[ylV 2 D L G gr sz b c F] (.int .u64 u)),
  yC 124 #[ylV 2 D L G gr sz b c F,ypV s (.slice d h g) i j k m] w (yR w (yfV s e f))):=by
 refine⟨?_, ?_⟩;have _z:Mgk 0:=mgkI 0
 all_goals
  first| (rename Mgk 0=>_z;intro D L G c gr sz b F s j k m d h g i e f w hE he a0 u o ch O HL)| (intro D L G c gr sz b F s j k m d h g i e f w hE _he a0 u o ch O HL)
  have cz:=cD;have ax:Hid _:=a0;clear a0;have aw:Hid _:=HL;clear HL
  first| (rename Mgk 0=>_z;(have d0:(o==0)=false:=by simpa using O);(have d1:(o != 0)=true:=by simpa using O);clear O)| (subst O)
  have bp:=af (w.alloc (.cells (ylA 2 D L G gr sz b c F) 93)) (.cells (ypA s (.slice d h g) i j k m) 141);have bz:=af ((w.alloc (.cells (ylA 2 D L G gr sz b c F) 93)).alloc (.cells (ypA s (.slice d h g) i j k m) 141)) (.cells (yfA false 0 0) 134);have E:=((ah w (ylL 2 D L G gr sz b c F) 93).l bp).l bz;have R:=(ah (w.alloc (.cells (ylA 2 D L G gr sz b c F) 93)) (ypL s (.slice d h g) i j k m) 141).l bz;have S:=ah ((w.alloc (.cells (ylA 2 D L G gr sz b c F) 93)).alloc (.cells (ypA s (.slice d h g) i j k m) 141)) (yfL false 0 0) 134;have C:=aa (aa (af w (.cells (ylA 2 D L G gr sz b c F) 93)) bp) bz;rw[World.size_alloc] at R;rw[World.size_alloc,World.size_alloc] at S;have K:=af (((w.alloc (.cells (ylA 2 D L G gr sz b c F) 93)).alloc (.cells (ypA s (.slice d h g) i j k m) 141)).alloc (.cells (yfA false 0 0) 134)) (.cells (yfA false 0 0) 134);have a2:=C.drew;have a1:=(aa C K).drew;have ap:=(E.l K).drew;have ar:=(R.l K).drew;have aq:=E.drew;have av:=R.drew;obtain⟨bg,bh,bi,bj,bl,bm,bn,bo,bq⟩:=aq.cs9;obtain⟨az,b1,b2,b3,b7,b8⟩:=av.cs6;obtain⟨bs,bt,bv,bw,bx,c0,c1,c2,c3⟩:=ap.cs9;obtain⟨b9,bb,bc,bd,be,bf⟩:=ar.cs6;have cx:w.heap.size+1+1+1≠w.heap.size:=by omega
  have cy:w.heap.size+1+1+1≠w.heap.size+1:=by omega
  go_enter func124,ntmps124
  go_wp2_with fail
  go_region_held3 (fun a=>(a.cell? ⟨w.heap.size,0,none⟩=some (yi 2)∧a.cell? ⟨w.heap.size,1,none⟩=some (yi D)∧a.cell? ⟨w.heap.size,2,none⟩=some (yi L)∧a.cell? ⟨w.heap.size,3,none⟩=some (yi G)∧a.cell? ⟨w.heap.size,4,none⟩=some (.bool gr)∧a.cell? ⟨w.heap.size,5,none⟩=some (yi sz)∧a.cell? ⟨w.heap.size,6,none⟩=some (yi b)∧a.cell? ⟨w.heap.size,7,none⟩=some (yi c)∧a.cell? ⟨w.heap.size,8,none⟩=some (.func (.func F) #[] #[]))∧(a.cell? ⟨w.heap.size+1,0,none⟩=some (.bool s)∧a.cell? ⟨w.heap.size+1,1,none⟩=some (.slice d h g)∧a.cell? ⟨w.heap.size+1,2,none⟩=some (yi i)∧a.cell? ⟨w.heap.size+1,3,none⟩=some (.bool j)∧a.cell? ⟨w.heap.size+1,4,none⟩=some (.bool k)∧a.cell? ⟨w.heap.size+1,5,none⟩=some (.bool m))) (go_keep) (first
   | (go_at_call 159;(first| (with_reducible (refine(ax.out _ a2).mono ?_))| (with_reducible (refine(ax.out _ a1).mono ?_)));rintro z wv ⟨rfl,rfl⟩))
  first
  |
   rename Mgk 0=>_z
   all_goals (
    have q:=af (((w.alloc (.cells (ylA 2 D L G gr sz b c F) 93)).alloc (.cells (ypA s (.slice d h g) i j k m) 141)).alloc (.cells (yfA false 0 0) 134)) (.cells (yfA s e f) 134);have Q:=(E.l q).drew;have T:=(S.l q).drew;have v:=(ah (((w.alloc (.cells (ylA 2 D L G gr sz b c F) 93)).alloc (.cells (ypA s (.slice d h g) i j k m) 141)).alloc (.cells (yfA false 0 0) 134)) (yfL s e f) 134).drew;rw[World.size_alloc,World.size_alloc,World.size_alloc] at v;have I:=(aa C q).drew;clear q K a2 a1 ap ar aq av E R S C bg bs bh bt bi bv bj bw bl bx bm c0 bn c1 bo c2 bq c3 az b9 b1 bb b2 bc b3 bd b7 be b8 bf;generalize((((w.alloc (.cells (ylA 2 D L G gr sz b c F) 93)).alloc (.cells (ypA s (.slice d h g) i j k m) 141)).alloc (.cells (yfA false 0 0) 134)).alloc (.cells (yfA s e f) 134)).drew=w4 at*;have A:=Q.drew;have x:=v.drew;have U:=T.drew;have J:=I.drew;obtain⟨a6,a7,a8,a9,ac,ad,ae,al,an⟩:=A.cs9;obtain⟨a3,a4,a5⟩:=x.cs3
    go_wp2_with fail
    go_region_held3 (fun a=>(a.cell? ⟨w.heap.size,0,none⟩=some (yi 2)∧a.cell? ⟨w.heap.size,1,none⟩=some (yi D)∧a.cell? ⟨w.heap.size,2,none⟩=some (yi L)∧a.cell? ⟨w.heap.size,3,none⟩=some (yi G)∧a.cell? ⟨w.heap.size,4,none⟩=some (.bool gr)∧a.cell? ⟨w.heap.size,5,none⟩=some (yi sz)∧a.cell? ⟨w.heap.size,6,none⟩=some (yi b)∧a.cell? ⟨w.heap.size,7,none⟩=some (yi c)∧a.cell? ⟨w.heap.size,8,none⟩=some (.func (.func F) #[] #[]))∧(a.cell? ⟨w.heap.size+1+1+1,0,none⟩=some (.bool s)∧a.cell? ⟨w.heap.size+1+1+1,1,none⟩=some (yi e)∧a.cell? ⟨w.heap.size+1+1+1,2,none⟩=some (.int .u64 f))) (go_keep) (first
     | (go_at_call 127;refine(aw.out _).mono ?_;rintro z H ⟨rfl,n⟩;have Y:=A.l n;have y:=x.l n;have t:=U.l n;have X:=aa J n;obtain⟨c7,c8,c9,ca,cb,cc,cd,ce,cg⟩:=Y.cs9;obtain⟨c4,c5,c6⟩:=y.cs3))
    clear Q A v x T U I J n a6 a7 a8 a9 ac ad ae al an a3 a4 a5;have cj:=y.f 1;have cw:IntKind.i64.wrap ((e:Int)+1)=(e:Int)+1:=IntWalk.i64_in _ ⟨by omega,by omega⟩
    go_upto_region 4 with fail
    have ci:w.heap.size+1+1+1≠w.heap.size+1+1:=by omega
    have ay:=ag H (w.heap.size+1+1+1) 1 (yi ((e:Int)+1));have cn:au (H.setCell ⟨w.heap.size+1+1+1,1,none⟩ (yi ((e:Int)+1))) (w.heap.size+1+1+1) 134 (yfL s ((e:Int)+1) f):=y.set 1 (yi ((e:Int)+1));have W:=t.off ci 1 (yi ((e:Int)+1));have b6:=ay.below X (by omega);clear ay y t X Y c4 c5 c6 cj;generalize(H.setCell ⟨w.heap.size+1+1+1,1,none⟩ (yi ((e:Int)+1)))=w6 at*;have M:=((ag w6 (w.heap.size+1+1) 0 (.bool s)).trans (ag _ (w.heap.size+1+1) 1 (yi ((e:Int)+1)))).trans (ag _ (w.heap.size+1+1) 2 (.int .u64 f));have N:au (((w6.setCell ⟨w.heap.size+1+1,0,none⟩ (.bool s)).setCell ⟨w.heap.size+1+1,1,none⟩ (yi ((e:Int)+1))).setCell ⟨w.heap.size+1+1,2,none⟩ (.int .u64 f)) (w.heap.size+1+1) 134 (yfL s ((e:Int)+1) f):=(((W.set 0 (.bool s)).set 1 (yi ((e:Int)+1))).set 2 (.int .u64 f));have p:=M.below b6 (by omega);have r:=run_loadVar_mid (P:=Tryz.prog) _ (w.heap.size+1+1) 0 134 (yfL s ((e:Int)+1) f) _ N.range underlying134 rfl (by kernel_rfl);have Z:Hid (_∧_):=⟨r,p⟩;obtain⟨cs,ct,cv⟩:=W.cs3;have ck:=W.f 0;have cl:=W.f 1;have cm:=W.f 2;obtain⟨co,cp,cr⟩:=cn.cs3;clear r p N M
    go_wp2
    obtain⟨r,p⟩:=Z.out;exact bodyPost_ret (br results124 rfl r) rfl ⟨rfl,p⟩
   )
  |
   all_goals (
    have q:=af (((w.alloc (.cells (ylA 2 D L G gr sz b c F) 93)).alloc (.cells (ypA s (.slice d h g) i j k m) 141)).alloc (.cells (yfA false 0 0) 134)) (.cells (yfA s e f) 134);have Q:=(E.l q).drew;have T:=(S.l q).drew;have v:=(ah (((w.alloc (.cells (ylA 2 D L G gr sz b c F) 93)).alloc (.cells (ypA s (.slice d h g) i j k m) 141)).alloc (.cells (yfA false 0 0) 134)) (yfL s e f) 134).drew;rw[World.size_alloc,World.size_alloc,World.size_alloc] at v;have I:=(aa C q).drew;clear q K a2 a1 ap ar aq av E R S C bg bs bh bt bi bv bj bw bl bx bm c0 bn c1 bo c2 bq c3 az b9 b1 bb b2 bc b3 bd b7 be b8 bf;generalize((((w.alloc (.cells (ylA 2 D L G gr sz b c F) 93)).alloc (.cells (ypA s (.slice d h g) i j k m) 141)).alloc (.cells (yfA false 0 0) 134)).alloc (.cells (yfA s e f) 134)).drew=w4 at*;have A:=Q.drew;have x:=v.drew;have U:=T.drew;have J:=I.drew;obtain⟨a6,a7,a8,a9,ac,ad,ae,al,an⟩:=A.cs9;obtain⟨a3,a4,a5⟩:=x.cs3
    go_wp2_with fail
    go_region_held3 (fun a=>(a.cell? ⟨w.heap.size,0,none⟩=some (yi 2)∧a.cell? ⟨w.heap.size,1,none⟩=some (yi D)∧a.cell? ⟨w.heap.size,2,none⟩=some (yi L)∧a.cell? ⟨w.heap.size,3,none⟩=some (yi G)∧a.cell? ⟨w.heap.size,4,none⟩=some (.bool gr)∧a.cell? ⟨w.heap.size,5,none⟩=some (yi sz)∧a.cell? ⟨w.heap.size,6,none⟩=some (yi b)∧a.cell? ⟨w.heap.size,7,none⟩=some (yi c)∧a.cell? ⟨w.heap.size,8,none⟩=some (.func (.func F) #[] #[]))∧(a.cell? ⟨w.heap.size+1+1+1,0,none⟩=some (.bool s)∧a.cell? ⟨w.heap.size+1+1+1,1,none⟩=some (yi e)∧a.cell? ⟨w.heap.size+1+1+1,2,none⟩=some (.int .u64 f))) (go_keep) (first
     | (go_at_call 127;refine(aw.out _).mono ?_;rintro z H ⟨rfl,n⟩;have Y:=A.l n;have y:=x.l n;have t:=U.l n;have X:=aa J n;obtain⟨c7,c8,c9,ca,cb,cc,cd,ce,cg⟩:=Y.cs9;obtain⟨c4,c5,c6⟩:=y.cs3))
    clear Q A v x T U I J n a6 a7 a8 a9 ac ad ae al an a3 a4 a5;have M:=((ag H (w.heap.size+1+1) 0 (.bool s)).trans (ag _ (w.heap.size+1+1) 1 (yi e))).trans (ag _ (w.heap.size+1+1) 2 (.int .u64 f));have N:au (((H.setCell ⟨w.heap.size+1+1,0,none⟩ (.bool s)).setCell ⟨w.heap.size+1+1,1,none⟩ (yi e)).setCell ⟨w.heap.size+1+1,2,none⟩ (.int .u64 f)) (w.heap.size+1+1) 134 (yfL s e f):=(((t.set 0 (.bool s)).set 1 (yi e)).set 2 (.int .u64 f));have p:=M.below X (by omega);have r:=run_loadVar_mid (P:=Tryz.prog) _ (w.heap.size+1+1) 0 134 (yfL s e f) _ N.range underlying134 rfl (by kernel_rfl);have Z:Hid (_∧_):=⟨r,p⟩;obtain⟨cs,ct,cv⟩:=t.cs3;have ck:=t.f 0;have cl:=t.f 1;have cm:=t.f 2;obtain⟨co,cp,cr⟩:=y.cs3;clear r p N M
    go_wp2
    obtain⟨r,p⟩:=Z.out;exact bodyPost_ret (br results124 rfl r) rfl ⟨rfl,p⟩
   )
theorem tprint_W (ng od:Bool)(d Pn U f r r2 f1 R n:Nat)(D:Option Addr)(B:Nat)(Q h k c Y:Int)(T:ByteArray)(ia:Int→ByteArray)(w:World)(rh:Rd w .u32 (yT D d B) (Dg.dg 4294967296 d))(hk:IntKind.i64.wrap (Q-(n:Int))=k)(ds:IntKind.i64.wrap (h+1)=Y)(hn:1≤n∧n≤60)(hT:1≤T.size∧T.size≤100)(az:(ia h).size≤100∧(ia Y).size≤100)
  (ay:(0<c∧f1=R)∨(c=0∧od=true∧f1=R)∨(c=0∧od=false∧f=R)∨(c<0∧f=R))
  (HP: ∀q b,au b q 105 [.int .u32 10]→yC 45 #[.slice (some ⟨q,0,none⟩) 1 1,yi k] b (NmR b Pn))
  (HS: ∀po pc b,Rd b .u32 (yT po Pn pc) (Dg.dg 4294967296 Pn)→yC 43 #[yT po Pn pc,yi 1] b (NmR b U))
  (HO: ∀D B uo uc b,Rd b .u32 (yT D d B) (Dg.dg 4294967296 d)→Rd b .u32 (yT uo U uc) (Dg.dg 4294967296 U)→yC 46 #[yT D d B,yT uo U uc] b (TwR b f r))
  (HR: ∀ro rc b,Rd b .u32 (yT ro r rc) (Dg.dg 4294967296 r)→yC 43 #[yT ro r rc,yi 1] b (NmR b r2))
  (HC: ∀so sc uo uc b,Rd b .u32 (yT so r2 sc) (Dg.dg 4294967296 r2)→Rd b .u32 (yT uo U uc) (Dg.dg 4294967296 U)→yC 47 #[yT so r2 sc,yT uo U uc] b (yR b (yi c)))
  (HX: ∀L J b,Rd b .u32 (yT L f J) (Dg.dg 4294967296 f)→yC 48 #[yT L f J] b (yR b (.bool od)))
  (HA: ∀L J q b,Rd b .u32 (yT L f J) (Dg.dg 4294967296 f)→au b q 105 [.int .u32 1]→yC 44 #[yT L f J,.slice (some ⟨q,0,none⟩) 1 1] b (NmR b f1))
  (A: ∀go gc b,Rd b .u32 (yT go R gc) (Dg.dg 4294967296 R)→yC 42 #[yT go R gc] b (yR b (.string T)))
  (HI:(yH w 49 #[yi h] (.string (ia h)))∧yH w 49 #[yi Y] (.string (ia Y))):
  yC 14 #[.agg #[.bool ng,yT D d B,yi Q,yi h],yi n] w (yR w (.string (tpS ng T n (ia (if n<T.size then Y else h))))):=by
 replace HP:Hid _:=HP;replace HS:Hid _:=HS;replace HO:Hid _:=HO;replace HR:Hid _:=HR;replace HC:Hid _:=HC;replace HX:Hid _:=HX;replace HA:Hid _:=HA;replace A:Hid _:=A;replace HI:Hid _:=HI;replace ay:Hid _:=ay;replace az:Hid _:=az;obtain⟨st,z⟩: ∃st,tpS ng T n (ia (if n<T.size then Y else h))=st:=⟨_,rfl⟩
 rw[z];replace z:Hid _:=z;have dp:=hn.1;have dq:=hn.2;have db:=hT.1;have dc:=hT.2;clear hn hT;obtain⟨W3,ax,q1,b2⟩:=cA w [.bool ng,yT D d B,yi Q,yi h] 49;replace ax:Hid _:=ax;have r5:=rh.l b2;clear rh
 go_enter func14,ntmps14
 go_upto_region 1 with fail
 rw[ax.out];clear ax;have dn:=q1.lt;have ad:=af W3 (.cells #[.int .u32 10] 105);have q7:=ah W3 [.int .u32 10] 105;have q9:=q1.l ad;have cp:=r5.l ad;have c5:=aa b2 ad;have cz:=q9.c 2 rfl
 go_wp2_with fail
 refine(HP.out _ _ q7).mono ?_;rintro i e5 ⟨dv,rfl,bo,aq⟩;have ch:=q9.l aq;have cr:=cp.l aq;have c6:=aa c5 aq;obtain⟨po,pc,d⟩:=bo.shape;subst d;clear q9 q7 cp c5 aq HP cz q1 r5 b2 ad
 go_wp2_with fail
 refine(HS.out _ _ _ bo).mono ?_;rintro i e6 ⟨e1,rfl,b3,ar⟩;have bn:=ch.l ar;have cv:=cr.l ar;have cd:=aa c6 ar;obtain⟨uo,uc,d⟩:=b3.shape;subst d;clear ch cr bo c6 ar HS;have d0:=bn.c 1 rfl
 go_wp2_with fail
 refine(HO.out _ _ _ _ _ cv b3).mono ?_;rintro i e7 ⟨e2,e4,rfl,bs,c0,av⟩;have cm:=bn.l av;have cw:=b3.l av;have ce:=aa cd av;obtain⟨L,J,d⟩:=bs.shape;subst d;obtain⟨ro,rc,d⟩:=c0.shape;subst d;clear bn cv b3 cd av HO d0
 go_wp2_with fail
 refine(HR.out _ _ _ c0).mono ?_;rintro i e8 ⟨e3,rfl,bt,a6⟩;have co:=cm.l a6;have cx:=cw.l a6;have cy:=bs.l a6;have cg:=aa ce a6;obtain⟨so,sc,d⟩:=bt.shape;subst d;clear cm cw bs c0 ce a6 HR
 go_wp2_with fail
 refine(HC.out _ _ _ _ _ bt cx).mono ?_;rintro i a8 ⟨rfl,aw⟩;have H:=co.l aw;have E:=cy.l aw;have I:=aa cg aw;clear co cx cy bt cg aw HC
 rcases ay.out with⟨h1,rfl⟩| ⟨rfl,rfl,rfl⟩| ⟨rfl,rfl,rfl⟩| ⟨h1,rfl⟩
 case' inl=>
  have dd:=H.lt;have a9:=af a8 (.cells #[.int .u32 1] 105);have Z:=ah a8 [.int .u32 1] 105;have ci:=H.l a9;have cs:=E.l a9;have c7:=aa I a9
  go_wp2_with fail
  refine(HA.out _ _ _ _ cs Z).mono ?_;rintro i c1 ⟨dy,rfl,bp,b8⟩;have ck:=ci.l b8;have c9:=aa c7 b8;obtain⟨ao,ac,d⟩:=bp.shape;subst d;clear ci Z cs c7 b8 HA H E I a9
  go_upto_region 6 with fail
  have an:yB c1 c1.drew:=(Below.refl _ _).drew;have b0:=ck.l an;have bw:=bp.l an;have b6:=aa c9 an;clear ck bp c9 an;refine wp_region_held_drew (S:=fun wq=>au wq w.heap.size 49 [.bool ng,yT D d B,yi Q,yi h]) (by kernel_rfl) b0 (fun a=> ?_)
  generalize c1.drew=d9 at b0 bw b6 a⊢;refine tq 0 (yT ao f1 ac) rfl (fun _ _=>by kernel_rfl) a ?_
  refine tq 2 (.pointer (some ⟨w.heap.size,3,none⟩)) rfl (fun _ _=>by kernel_rfl) a ?_
  refine tq 3 (yi h) rfl (fun _ W=>gU 3 (.tmp 44) rfl w.heap.size 3 (by kernel_rfl) _ _ underlying3 rfl (W.c 3 rfl)) a ?_
  refine wpAnyH_ready (rs:=[1]) (by kernel_rfl) (by simp) ?_;refine AllReadyH.cons rfl (fun K y=> ?_) AllReadyH.nil
  go_simp
  refine(A.out _ _ _ bw).mono ?_;rintro i d4 ⟨rfl,bb⟩;have bl:=b0.l bb;have a2:=aa b6 bb;clear b0 bw b6 bb A;refine y.out _ _ bl (fun bf=> ?_)
  clear y K;refine tq 4 (.string T) rfl (fun _ _=>by kernel_rfl) bf ?_
  refine tq 5 (yi h) rfl (fun _ _=>by kernel_rfl) bf ?_
  refine wpAnyH_done (by kernel_rfl) ?_ _;clear a bf;simp only[Act.put,List.getElem_toArray,List.getElem_cons_succ,List.getElem_cons_zero,List.setIfInBounds_toArray,List.set_cons_zero,List.set_cons_succ];have qz:=bl;have g:=a2;clear bl a2;obtain⟨t,X⟩: ∃x,x=d4:=⟨_,rfl⟩;subst X;clear h1
 case' inr.inl=>
  go_wp2_with fail
  refine(HX.out _ _ _ E).mono ?_;rintro i a4 ⟨rfl,F⟩;have a3:=H.l F;have a7:=E.l F;have a5:=aa I F;clear H E I F HX;have dl:=a3.lt;have ab:=af a4 (.cells #[.int .u32 1] 105);have a0:=ah a4 [.int .u32 1] 105;have cj:=a3.l ab;have ct:=a7.l ab;have c8:=aa a5 ab
  go_wp2_with fail
  refine(HA.out _ _ _ _ ct a0).mono ?_;rintro i c2 ⟨e0,rfl,bq,ba⟩;have cl:=cj.l ba;have cb:=aa c8 ba;obtain⟨ao,ac,d⟩:=bq.shape;subst d;clear cj a0 ct c8 ba HA a3 a7 a5 ab
  go_upto_region 6 with fail
  have ap:yB c2 c2.drew:=(Below.refl _ _).drew;have b1:=cl.l ap;have bx:=bq.l ap;have a2:=aa cb ap;clear cl bq cb ap;refine wp_region_held_drew (S:=fun wq=>au wq w.heap.size 49 [.bool ng,yT D d B,yi Q,yi h]) (by kernel_rfl) b1 (fun a=> ?_)
  generalize c2.drew=da at b1 bx a2 a⊢;refine tq 0 (yT ao f1 ac) rfl (fun _ _=>by kernel_rfl) a ?_
  refine tq 2 (.pointer (some ⟨w.heap.size,3,none⟩)) rfl (fun _ _=>by kernel_rfl) a ?_
  refine tq 3 (yi h) rfl (fun _ W=>gU 3 (.tmp 44) rfl w.heap.size 3 (by kernel_rfl) _ _ underlying3 rfl (W.c 3 rfl)) a ?_
  refine wpAnyH_ready (rs:=[1]) (by kernel_rfl) (by simp) ?_;refine AllReadyH.cons rfl (fun K y=> ?_) AllReadyH.nil
  go_simp
  refine(A.out _ _ _ bx).mono ?_;rintro i d5 ⟨rfl,bc⟩;have bm:=b1.l bc;have cc:=aa a2 bc;clear b1 bx a2 bc A;refine y.out _ _ bm (fun bg=> ?_)
  clear y K;refine tq 4 (.string T) rfl (fun _ _=>by kernel_rfl) bg ?_
  refine tq 5 (yi h) rfl (fun _ _=>by kernel_rfl) bg ?_
  refine wpAnyH_done (by kernel_rfl) ?_ _;clear a bg;simp only[Act.put,List.getElem_toArray,List.getElem_cons_succ,List.getElem_cons_zero,List.setIfInBounds_toArray,List.set_cons_zero,List.set_cons_succ];have qz:=bm;have g:=cc;clear bm cc;obtain⟨t,X⟩: ∃x,x=d5:=⟨_,rfl⟩;subst X
 case' inr.inr.inl=>
  go_wp2_with fail
  refine(HX.out _ _ _ E).mono ?_;rintro i a4 ⟨rfl,F⟩;have a3:=H.l F;have a7:=E.l F;have a5:=aa I F;clear H E I F HX
  go_upto_region 6 with fail
  have al:yB a4 a4.drew:=(Below.refl _ _).drew;have a0:=a3.l al;have bv:=a7.l al;have a1:=aa a5 al;clear a3 a7 a5 al;refine wp_region_held_drew (S:=fun wq=>au wq w.heap.size 49 [.bool ng,yT D d B,yi Q,yi h]) (by kernel_rfl) a0 (fun a=> ?_)
  generalize a4.drew=d7 at a0 bv a1 a⊢;refine tq 0 (yT L f J) rfl (fun _ _=>by kernel_rfl) a ?_
  refine tq 2 (.pointer (some ⟨w.heap.size,3,none⟩)) rfl (fun _ _=>by kernel_rfl) a ?_
  refine tq 3 (yi h) rfl (fun _ W=>gU 3 (.tmp 44) rfl w.heap.size 3 (by kernel_rfl) _ _ underlying3 rfl (W.c 3 rfl)) a ?_
  refine wpAnyH_ready (rs:=[1]) (by kernel_rfl) (by simp) ?_;refine AllReadyH.cons rfl (fun K y=> ?_) AllReadyH.nil
  go_simp
  refine(A.out _ _ _ bv).mono ?_;rintro i d3 ⟨rfl,b9⟩;have bj:=a0.l b9;have ca:=aa a1 b9;clear a0 bv a1 b9 A;refine y.out _ _ bj (fun be=> ?_)
  clear y K;refine tq 4 (.string T) rfl (fun _ _=>by kernel_rfl) be ?_
  refine tq 5 (yi h) rfl (fun _ _=>by kernel_rfl) be ?_
  refine wpAnyH_done (by kernel_rfl) ?_ _;clear a be;simp only[Act.put,List.getElem_toArray,List.getElem_cons_succ,List.getElem_cons_zero,List.setIfInBounds_toArray,List.set_cons_zero,List.set_cons_succ];have qz:=bj;have g:=ca;clear bj ca;obtain⟨t,X⟩: ∃x,x=d3:=⟨_,rfl⟩;subst X
 case' inr.inr.inr=>
  have h0: ¬0<c:=by omega
  have d1:(c==0)=false:=by rw[beq_eq_false_iff_ne];omega
  clear h1
  go_upto_region 6 with fail
  have ae:yB a8 a8.drew:=(Below.refl _ _).drew;have Z:=H.l ae;have bu:=E.l ae;have b5:=aa I ae;clear H E I ae;refine wp_region_held_drew (S:=fun wq=>au wq w.heap.size 49 [.bool ng,yT D d B,yi Q,yi h]) (by kernel_rfl) Z (fun a=> ?_)
  generalize a8.drew=d6 at Z bu b5 a⊢;refine tq 0 (yT L f J) rfl (fun _ _=>by kernel_rfl) a ?_
  refine tq 2 (.pointer (some ⟨w.heap.size,3,none⟩)) rfl (fun _ _=>by kernel_rfl) a ?_
  refine tq 3 (yi h) rfl (fun _ W=>gU 3 (.tmp 44) rfl w.heap.size 3 (by kernel_rfl) _ _ underlying3 rfl (W.c 3 rfl)) a ?_
  refine wpAnyH_ready (rs:=[1]) (by kernel_rfl) (by simp) ?_;refine AllReadyH.cons rfl (fun K y=> ?_) AllReadyH.nil
  go_simp
  refine(A.out _ _ _ bu).mono ?_;rintro i d2 ⟨rfl,b7⟩;have bi:=Z.l b7;have a1:=aa b5 b7;clear Z bu b5 b7 A;refine y.out _ _ bi (fun bd=> ?_)
  clear y K;refine tq 4 (.string T) rfl (fun _ _=>by kernel_rfl) bd ?_
  refine tq 5 (yi h) rfl (fun _ _=>by kernel_rfl) bd ?_
  refine wpAnyH_done (by kernel_rfl) ?_ _;clear a bd;simp only[Act.put,List.getElem_toArray,List.getElem_cons_succ,List.getElem_cons_zero,List.setIfInBounds_toArray,List.set_cons_zero,List.set_cons_succ];have qz:=bi;have g:=a1;clear bi a1;obtain⟨t,X⟩: ∃x,x=d2:=⟨_,rfl⟩;subst X;clear h0 d1
 all_goals
  clear ay
  by_cases C:n<T.size
  ·have e:=HI.out.2
   have bh:=az.out.2;obtain⟨ii,p⟩: ∃x,ia Y=x:=⟨_,rfl⟩;rw[p] at e bh;replace e:Hid _:=e;replace p:Hid _:=p;have dt:(T.extract 0 n).size=n:=by rw[ByteArray.size_extract];omega
   by_cases G:1<n
   ·cases ng
    case false=>
     go_upto_region 10 with fail
     have m:yB t t.drew:=(Below.refl _ _).drew;have s:=qz.l m;have j:=aa g m;clear qz g m;refine wp_region_held_drew (S:=fun _=>True) (by kernel_rfl) trivial (fun a=> ?_)
     generalize t.drew=b4 at s j a⊢;refine tq 0 (.string (T.extract 0 n)) rfl (fun _ _=>by kernel_rfl) a ?_
     refine tq 1 (.string ((T.extract 0 n).extract 0 1)) rfl (fun _ _=>by go_simp<;>first|omega| (intro o;omega)) a ?_
     refine tq 2 (.string (((T.extract 0 n).extract 0 1)++⟨#[46]⟩)) rfl (fun _ _=>by go_simp<;>first|omega| (intro o;omega)) a ?_
     refine tq 3 (.string (T.extract 0 n)) rfl (fun _ _=>by kernel_rfl) a ?_
     refine tq 4 (.string ((T.extract 0 n).extract 1 (T.extract 0 n).size)) rfl (fun _ _=>by go_simp<;>first|omega| (intro o;omega)) a ?_
     refine tq 5 (.string ((((T.extract 0 n).extract 0 1)++⟨#[46]⟩)++((T.extract 0 n).extract 1 (T.extract 0 n).size))) rfl (fun _ _=>by go_simp<;>first|omega| (intro o;omega)) a ?_
     refine tq 6 (.string ((((T.extract 0 n).extract 0 1)++⟨#[46]⟩)++((T.extract 0 n).extract 1 (T.extract 0 n).size))) rfl (fun _ _=>by kernel_rfl) a ?_
     refine wpAnyH_done (by kernel_rfl) ?_ _;clear a;simp only[Act.put,List.getElem_toArray,List.getElem_cons_succ,List.getElem_cons_zero,List.setIfInBounds_toArray,List.set_cons_zero,List.set_cons_succ];have P:=s.c 0 rfl
     go_wp2_with fail
     refine(e.out _ j).mono ?_;rintro i c4 ⟨rfl,v⟩;have N:=aa j v;clear s j v e P
     go_wp2
     go_ret
     rw[←z.out];unfold tpS tpG tpP tpT;simp only[if_pos C,if_pos G,if_neg Bool.false_ne_true,p.out];exact⟨by simp[Nat.min_eq_left (Nat.le_of_lt C)],N⟩
    case true=>
     go_upto_region 10 with fail
     have m:yB t t.drew:=(Below.refl _ _).drew;have s:=qz.l m;have j:=aa g m;clear qz g m;refine wp_region_held_drew (S:=fun _=>True) (by kernel_rfl) trivial (fun a=> ?_)
     generalize t.drew=b4 at s j a⊢;refine tq 0 (.string (T.extract 0 n)) rfl (fun _ _=>by kernel_rfl) a ?_
     refine tq 1 (.string ((T.extract 0 n).extract 0 1)) rfl (fun _ _=>by go_simp<;>first|omega| (intro o;omega)) a ?_
     refine tq 2 (.string (((T.extract 0 n).extract 0 1)++⟨#[46]⟩)) rfl (fun _ _=>by go_simp<;>first|omega| (intro o;omega)) a ?_
     refine tq 3 (.string (T.extract 0 n)) rfl (fun _ _=>by kernel_rfl) a ?_
     refine tq 4 (.string ((T.extract 0 n).extract 1 (T.extract 0 n).size)) rfl (fun _ _=>by go_simp<;>first|omega| (intro o;omega)) a ?_
     refine tq 5 (.string ((((T.extract 0 n).extract 0 1)++⟨#[46]⟩)++((T.extract 0 n).extract 1 (T.extract 0 n).size))) rfl (fun _ _=>by go_simp<;>first|omega| (intro o;omega)) a ?_
     refine tq 6 (.string ((((T.extract 0 n).extract 0 1)++⟨#[46]⟩)++((T.extract 0 n).extract 1 (T.extract 0 n).size))) rfl (fun _ _=>by kernel_rfl) a ?_
     refine wpAnyH_done (by kernel_rfl) ?_ _;clear a;simp only[Act.put,List.getElem_toArray,List.getElem_cons_succ,List.getElem_cons_zero,List.setIfInBounds_toArray,List.set_cons_zero,List.set_cons_succ];have P:=s.c 0 rfl
     go_wp2_with fail
     refine(e.out _ j).mono ?_;rintro i c4 ⟨rfl,v⟩;have N:=aa j v;clear s j v e P
     go_wp2
     go_ret
     rw[←z.out];unfold tpS tpG tpP tpT;simp only[if_pos C,if_pos G,p.out];exact⟨by simp[Nat.min_eq_left (Nat.le_of_lt C)],N⟩
   ·cases ng
    case false=>
     have O:=qz.c 0 rfl
     go_wp2_with fail
     refine(e.out _ g).mono ?_;rintro i c3 ⟨rfl,u⟩;have M:=aa g u;clear qz g u e O
     go_wp2
     go_ret
     rw[←z.out];unfold tpS tpG tpP tpT;simp only[if_pos C,if_neg G,if_neg Bool.false_ne_true,p.out];exact⟨by simp,M⟩
    case true=>
     have O:=qz.c 0 rfl
     go_wp2_with fail
     refine(e.out _ g).mono ?_;rintro i c3 ⟨rfl,u⟩;have M:=aa g u;clear qz g u e O
     go_wp2
     go_ret
     rw[←z.out];unfold tpS tpG tpP tpT;simp only[if_pos C,if_neg G,p.out];exact⟨by simp,M⟩
  ·have e:=HI.out.1
   have bh:=az.out.1;obtain⟨ii,p⟩: ∃x,ia h=x:=⟨_,rfl⟩;rw[p] at e bh;replace e:Hid _:=e;replace p:Hid _:=p
   by_cases G:1<n
   ·cases ng
    case false=>
     go_upto_region 10 with fail
     have m:yB t t.drew:=(Below.refl _ _).drew;have s:=qz.l m;have j:=aa g m;clear qz g m;refine wp_region_held_drew (S:=fun _=>True) (by kernel_rfl) trivial (fun a=> ?_)
     generalize t.drew=b4 at s j a⊢;refine tq 0 (.string T) rfl (fun _ _=>by kernel_rfl) a ?_
     refine tq 1 (.string (T.extract 0 1)) rfl (fun _ _=>by go_simp<;>first|omega| (intro o;omega)) a ?_
     refine tq 2 (.string ((T.extract 0 1)++⟨#[46]⟩)) rfl (fun _ _=>by go_simp<;>first|omega| (intro o;omega)) a ?_
     refine tq 3 (.string T) rfl (fun _ _=>by kernel_rfl) a ?_
     refine tq 4 (.string (T.extract 1 T.size)) rfl (fun _ _=>by go_simp<;>first|omega| (intro o;omega)) a ?_
     refine tq 5 (.string (((T.extract 0 1)++⟨#[46]⟩)++(T.extract 1 T.size))) rfl (fun _ _=>by go_simp<;>first|omega| (intro o;omega)) a ?_
     refine tq 6 (.string (((T.extract 0 1)++⟨#[46]⟩)++(T.extract 1 T.size))) rfl (fun _ _=>by kernel_rfl) a ?_
     refine wpAnyH_done (by kernel_rfl) ?_ _;clear a;simp only[Act.put,List.getElem_toArray,List.getElem_cons_succ,List.getElem_cons_zero,List.setIfInBounds_toArray,List.set_cons_zero,List.set_cons_succ];have P:=s.c 0 rfl
     go_wp2_with fail
     refine(e.out _ j).mono ?_;rintro i c4 ⟨rfl,v⟩;have N:=aa j v;clear s j v e P
     go_wp2
     go_ret
     rw[←z.out];unfold tpS tpG tpP tpT;simp only[if_neg C,if_pos G,if_neg Bool.false_ne_true,p.out];exact⟨by simp,N⟩
    case true=>
     go_upto_region 10 with fail
     have m:yB t t.drew:=(Below.refl _ _).drew;have s:=qz.l m;have j:=aa g m;clear qz g m;refine wp_region_held_drew (S:=fun _=>True) (by kernel_rfl) trivial (fun a=> ?_)
     generalize t.drew=b4 at s j a⊢;refine tq 0 (.string T) rfl (fun _ _=>by kernel_rfl) a ?_
     refine tq 1 (.string (T.extract 0 1)) rfl (fun _ _=>by go_simp<;>first|omega| (intro o;omega)) a ?_
     refine tq 2 (.string ((T.extract 0 1)++⟨#[46]⟩)) rfl (fun _ _=>by go_simp<;>first|omega| (intro o;omega)) a ?_
     refine tq 3 (.string T) rfl (fun _ _=>by kernel_rfl) a ?_
     refine tq 4 (.string (T.extract 1 T.size)) rfl (fun _ _=>by go_simp<;>first|omega| (intro o;omega)) a ?_
     refine tq 5 (.string (((T.extract 0 1)++⟨#[46]⟩)++(T.extract 1 T.size))) rfl (fun _ _=>by go_simp<;>first|omega| (intro o;omega)) a ?_
     refine tq 6 (.string (((T.extract 0 1)++⟨#[46]⟩)++(T.extract 1 T.size))) rfl (fun _ _=>by kernel_rfl) a ?_
     refine wpAnyH_done (by kernel_rfl) ?_ _;clear a;simp only[Act.put,List.getElem_toArray,List.getElem_cons_succ,List.getElem_cons_zero,List.setIfInBounds_toArray,List.set_cons_zero,List.set_cons_succ];have P:=s.c 0 rfl
     go_wp2_with fail
     refine(e.out _ j).mono ?_;rintro i c4 ⟨rfl,v⟩;have N:=aa j v;clear s j v e P
     go_wp2
     go_ret
     rw[←z.out];unfold tpS tpG tpP tpT;simp only[if_neg C,if_pos G,p.out];exact⟨by simp,N⟩
   ·cases ng
    case false=>
     have O:=qz.c 0 rfl
     go_wp2_with fail
     refine(e.out _ g).mono ?_;rintro i c3 ⟨rfl,u⟩;have M:=aa g u;clear qz g u e O
     go_wp2
     go_ret
     rw[←z.out];unfold tpS tpG tpP tpT;simp only[if_neg C,if_neg G,if_neg Bool.false_ne_true,p.out];exact⟨by simp,M⟩
    case true=>
     have O:=qz.c 0 rfl
     go_wp2_with fail
     refine(e.out _ g).mono ?_;rintro i c3 ⟨rfl,u⟩;have M:=aa g u;clear qz g u e O
     go_wp2
     go_ret
     rw[←z.out];unfold tpS tpG tpP tpT;simp only[if_neg C,if_neg G,p.out];exact⟨by simp,M⟩
theorem qU (k:Nat)(a:1≤k∧k≤8)(w:World):yC 15 #[yi k] w (yR w (.tuple #[.agg (afl k).toArray,.bool true])):=by
 rcases bO a with rfl|rfl|rfl|rfl|rfl|rfl|rfl|rfl
 ·exact Ly w
 ·exact Lz w
 ·exact LA w
 ·exact LC w
 ·exact LD w
 ·exact LE w
 ·exact LF w
 ·exact LH w
theorem Kh (k:Nat)(zs:List Nat)(i:Nat)(d:zs.length=szN k)(c:i<zs.length):(jT k zs).getD i 0=zs.getD (plN k i) 0:=by
 unfold jT plN
 by_cases a:k=3
 ·rw[if_pos a,if_pos a,List.getD_eq_getElem?_getD,List.getElem?_reverse c,←List.getD_eq_getElem?_getD,d]
 ·rw[if_neg a,if_neg a]
  by_cases b:6≤k
  ·rw[if_pos b,if_pos b,Fl zs i c]
  ·rw[if_neg b,if_neg b]
theorem IF (k:Nat)(e:1≤k∧k≤8)(i:Nat)(a:i<szN k)(w:World):yC 51 #[yi k,yi i] w (yR w (yi ((plN k i:Nat):Int))):=by
 have b:=fun g=>qU k e g
 have c:=(fZ e).2.2.1;have d: ∀x:Int,((plN k i:Nat):Int)=x→yC 51 #[yi k,yi i] w ((yR w (yi x)))→yC 51 #[yi k,yi i] w ((yR w (yi ((plN k i:Nat):Int)))):=fun x f h=>by rw[f];exact h
 rcases bO e with rfl|rfl|rfl|rfl|rfl|rfl|rfl|rfl
 ·exact d _ (by unfold plN;simp) (sM _ _ _ _ _ _ _ _ _ _ i w a c b)
 ·exact d _ (by unfold plN;simp) (sM _ _ _ _ _ _ _ _ _ _ i w a c b)
 ·exact d _ (by unfold plN;simp only[szN] at a⊢;simp;omega) (sM _ _ _ _ _ _ _ _ _ _ i w a c b)
 ·exact d _ (by unfold plN;simp) (sM _ _ _ _ _ _ _ _ _ _ i w a c b)
 ·exact d _ (by unfold plN;simp) (sM _ _ _ _ _ _ _ _ _ _ i w a c b)
 ·exact d _ (by unfold plN;simp;omega) (sM _ _ _ _ _ _ _ _ _ _ i w a c b)
 ·exact d _ (by unfold plN;simp;omega) (sM _ _ _ _ _ _ _ _ _ _ i w a c b)
 ·exact d _ (by unfold plN;simp;omega) (sM _ _ _ _ _ _ _ _ _ _ i w a c b)
end Go.Proofs.YtlhkndcmbpcpgaaGreatDoor
