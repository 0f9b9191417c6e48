/- Texts laid together. -/
import Derived.Test.YthhiidikgchdeaaGreatDoorKs08
import Derived.Test.YthhiidikgchdeaaGreatDoorKs10
import Derived.Test.YthhiidikgchdeaaGreatDoorKs11
set_option maxRecDepth 100000
set_option maxHeartbeats 3200000
namespace Go.Proofs.YthhiidikgchdeaaGreatDoor
open _root_.Go.Proofs.Tryz
open Go.RowKit
theorem uG (g n cap base:Nat)(zs:List Nat)(d:Nat)(w:World)(u:Own w base 54 .u32 (.slice (some ⟨g,0,none⟩) n cap) zs)(x:Dg.Small 4294967296 zs)(i:0<d)(G:d<4294967296)(O:zs.length≤1000000000):
  yC 168 #[.slice (some ⟨g,0,none⟩) n cap,.int .u32 d] w fun e w'=>
   ∃qs,e= .returned (.int .u32 ((Dg.vl 4294967296 zs % d:Nat):Int))∧Own w' base 54 .u32 (.slice (some ⟨g,0,none⟩) n cap) qs∧qs.length=zs.length∧Dg.Small 4294967296 qs∧Dg.vl 4294967296 qs=Dg.vl 4294967296 zs/d∧w.grownBy w' (some g):=by
 have I:=u.len;subst I
 go_enter func168,ntmps168
 go_wp2
 go_loopw [5,6] (fun K o wr=> ∃(k r:Nat) (a:List Nat),k≤zs.length∧o=yi ((k:Int)-1)∧K= .int .u32 r∧Own wr base 54 .u32 (.slice (some ⟨g,0,none⟩) zs.length cap) a∧acQ zs a d k r∧w.grownBy wr (some g))
  (fun _ o _=>(intOf o+1).toNat)
 case atStart=>exact⟨zs.length,0,zs,Nat.le_refl _,rfl,rfl,u,⟨rfl,x,i,fun _ _=>rfl,by simp[Dg.vl]⟩,ib _ _⟩
 case round=>
  obtain⟨k,r,a,N,rfl,rfl,own,b,gr⟩:=hrel
  by_cases H:k=0
  ·subst H
   go_wp2
   go_ret
   obtain⟨E,F,s,L,h⟩:=b;simp only[List.drop_zero] at h;have B:Dg.vl 4294967296 zs/d=Dg.vl 4294967296 a:=by
    rw[h,Nat.mul_comm,Nat.mul_add_div i,Nat.div_eq_of_lt s];omega
   have C:Dg.vl 4294967296 zs % d=r:=by
    rw[h,Nat.mul_comm,Nat.mul_add_mod,Nat.mod_eq_of_lt s]
   exact⟨a,by rw[C];rfl,own,E,F,B.symm,gr⟩
  ·obtain⟨m,rfl⟩: ∃m,k=m+1:=⟨k-1,by omega⟩
   have P:=b.1;have y:=own.c m (by omega);have hf:=own.f m;have v:=b.2.2.1;have j:=x m;rw[b.2.2.2.1 m (by omega)] at y;obtain⟨z,ez⟩: ∃z,zs.getD m 0=z:=⟨_,rfl⟩;rw[ez] at y j;have A:Hid _:=ez;clear ez;have J:=I6 (t:=r*4294967296+z) v j rfl
   go_wp2_with fail
   refine(Vb r z d wr v j G).mono ?_;rintro e R ⟨rfl,q⟩;have p:=own.l q;have Q:=p.c m (by omega);have M:=p.f m;have D:=eF gr (Ew (some g) q)
   go_wp2
   go_roundw
   case rel=>exact⟨m,_,_,by omega,by go_num,rfl,p.store m _,Tx b (by omega) (by rw[A.out]) i J,eF D (bI _ _ _ _)⟩
   case measure=>simp[intOf]
theorem UL {xs d g:List Nat}{k c:Nat}(h:abk xs d g k c)(m:Dg.Norm xs)(n:Dg.Norm d)(o:Dg.Small 65536 xs)(p:Dg.Small 65536 d)(v:k<xs.length∨k<d.length∨0<c)(t:Nat)(l:t=c+xs.getD k 0+d.getD k 0):
  abk xs d (g++[t % 65536]) (k+1) (t/65536):=by
 obtain⟨f,i,s,j,u⟩:=h;have w:=o k;have x:=p k;refine⟨by simp[f],qP i (Nat.mod_lt _ (by omega)),by omega, ?_,fun _=> ?_⟩
 ·rw[Dg.vl_append,iV,iV,f]
  simp only[Dg.vl,Nat.mul_zero,Nat.add_zero];have e:65536^ (k+1)*(t/65536)=65536^k*(65536*(t/65536)):=by rw[Nat.pow_succ,Nat.mul_assoc]
  have q:65536^k*t=65536^k*(t % 65536)+65536^k*(65536*(t/65536)):=by rw[←Nat.mul_add,Nat.mod_add_div]
  have r:65536^k*t=65536^k*c+65536^k*xs.getD k 0+65536^k*d.getD k 0:=by rw[l,Nat.mul_add,Nat.mul_add]
  rw[e];omega
 ·rw[Nat.add_sub_cancel]
  by_cases a:k<xs.length
  ·have:=I0 65536 xs m k a (by omega);omega
  ·by_cases b:k<d.length
   ·have:=I0 65536 d n k b (by omega);omega
   ·rw[List.take_of_length_le (by omega),List.take_of_length_le (by omega)] at j
    have:65536^k≤65536^k*c:=Nat.le_mul_of_pos_right _ (by omega);omega
theorem I1 {xs b g:List Nat}{k c d a:Nat}(h:QA xs b g k c)(n:d<65536)(m:a≤1)(e:xs.getD k 0+65536*a=d+b.getD k 0+c):QA xs b (g++[d]) (k+1) a:=by
 obtain⟨f,l,o,p⟩:=h;refine⟨by simp[f],qP l n,m, ?_⟩;rw[Dg.vl_append,iV,iV,f];simp only[Dg.vl,Nat.mul_zero,Nat.add_zero];have i:65536^k*(xs.getD k 0+65536*a)=65536^k*(d+b.getD k 0+c):=by rw[e]
 have j:65536^ (k+1)*a=65536^k*(65536*a):=by rw[Nat.pow_succ,Nat.mul_assoc]
 rw[Nat.mul_add,Nat.mul_add,Nat.mul_add] at i;rw[j];omega
theorem Lt (X Y:Value)(xs a:List Nat)(w:World)(ha:Rd w .i64 X xs)(hb:Rd w .i64 Y a)(sa:Dg.Small 65536 xs)(sb:Dg.Small 65536 a)(ae:xs.length≤2000000)(a1:a.length≤xs.length)(W:Dg.vl 65536 a≤Dg.vl 65536 xs):
  yC 88 #[X,Y] w (Si w (Dg.vl 65536 xs-Dg.vl 65536 a)):=by
 obtain⟨ao,ca,rfl,-,-,O⟩:=ha;obtain⟨bo,cb,rfl,-,-,P⟩:=hb;obtain⟨G,A,D,E,F⟩:=info_parts Tryz.infoI64;have Z:Hid (Dg.vl 65536 a≤Dg.vl 65536 xs):=W;clear W
 go_enter func88,ntmps88
 go_wp2
 go_loopw [5,6,7] (fun ov cv L wr=> ∃(k c:Nat) (l:List Nat),k≤xs.length∧L=yi k∧cv=yi c∧Own wr w.heap.size 3 .i64 ov l∧QA xs a l k c∧yB w wr) (fun _ _ L _=>xs.length-(intOf L).toNat)
 case atStart=>exact⟨0,0,[],by omega,rfl,rfl,aQ _ _ _ _,⟨rfl,Dg.small_nil _ (by omega),by omega,by simp[Dg.vl]⟩,Below.refl _ _⟩
 case round=>
  obtain⟨k,c,l,hk,rfl,rfl,own,p,q⟩:=hrel;have ad:=p.2.2.1;have K:=p.1;have a9:=q.size
  by_cases a2:k<xs.length
  ·obtain⟨b,r,rfl,Q⟩:=O (by omega)
   have H:=cell_later q (Q k a2);have a6:=sa k;have a7:=sb k;have C: ¬k<a.length→a.getD k 0=0:=fun h=>Dg.getD_of_le _ _ (by omega)
   have B: ∀d t,d<65536→t≤1→xs.getD k 0+65536*t=d+a.getD k 0+c→QA xs a (l++[d]) (k+1) t:=fun d t v o h3=>I1 p v o h3
   have z:k<a.length→ ∃b r,bo=some ⟨b,r,none⟩∧wr.cell? ⟨b,r+k,none⟩=some (yi ((a.getD k 0:Nat):Int)):=fun h=>by
    obtain⟨b,r,e,H⟩:=P (by omega);exact⟨b,r,e,cell_later q (H k h)⟩
   obtain⟨x,M⟩: ∃x,xs.getD k 0=x:=⟨_,rfl⟩;obtain⟨y,N⟩: ∃y,a.getD k 0=y:=⟨_,rfl⟩;rw[M] at a6 B H;rw[N] at a7 C B z;have s:Hid _:=B;have a8:Hid (l.length=k):=K;have a4:l.length≤2000000:=by omega
   clear M N O P p B K Q;have m: ∀(T:Int) (d:Nat),T=((d:Nat):Int)→ ∀v' f,f.ownsRow w.heap.size 3 1 v' (l.length+1) ((l.map (fun n:Nat=>Value.int .i64 (n:Int)))++[yi T])→(wr.alloc (.cells #[yi T] 3)).grownBy f (Value.ownBlock u5)→
     Own f w.heap.size 3 .i64 v' (l++[d])∧yB w f:=by
    intro T d hT v' f v o;rw[hT] at v o;exact iW q own v o
   by_cases o:k<a.length
   ·obtain⟨b2,an,rfl,ac⟩:=z o
    clear z C
    by_cases a3:x<y+c
    ·have J:((x:Int)-(c:Int)-(y:Int))<0:=by omega
     go_wp2_with (at_builtin;refine wpList_append_own _ rfl _ _ 57 rfl w.heap.size 3 G (yi 0) 1 8 underlying57 A D E F rfl (by decide) _ _ _ rfl (World.ownsRow.alloc own _) ⟨wr.heap.size,0,none⟩ 1 1 [yi ((x:Int)-(c:Int)-(y:Int)+65536)] rfl rfl ?c1 ?c2 ?c3 ?c4 ?c5 ?_)
     try (case c1=>exact cell_one_new _ _ _)
     case c2=>first|rfl| (intro u j;simp at j;subst j;rfl)| (simp;done)| (simp[Value.oneCell'];done)| (trace_state;fail)
     case c3=>unfold maxLen;omega
     case c4=>omega
     case c5=>first|omega| (simp;omega)
     intro v' f i g _;have R:=m _ (x+65536-y-c) (by omega) v' f i g;clear i g own m
     go_wp2
     go_roundw
     case rel=>exact⟨k+1,1,_,by omega,by go_num,by go_num,R.1,s.out _ _ (by omega) (by omega) (by omega),R.2⟩
     case measure=>simp[intOf];omega
    ·have J: ¬((x:Int)-(c:Int)-(y:Int))<0:=by omega
     go_wp2_with (at_builtin;refine wpList_append_own _ rfl _ _ 57 rfl w.heap.size 3 G (yi 0) 1 8 underlying57 A D E F rfl (by decide) _ _ _ rfl (World.ownsRow.alloc own _) ⟨wr.heap.size,0,none⟩ 1 1 [yi ((x:Int)-(c:Int)-(y:Int))] rfl rfl ?d1 ?d2 ?d3 ?d4 ?d5 ?_)
     try (case d1=>exact cell_one_new _ _ _)
     case d2=>first|rfl| (intro u j;simp at j;subst j;rfl)| (simp;done)| (simp[Value.oneCell'];done)| (trace_state;fail)
     case d3=>unfold maxLen;omega
     case d4=>omega
     case d5=>first|omega| (simp;omega)
     intro v' f i g _;have R:=m _ (x-y-c) (by omega) v' f i g;clear i g own m
     go_wp2
     go_roundw
     case rel=>exact⟨k+1,0,_,by omega,by go_num,by go_num,R.1,s.out _ _ (by omega) (by omega) (by omega),R.2⟩
     case measure=>simp[intOf];omega
   ·have hy:=C o
    subst hy;clear z C
    by_cases a3:x<c
    ·have J:((x:Int)-(c:Int))<0:=by omega
     go_wp2_with (at_builtin;refine wpList_append_own _ rfl _ _ 57 rfl w.heap.size 3 G (yi 0) 1 8 underlying57 A D E F rfl (by decide) _ _ _ rfl (World.ownsRow.alloc own _) ⟨wr.heap.size,0,none⟩ 1 1 [yi ((x:Int)-(c:Int)+65536)] rfl rfl ?e1 ?e2 ?e3 ?e4 ?e5 ?_)
     try (case e1=>exact cell_one_new _ _ _)
     case e2=>first|rfl| (intro u j;simp at j;subst j;rfl)| (simp;done)| (simp[Value.oneCell'];done)| (trace_state;fail)
     case e3=>unfold maxLen;omega
     case e4=>omega
     case e5=>first|omega| (simp;omega)
     intro v' f i g _;have R:=m _ (x+65536-c) (by omega) v' f i g;clear i g own m
     go_wp2
     go_roundw
     case rel=>exact⟨k+1,1,_,by omega,by go_num,by go_num,R.1,s.out _ _ (by omega) (by omega) (by omega),R.2⟩
     case measure=>simp[intOf];omega
    ·have J: ¬((x:Int)-(c:Int))<0:=by omega
     go_wp2_with (at_builtin;refine wpList_append_own _ rfl _ _ 57 rfl w.heap.size 3 G (yi 0) 1 8 underlying57 A D E F rfl (by decide) _ _ _ rfl (World.ownsRow.alloc own _) ⟨wr.heap.size,0,none⟩ 1 1 [yi ((x:Int)-(c:Int))] rfl rfl ?f1 ?f2 ?f3 ?f4 ?f5 ?_)
     try (case f1=>exact cell_one_new _ _ _)
     case f2=>first|rfl| (intro u j;simp at j;subst j;rfl)| (simp;done)| (simp[Value.oneCell'];done)| (trace_state;fail)
     case f3=>unfold maxLen;omega
     case f4=>omega
     case f5=>first|omega| (simp;omega)
     intro v' f i g _;have R:=m _ (x-c) (by omega) v' f i g;clear i g own m
     go_wp2
     go_roundw
     case rel=>exact⟨k+1,0,_,by omega,by go_num,by go_num,R.1,s.out _ _ (by omega) (by omega) (by omega),R.2⟩
     case measure=>simp[intOf];omega
  ·have a0:k=xs.length:=by omega
   subst a0;have S:=Nl p a1 Z.out;have a5:=p.2.1;have a4:l.length≤2000000:=by omega
   clear K;obtain⟨oo,oc,rfl⟩:=own.rd.shape
   go_wp2_with fail
   refine(i9 _ _ _ _ _ own.rd).mono ?_;rintro e w' ⟨n,rfl,I,rfl⟩;have al:=I.1;have U:=uE (cap':=n) 65536 (by omega) own.rd a5 I (Nat.le_refl _) (by unfold maxLen;omega);rw[S] at U;clear I S
   go_wp2
   go_ret
   exact⟨_,rfl,U,LP (JH own) n n,q⟩
theorem kE (m:Value)(xs:List Nat)(w:World)(n:Rd w .u32 m xs)(k:Dg.Small 4294967296 xs)(q:Dg.Norm xs)(u:xs.length≤1000000000):
  yC 62 #[m] w fun e w'=>e= .returned (yi (bitLen (Dg.vl 4294967296 xs):Nat))∧w'=w:=by
 obtain⟨r,s,rfl,-,-,f⟩:=n
 by_cases a:xs.length=0
 ·obtain rfl:xs=[]:=List.eq_nil_of_length_eq_zero a
  go_enter func62,ntmps62
  go_wp2
  go_ret
  exact⟨rfl,rfl⟩
 ·have i:xs≠[]:=by intro e;subst e;simp at a
  obtain⟨b,v,rfl,g⟩:=f (by omega);have p:=g (xs.length-1) (by omega);have j:=k (xs.length-1);rw[IL 4294967296 32 (by decide) (by omega) xs k q i];obtain⟨x,c⟩: ∃x,xs.getD (xs.length-1) 0=x:=⟨_,rfl⟩;rw[c] at p j⊢;have o:=bF x 32 (by omega);have d:=IK x w j;obtain⟨l,h⟩: ∃l,bitLen x=l:=⟨_,rfl⟩;rw[h] at d o⊢;have t:((xs.length:Int)==0)=false:=by simp;intro e;subst e;simp at a
  clear c g f i h
  go_enter func62,ntmps62
  go_wp2_with fail
  refine d.mono ?_;rintro e w' ⟨rfl,rfl⟩
  go_wp2
  go_ret
  exact⟨by go_num,rfl⟩
theorem MD (va:Value)(xs:List Nat)(n f o P Q:Nat)(w:World)(ha:Rd w .i64 va xs)(C:Dg.Small 65536 xs)(b7:xs.length≤1000000)(S:n=16*f+o)(bc:o<16)(bb:n≤100000000)(r:P=2^o)(E:Q=2^ (16-o)):
  yC 131 #[va,yi n] w (Si w (Dg.vl 65536 xs/2^n)):=by
 have s:P*Q=65536:=by rw[r,E,←Nat.pow_add,show o+(16-o)=16 from by omega]
 have T:65536^f*P=2^n:=by rw[S,r,Nat.pow_add,Nat.pow_mul]
 have A:0<P:=by rw[r];exact Nat.pow_pos (by omega)
 have ac:0<Q:=by rw[E];exact Nat.pow_pos (by omega)
 have b2:P≤65536:=by rw[←s];exact Nat.le_mul_of_pos_right _ ac
 have ad:Q≤65536:=by rw[←s];exact Nat.le_mul_of_pos_left _ A
 obtain⟨ao,ca,rfl,-,-,a0⟩:=ha;obtain⟨i0,hi,a6,a7,a8⟩:=info_parts Tryz.infoI64;have hq:(n:Int)/16=(f:Int):=by omega
 have hr:(n:Int) % 16=(o:Int):=by omega
 have bf:f≤100000000:=by omega
 have Y:Hid _:=s;have a9:Hid _:=T;have X:Hid _:=r
 by_cases an:xs.length≤f
 ·have hz:Dg.vl 65536 xs/2^n=0:=by
   apply Nat.div_eq_of_lt;have h1:=Dg.vl_lt 65536 xs C;have M:65536^xs.length≤65536^f:=Nat.pow_le_pow_right (by omega) an;have h3:65536^f≤65536^f*P:=Nat.le_mul_of_pos_right _ A;omega
  rw[hz];clear hz S s T r E
  go_enter func131,ntmps131
  go_wp2
  go_ret
  exact⟨_,rfl,(aQ _ 0 0 _).rd,(fun a n c h=>by cases h),Below.refl _ _⟩
 ·have b4:(65536:Int)/(P:Int)=(Q:Int):=by
   have:65536/P=Q:=by rw[←s];exact Nat.mul_div_cancel_left _ A
   rw[←this];exact(Int.natCast_ediv 65536 P).symm
  clear S s T r E
  go_enter func131,ntmps131
  go_wp2
  go_loop [5,6] (fun dv p=> ∃k d:Nat,k≤o∧p=yi k∧dv=yi d∧Hid (d=2^k)) (fun _ p=>o-(intOf p).toNat)
  case atStart=>exact⟨0,1,Nat.zero_le _,rfl,rfl,rfl⟩
  case round=>
   obtain⟨k,d,hk,rfl,rfl,F⟩:=hrel;have al:d≤65536:=by
    rw[F.out];have:2^k≤2^15:=Nat.pow_le_pow_right (by omega) (by omega);omega
   by_cases b8:k<o
   ·go_wp2
    go_round
    case rel=>exact⟨k+1,2*d,by omega,by go_num,by go_num,by rw[show d=2^k from F.out,Nat.pow_succ];exact Nat.mul_comm _ _⟩
    case measure=>simp[intOf];omega
   ·have ap:k=o:=by omega
    subst ap;have ae:d=P:=F.out.trans X.out.symm;subst ae;clear F al X
    go_wp2
    go_loopw [7,8] (fun ov p wr=> ∃j:Nat,f+j≤xs.length∧p=yi ((f+j:Nat):Int)∧Own wr w.heap.size 3 .i64 ov ((low d Q (xs.drop f)).take j)∧yB w wr) (fun _ p _=>xs.length-(intOf p).toNat)
    case atStart=>exact⟨0,by omega,by go_num,aQ _ _ _ _,Below.refl _ _⟩
    case round=>
     obtain⟨j,hj,rfl,own,q⟩:=hrel
     by_cases aq:f+j<xs.length
     ·obtain⟨b,bg,rfl,N⟩:=a0 (by omega)
      have hx:=cell_later q (N (f+j) aq);have I:=fun h:f+j+1<xs.length=>cell_later q (N (f+j+1) h)
      have b0:=C (f+j);have b1:=C (f+j+1);have J: ¬f+j+1<xs.length→xs.getD (f+j+1) 0=0:=fun h=>Dg.getD_of_le _ _ (by omega)
      have z:=XR d Q (xs.drop f) j (by simp;omega);rw[ui,ui,←Nat.add_assoc] at z;obtain⟨x,ex⟩: ∃x,xs.getD (f+j) 0=x:=⟨_,rfl⟩;obtain⟨y,ey⟩: ∃y,xs.getD (f+j+1) 0=y:=⟨_,rfl⟩;obtain⟨L,K⟩: ∃L,(low d Q (xs.drop f)).take j=L:=⟨_,rfl⟩;have b5:L.length≤1000000:=by rw[←K];simp[mA];omega
      rw[ex] at hx b0 z;rw[ey] at I b1 J z;rw[K] at z own;have D:Hid _:=z;have b3:=q.size;obtain⟨q1,H⟩: ∃q1,x/d=q1:=⟨_,rfl⟩;obtain⟨g,G⟩: ∃g,y % d=g:=⟨_,rfl⟩;have bd:(x:Int)/(d:Int)=(q1:Int):=by rw[←H];exact(Int.natCast_ediv x d).symm
      have a2:(y:Int) % (d:Int)=(g:Int):=by rw[←G];exact(Int.natCast_emod y d).symm
      have be:q1≤65536:=by rw[←H];have:=Nat.div_le_self x d;omega
      have b9:g<d:=by rw[←G];exact Nat.mod_lt _ A
      rw[H,G] at D;have ax:g*Q≤65536*65536:=Nat.mul_le_mul (by omega) ad;have az:(g:Int)*(Q:Int)≤4294967296:=by rw[←Int.natCast_mul];omega
      have ay:0≤(g:Int)*(Q:Int):=by rw[←Int.natCast_mul];omega
      clear ex ey K N a0 z H G ax
      by_cases M:f+j+1<xs.length
      ·have a5:=I M
       clear I J;have W:=fun m=>Own.l own (aL (Below.refl wr.heap.size wr) m)
       go_wp2
       go_quiet (fail)
       go_wp2_with (at_builtin;refine wpList_append_own _ rfl _ _ 57 rfl w.heap.size 3 i0 (yi 0) 1 8 underlying57 hi a6 a7 a8 rfl (by decide) _ _ _ rfl (World.ownsRow.alloc (W _) _) ⟨wr.heap.size,0,none⟩ 1 1 [yi ((q1:Int)+(g:Int)*(Q:Int))] rfl rfl ?c1 ?c2 ?c3 ?c4 ?c5 ?_)
       case c1=>exact cell_one_new _ _ _
       case c2=>intro u B;simp at B;subst B;rfl
       case c3=>unfold maxLen;omega
       case c4=>omega
       case c5=>simp;omega
       intro v' w3 v t _;have Z:((q1:Int)+(g:Int)*(Q:Int))=((q1+g*Q:Nat):Int):=by rw[Int.natCast_add,Int.natCast_mul]
       rw[Z] at v t;have R:=iW (aL q _) (W _) v t;clear v t own W Z
       go_wp2
       go_roundw
       case rel=>exact⟨j+1,by omega,by go_num,by rw[D.out];exact R.1,R.2⟩
       case measure=>simp[intOf];omega
      ·have a5:=J M
       subst a5;have av:g=0:=by
        have:(g:Int)=0:=by rw[←a2];simp
        omega
       subst av;simp only[Nat.zero_mul,Nat.add_zero] at D;clear I J a2 az ay
       go_wp2_with (at_builtin;refine wpList_append_own _ rfl _ _ 57 rfl w.heap.size 3 i0 (yi 0) 1 8 underlying57 hi a6 a7 a8 rfl (by decide) _ _ _ rfl (World.ownsRow.alloc own _) ⟨wr.heap.size,0,none⟩ 1 1 [yi ((q1:Int))] rfl rfl ?d1 ?d2 ?d3 ?d4 ?d5 ?_)
       case d1=>exact cell_one_new _ _ _
       case d2=>intro u B;simp at B;subst B;rfl
       case d3=>unfold maxLen;omega
       case d4=>omega
       case d5=>simp;omega
       intro v' w3 v t _;have R:=iW q own v t;clear v t own
       go_wp2
       go_roundw
       case rel=>exact⟨j+1,by omega,by go_num,by rw[D.out];exact R.1,R.2⟩
       case measure=>simp[intOf];omega
     ·have b6:f+j=xs.length:=by omega
      rw[List.take_of_length_le (by rw[mA];simp;omega)] at own;have a4:=Ug d Q (xs.drop f) Y.out (fun i=>by rw[ui];exact C _)
      have U:Dg.vl 65536 (low d Q (xs.drop f))=Dg.vl 65536 xs/2^n:=by
       have:=Y8 d Q A (xs.drop f);rw[Y.out] at this;rw[this,aa7 65536 (by omega) xs f (by omega) C,Nat.div_div_eq_div_mul,a9.out]
      have ar:(low d Q (xs.drop f)).length≤1000000:=by rw[mA];simp;omega
      obtain⟨ls,a1⟩: ∃ls,low d Q (xs.drop f)=ls:=⟨_,rfl⟩;rw[a1] at own a4 U ar;have HV:Hid _:=U;clear a1 U;obtain⟨oo,oc,rfl⟩:=own.rd.shape;have hF:=JH own
      go_wp2_with fail
      refine(i9 _ _ _ _ _ own.rd).mono ?_;rintro e w' ⟨m,rfl,O,rfl⟩;have ba:=O.1;have HF:Hid (Far w.heap.size (.slice oo m m)):=LP hF m m;clear hF;have a3:=uE (cap':=m) 65536 (by omega) own.rd a4 O (Nat.le_refl _) (by unfold maxLen;omega);rw[HV.out] at a3;clear O
      go_wp2
      go_ret
      exact⟨_,rfl,a3,HF.out,q⟩
theorem Zw (x:Nat)(w:World)(b:x<4294967296)(c:x≠0)(h:Tab w):
  yC 151 #[.int .u32 x] w fun e w'=> ∃k m:Nat,e= .returned (yi k)∧x=2^k*(2*m+1)∧k<32∧w'=w:=by
 obtain⟨i,a⟩:=Lib.lowest_bit 32 x c b;obtain⟨f,l⟩:=Lib.deBruijn32_at _ a;obtain⟨m,j,_⟩:=Lib.ctzFrom_spec 32 x (by omega) b;have g:Lib.ctz 32 x=Lib.ctzFrom 32 x:=by simp[Lib.ctz,c]
 have d:=h _ f;rw[l] at d;refine(Vp x _ _ w (by simp;omega) (tz32_key x _ b c i) f a d).mono ?_;rintro e w' ⟨rfl,rfl⟩;exact⟨_,m,rfl,by rw[g];exact j,a,rfl⟩
theorem Gl (v:Value)(n:Nat)(w:World)(f:Rd w .u32 v (Dg.dg 4294967296 n))(G:(Dg.dg 4294967296 n).length≤1000000000)(H:Tab w):
  yC 117 #[v] w fun e w'=>e= .returned (yi ((if n=0 then 0 else tz n:Nat):Int))∧w'=w:=by
 have o:=Dg.small_dg 4294967296 n (by omega);have g:=Dg.vl_dg 4294967296 n (by omega);have p:(∀j,(Dg.dg 4294967296 n).getD j 0=0)→n=0:=fun h=>by rw[←g];exact Dg.vl_zeros _ _ h
 obtain⟨xs,a⟩: ∃xs,Dg.dg 4294967296 n=xs:=⟨_,rfl⟩;rw[a] at f o g p G;obtain⟨L,M,rfl⟩:=f.shape;obtain⟨O,P,y⟩:=iQ f;have F:Hid (∀k,xs.length≤k→(∀j,j<k→xs.getD j 0=0)→n=0):=fun k J h=>p (fun j=>by
  by_cases d:j<k
  ·exact h j d
  ·simp[List.getD_eq_getElem?_getD,show xs.length≤j from by omega])
 have s:Hid _:=g;clear a p g f
 go_enter func117,ntmps117
 go_wp2
 go_loop [7] (fun r=> ∃k:Nat,k≤xs.length∧r=yi k∧Hid (∀j,j<k→xs.getD j 0=0)) (fun r=>xs.length-(intOf r).toNat)
 case atStart=>exact⟨0,Nat.zero_le _,rfl,fun j d=>absurd d (Nat.not_lt_zero j)⟩
 case round=>
  obtain⟨k,J,rfl,q⟩:=hrel
  by_cases B:k<xs.length
  ·obtain⟨b,Q,rfl,z⟩:=y (by omega)
   have I:=z k B;have A:=o k;obtain⟨x,a⟩: ∃x,xs.getD k 0=x:=⟨_,rfl⟩;rw[a] at I A;have l:Hid _:=a;clear a z y
   by_cases i:x=0
   ·subst i
    go_wp2
    go_round
    case rel=>exact⟨k+1,by omega,by go_num,fun j d=>by
     by_cases e:j=k
     ·rw[e];exact l.out
     ·exact q.out j (by omega)⟩
    case measure=>simp[intOf];omega
   ·have D:=Zw x w A i H
    have N:((x:Int)==0)=false:=by simp;exact i
    go_wp2_with fail
    refine D.mono ?_;rintro e w' ⟨t,m,rfl,E,K,rfl⟩;have c:=Zx xs k t m B q.out (by rw[l.out];exact E) K;rw[s.out] at c;have C:n≠0:=by
     intro e;have u:=adl 4294967296 xs k (by omega) o (by rw[s.out];exact e);rw[l.out] at u;exact i u
    clear D E
    go_wp2
    go_ret
    refine⟨?_,rfl⟩
    first|rfl| (rw[c];rfl)| (simp only[c];rfl)| (show Ending.returned (Value.int IntKind.i64 (32*(k:Int)+(t:Int)))=_;rw[c];rfl)
  ·have C:=F.out k (by omega) q.out
   go_wp2
   go_ret
   subst C;exact⟨rfl,rfl⟩
theorem lp_few {nn j:Nat}(d:2^j≤nn)(tn:Nat): ∀F f i t s r:Nat,t<2^ (j*f)→(lp nn tn F i t s r).1≤i+f:=by
 intro F
 induction F with
 |zero=>intro f i t s r _;simp only[lp];omega
 |succ F ih=>
  intro f i t s r e
  by_cases a:t=0
  ·rw[lp,if_pos a];simp only;omega
  ·cases f with
   |zero=>
    rw[Nat.mul_zero,Nat.pow_zero] at e;omega
   |succ f=>
    have b:t/nn<2^ (j*f):=by
     have c:0<2^j:=Nat.pow_pos (by omega);refine Nat.lt_of_le_of_lt (Nat.div_le_div_left d c) (Nat.div_lt_of_lt_mul ?_)
     rwa [←Nat.pow_add,Nat.add_comm,←Nat.mul_succ]
    rw[lp,if_neg a]
    split
    ·have:=ih f (i+1) (t/nn) (s+t/(2*i+1)) r b
     omega
    ·have:=ih f (i+1) (t/nn) s (r+t/(2*i+1)) b
     omega
end Go.Proofs.YthhiidikgchdeaaGreatDoor
