/- Texts laid together. -/
import Derived.Test.YthhiidikgchdeabGreatDoorLb08
import Derived.Test.YthhiidikgchdeabGreatDoorLb10
import Derived.Test.YthhiidikgchdeabGreatDoorLb11
import Derived.Test.YthhiidikgchdeabGreatDoorLb12
set_option maxRecDepth 100000
set_option maxHeartbeats 3200000
namespace Go.Proofs.YthhiidikgchdeabGreatDoor
open _root_.Go.Proofs.Tryz
open Go.RowKit
theorem UL {xs d g:List Nat}{k c:Nat}(h:abk xs d g k c)(m:Dg.Norm xs)(n:Dg.Norm d)(o:Dg.Small 65536 xs)(p:Dg.Small 65536 d)(v:k<xs.length∨k<d.length∨0<c)(t:Nat)(l:t=c+xs.getD k 0+d.getD k 0):
  abk xs d (g++[t % 65536]) (k+1) (t/65536):=by
 obtain⟨f,i,s,j,u⟩:=h;have w:=o k;have x:=p k;refine⟨by simp[f],qP i (Nat.mod_lt _ (by omega)),by omega, ?_,fun _=> ?_⟩
 ·rw[Dg.vl_append,iV,iV,f]
  simp only[Dg.vl,Nat.mul_zero,Nat.add_zero];have e:65536^ (k+1)*(t/65536)=65536^k*(65536*(t/65536)):=by rw[Nat.pow_succ,Nat.mul_assoc]
  have q:65536^k*t=65536^k*(t % 65536)+65536^k*(65536*(t/65536)):=by rw[←Nat.mul_add,Nat.mod_add_div]
  have r:65536^k*t=65536^k*c+65536^k*xs.getD k 0+65536^k*d.getD k 0:=by rw[l,Nat.mul_add,Nat.mul_add]
  rw[e];omega
 ·rw[Nat.add_sub_cancel]
  by_cases a:k<xs.length
  ·have:=I0 65536 xs m k a (by omega);omega
  ·by_cases b:k<d.length
   ·have:=I0 65536 d n k b (by omega);omega
   ·rw[List.take_of_length_le (by omega),List.take_of_length_le (by omega)] at j
    have:65536^k≤65536^k*c:=Nat.le_mul_of_pos_right _ (by omega);omega
theorem I1 {xs b g:List Nat}{k c d a:Nat}(h:QA xs b g k c)(n:d<65536)(m:a≤1)(e:xs.getD k 0+65536*a=d+b.getD k 0+c):QA xs b (g++[d]) (k+1) a:=by
 obtain⟨f,l,o,p⟩:=h;refine⟨by simp[f],qP l n,m, ?_⟩;rw[Dg.vl_append,iV,iV,f];simp only[Dg.vl,Nat.mul_zero,Nat.add_zero];have i:65536^k*(xs.getD k 0+65536*a)=65536^k*(d+b.getD k 0+c):=by rw[e]
 have j:65536^ (k+1)*a=65536^k*(65536*a):=by rw[Nat.pow_succ,Nat.mul_assoc]
 rw[Nat.mul_add,Nat.mul_add,Nat.mul_add] at i;rw[j];omega
theorem ew (va vb:Value)(xs a:List Nat)(w:World)(ha:Rd w .i64 va xs)(hb:Rd w .i64 vb a)(Y:Dg.Small 65536 xs)(Z:Dg.Small 65536 a)(na:Dg.Norm xs)(nb:Dg.Norm a)(a9:xs.length≤2000000)(ac:a.length≤2000000):
  yC 91 #[va,vb] w (cG w (Dg.vl 65536 xs+Dg.vl 65536 a)):=by
 obtain⟨ao,ca,rfl,-,-,Q⟩:=ha;obtain⟨bo,cb,rfl,-,-,S⟩:=hb;obtain⟨L,G,I,J,K⟩:=info_parts Tryz.infoI64
 go_enter func91,ntmps91
 go_wp2
 go_loopw [5,6,7] (fun ov cv N wr=> ∃(k c:Nat) (s:List Nat),k≤2000001∧(2000000<k→c=0)∧N=yi k∧cv=yi c∧Own wr w.heap.size 3 .i64 ov s∧abk xs a s k c∧yB w wr) (fun _ _ N _=>2000002-(intOf N).toNat)
 case atStart=>exact⟨0,0,[],by omega,fun _=>rfl,rfl,rfl,aQ _ _ _ _,⟨rfl,Dg.small_nil _ (by omega),by omega,by simp[Dg.vl],fun h=>by omega⟩,Below.refl _ _⟩
 case round=>
  obtain⟨k,c,s,hk,W,rfl,rfl,own,C,B⟩:=hrel;have a7:=C.2.2.1;have X:=C.1;have a5:=B.size
  by_cases p:k<xs.length∨k<a.length∨0<c
  ·have a8:k≤2000000:=by
    rcases Nat.lt_or_ge 2000000 k with h|h
    ·have:=W h;omega
    ·exact h
   have a1:=Y k;have a2:=Z k;have r: ¬k<xs.length→xs.getD k 0=0:=fun h=>Dg.getD_of_le _ _ (by omega)
   have o: ¬k<a.length→a.getD k 0=0:=fun h=>Dg.getD_of_le _ _ (by omega)
   have A:=fun t ht=>UL C na nb Y Z p t ht
   have H:2000000<k+1→(c+xs.getD k 0+a.getD k 0)/65536=0:=fun h=>by
    rw[r (by omega),o (by omega)];omega
   have z:k<xs.length→ ∃b j,ao=some ⟨b,j,none⟩∧wr.cell? ⟨b,j+k,none⟩=some (yi ((xs.getD k 0:Nat):Int)):=fun h=>by
    obtain⟨b,j,e,F⟩:=Q (by omega);exact⟨b,j,e,cell_later B (F k h)⟩
   have q:k<a.length→ ∃b j,bo=some ⟨b,j,none⟩∧wr.cell? ⟨b,j+k,none⟩=some (yi ((a.getD k 0:Nat):Int)):=fun h=>by
    obtain⟨b,j,e,F⟩:=S (by omega);exact⟨b,j,e,cell_later B (F k h)⟩
   obtain⟨x,O⟩: ∃x,xs.getD k 0=x:=⟨_,rfl⟩;obtain⟨y,P⟩: ∃y,a.getD k 0=y:=⟨_,rfl⟩;rw[O] at a1 r A H z;rw[P] at a2 o A H q;have A:=A _ rfl;have E:Hid _:=A;have a4:Hid _:=X;have D:Hid _:=H;have ad:s.length≤2000000:=by omega
   clear O P Q S C A W X H;have m: ∀(T:Int),T=((c+x+y:Nat):Int)→ ∀v' d,d.ownsRow w.heap.size 3 1 v' (s.length+1) ((s.map (fun n:Nat=>Value.int .i64 (n:Int)))++[yi (T % 65536)])→(wr.alloc (.cells #[yi (T % 65536)] 3)).grownBy d (Value.ownBlock u5)→
     Own d w.heap.size 3 .i64 v' (s++[(c+x+y) % 65536])∧yB w d:=by
    intro T hT v' d v l;have e0:T % 65536=(((c+x+y) % 65536:Nat):Int):=by omega
    rw[e0] at v l;exact iW B own v l
   by_cases v:k<xs.length
   ·obtain⟨b,j,rfl,F⟩:=z v
    by_cases l:k<a.length
    ·obtain⟨b2,a3,rfl,a0⟩:=q l
     clear z q r o p
     go_wp2_with (at_builtin;refine wpList_append_own _ rfl _ _ 41 rfl w.heap.size 3 L (yi 0) 1 8 underlying41 G I J K rfl (by decide) _ _ _ rfl (World.ownsRow.alloc own _) ⟨wr.heap.size,0,none⟩ 1 1 [yi (((c:Int)+(x:Int)+(y:Int)) % 65536)] rfl rfl ?c1 ?c2 ?c3 ?c4 ?c5 ?_)
     case c1=>exact cell_one_new _ _ _
     case c2=>intro u i;simp at i;subst i;rfl
     case c3=>unfold maxLen;omega
     case c4=>omega
     case c5=>simp;omega
     intro v' d g f _;have R:=m _ (by omega) v' d g f;clear g f own m
     go_wp2
     go_roundw
     case rel=>exact⟨k+1,(c+x+y)/65536,_,by omega,fun h=>D.out (by omega),by go_num,by go_num,R.1,E.out,R.2⟩
     case measure=>simp[intOf];omega
    ·have M:=o l
     subst M;clear z q r o p
     go_wp2_with (at_builtin;refine wpList_append_own _ rfl _ _ 41 rfl w.heap.size 3 L (yi 0) 1 8 underlying41 G I J K rfl (by decide) _ _ _ rfl (World.ownsRow.alloc own _) ⟨wr.heap.size,0,none⟩ 1 1 [yi (((c:Int)+(x:Int)) % 65536)] rfl rfl ?d1 ?d2 ?d3 ?d4 ?d5 ?_)
     case d1=>exact cell_one_new _ _ _
     case d2=>intro u i;simp at i;subst i;rfl
     case d3=>unfold maxLen;omega
     case d4=>omega
     case d5=>simp;omega
     intro v' d g f _;have R:=m _ (by omega) v' d g f;clear g f own m
     go_wp2
     go_roundw
     case rel=>exact⟨k+1,_,_,by omega,fun h=>D.out (by omega),by go_num,by go_num,R.1,E.out,R.2⟩
     case measure=>simp[intOf];omega
   ·have hx:=r v
    subst hx
    by_cases l:k<a.length
    ·obtain⟨b2,a3,rfl,a0⟩:=q l
     clear z q r o p
     go_wp2_with (at_builtin;refine wpList_append_own _ rfl _ _ 41 rfl w.heap.size 3 L (yi 0) 1 8 underlying41 G I J K rfl (by decide) _ _ _ rfl (World.ownsRow.alloc own _) ⟨wr.heap.size,0,none⟩ 1 1 [yi (((c:Int)+(y:Int)) % 65536)] rfl rfl ?e1 ?e2 ?e3 ?e4 ?e5 ?_)
     case e1=>exact cell_one_new _ _ _
     case e2=>intro u i;simp at i;subst i;rfl
     case e3=>unfold maxLen;omega
     case e4=>omega
     case e5=>simp;omega
     intro v' d g f _;have R:=m _ (by omega) v' d g f;clear g f own m
     go_wp2
     go_roundw
     case rel=>exact⟨k+1,_,_,by omega,fun h=>D.out (by omega),by go_num,by go_num,R.1,E.out,R.2⟩
     case measure=>simp[intOf];omega
    ·have M:=o l
     subst M;have a6:0<c:=by omega
     clear z q r o p
     go_wp2_with (at_builtin;refine wpList_append_own _ rfl _ _ 41 rfl w.heap.size 3 L (yi 0) 1 8 underlying41 G I J K rfl (by decide) _ _ _ rfl (World.ownsRow.alloc own _) ⟨wr.heap.size,0,none⟩ 1 1 [yi (((c:Int)) % 65536)] rfl rfl ?f1 ?f2 ?f3 ?f4 ?f5 ?_)
     case f1=>exact cell_one_new _ _ _
     case f2=>intro u i;simp at i;subst i;rfl
     case f3=>unfold maxLen;omega
     case f4=>omega
     case f5=>simp;omega
     intro v' d g f _;have R:=m _ (by omega) v' d g f;clear g f own m
     go_wp2
     go_roundw
     case rel=>exact⟨k+1,_,_,by omega,fun h=>D.out (by omega),by go_num,by go_num,R.1,E.out,R.2⟩
     case measure=>simp[intOf];omega
  ·have U:=Yx C p
   have v: ¬k<xs.length:=by omega
   have l: ¬k<a.length:=by omega
   have h3: ¬0<c:=by omega
   rw[U] at own;clear U p
   go_wp2
   go_ret
   exact⟨_,rfl,own.rd,B⟩
theorem Lt (X Y:Value)(xs a:List Nat)(w:World)(ha:Rd w .i64 X xs)(hb:Rd w .i64 Y a)(sa:Dg.Small 65536 xs)(sb:Dg.Small 65536 a)(ae:xs.length≤2000000)(a1:a.length≤xs.length)(W:Dg.vl 65536 a≤Dg.vl 65536 xs):
  yC 93 #[X,Y] w (Si w (Dg.vl 65536 xs-Dg.vl 65536 a)):=by
 obtain⟨ao,ca,rfl,-,-,O⟩:=ha;obtain⟨bo,cb,rfl,-,-,P⟩:=hb;obtain⟨G,A,D,E,F⟩:=info_parts Tryz.infoI64;have Z:Hid (Dg.vl 65536 a≤Dg.vl 65536 xs):=W;clear W
 go_enter func93,ntmps93
 go_wp2
 go_loopw [5,6,7] (fun ov cv L wr=> ∃(k c:Nat) (l:List Nat),k≤xs.length∧L=yi k∧cv=yi c∧Own wr w.heap.size 3 .i64 ov l∧QA xs a l k c∧yB w wr) (fun _ _ L _=>xs.length-(intOf L).toNat)
 case atStart=>exact⟨0,0,[],by omega,rfl,rfl,aQ _ _ _ _,⟨rfl,Dg.small_nil _ (by omega),by omega,by simp[Dg.vl]⟩,Below.refl _ _⟩
 case round=>
  obtain⟨k,c,l,hk,rfl,rfl,own,p,q⟩:=hrel;have ad:=p.2.2.1;have K:=p.1;have a9:=q.size
  by_cases a2:k<xs.length
  ·obtain⟨b,r,rfl,Q⟩:=O (by omega)
   have H:=cell_later q (Q k a2);have a6:=sa k;have a7:=sb k;have C: ¬k<a.length→a.getD k 0=0:=fun h=>Dg.getD_of_le _ _ (by omega)
   have B: ∀d t,d<65536→t≤1→xs.getD k 0+65536*t=d+a.getD k 0+c→QA xs a (l++[d]) (k+1) t:=fun d t v o h3=>I1 p v o h3
   have z:k<a.length→ ∃b r,bo=some ⟨b,r,none⟩∧wr.cell? ⟨b,r+k,none⟩=some (yi ((a.getD k 0:Nat):Int)):=fun h=>by
    obtain⟨b,r,e,H⟩:=P (by omega);exact⟨b,r,e,cell_later q (H k h)⟩
   obtain⟨x,M⟩: ∃x,xs.getD k 0=x:=⟨_,rfl⟩;obtain⟨y,N⟩: ∃y,a.getD k 0=y:=⟨_,rfl⟩;rw[M] at a6 B H;rw[N] at a7 C B z;have s:Hid _:=B;have a8:Hid (l.length=k):=K;have a4:l.length≤2000000:=by omega
   clear M N O P p B K Q;have m: ∀(T:Int) (d:Nat),T=((d:Nat):Int)→ ∀v' f,f.ownsRow w.heap.size 3 1 v' (l.length+1) ((l.map (fun n:Nat=>Value.int .i64 (n:Int)))++[yi T])→(wr.alloc (.cells #[yi T] 3)).grownBy f (Value.ownBlock u5)→
     Own f w.heap.size 3 .i64 v' (l++[d])∧yB w f:=by
    intro T d hT v' f v o;rw[hT] at v o;exact iW q own v o
   by_cases o:k<a.length
   ·obtain⟨b2,an,rfl,ac⟩:=z o
    clear z C
    by_cases a3:x<y+c
    ·have J:((x:Int)-(c:Int)-(y:Int))<0:=by omega
     go_wp2_with (at_builtin;refine wpList_append_own _ rfl _ _ 41 rfl w.heap.size 3 G (yi 0) 1 8 underlying41 A D E F rfl (by decide) _ _ _ rfl (World.ownsRow.alloc own _) ⟨wr.heap.size,0,none⟩ 1 1 [yi ((x:Int)-(c:Int)-(y:Int)+65536)] rfl rfl ?c1 ?c2 ?c3 ?c4 ?c5 ?_)
     try (case c1=>exact cell_one_new _ _ _)
     case c2=>first|rfl| (intro u j;simp at j;subst j;rfl)| (simp;done)| (simp[Value.oneCell'];done)| (trace_state;fail)
     case c3=>unfold maxLen;omega
     case c4=>omega
     case c5=>first|omega| (simp;omega)
     intro v' f i g _;have R:=m _ (x+65536-y-c) (by omega) v' f i g;clear i g own m
     go_wp2
     go_roundw
     case rel=>exact⟨k+1,1,_,by omega,by go_num,by go_num,R.1,s.out _ _ (by omega) (by omega) (by omega),R.2⟩
     case measure=>simp[intOf];omega
    ·have J: ¬((x:Int)-(c:Int)-(y:Int))<0:=by omega
     go_wp2_with (at_builtin;refine wpList_append_own _ rfl _ _ 41 rfl w.heap.size 3 G (yi 0) 1 8 underlying41 A D E F rfl (by decide) _ _ _ rfl (World.ownsRow.alloc own _) ⟨wr.heap.size,0,none⟩ 1 1 [yi ((x:Int)-(c:Int)-(y:Int))] rfl rfl ?d1 ?d2 ?d3 ?d4 ?d5 ?_)
     try (case d1=>exact cell_one_new _ _ _)
     case d2=>first|rfl| (intro u j;simp at j;subst j;rfl)| (simp;done)| (simp[Value.oneCell'];done)| (trace_state;fail)
     case d3=>unfold maxLen;omega
     case d4=>omega
     case d5=>first|omega| (simp;omega)
     intro v' f i g _;have R:=m _ (x-y-c) (by omega) v' f i g;clear i g own m
     go_wp2
     go_roundw
     case rel=>exact⟨k+1,0,_,by omega,by go_num,by go_num,R.1,s.out _ _ (by omega) (by omega) (by omega),R.2⟩
     case measure=>simp[intOf];omega
   ·have hy:=C o
    subst hy;clear z C
    by_cases a3:x<c
    ·have J:((x:Int)-(c:Int))<0:=by omega
     go_wp2_with (at_builtin;refine wpList_append_own _ rfl _ _ 41 rfl w.heap.size 3 G (yi 0) 1 8 underlying41 A D E F rfl (by decide) _ _ _ rfl (World.ownsRow.alloc own _) ⟨wr.heap.size,0,none⟩ 1 1 [yi ((x:Int)-(c:Int)+65536)] rfl rfl ?e1 ?e2 ?e3 ?e4 ?e5 ?_)
     try (case e1=>exact cell_one_new _ _ _)
     case e2=>first|rfl| (intro u j;simp at j;subst j;rfl)| (simp;done)| (simp[Value.oneCell'];done)| (trace_state;fail)
     case e3=>unfold maxLen;omega
     case e4=>omega
     case e5=>first|omega| (simp;omega)
     intro v' f i g _;have R:=m _ (x+65536-c) (by omega) v' f i g;clear i g own m
     go_wp2
     go_roundw
     case rel=>exact⟨k+1,1,_,by omega,by go_num,by go_num,R.1,s.out _ _ (by omega) (by omega) (by omega),R.2⟩
     case measure=>simp[intOf];omega
    ·have J: ¬((x:Int)-(c:Int))<0:=by omega
     go_wp2_with (at_builtin;refine wpList_append_own _ rfl _ _ 41 rfl w.heap.size 3 G (yi 0) 1 8 underlying41 A D E F rfl (by decide) _ _ _ rfl (World.ownsRow.alloc own _) ⟨wr.heap.size,0,none⟩ 1 1 [yi ((x:Int)-(c:Int))] rfl rfl ?f1 ?f2 ?f3 ?f4 ?f5 ?_)
     try (case f1=>exact cell_one_new _ _ _)
     case f2=>first|rfl| (intro u j;simp at j;subst j;rfl)| (simp;done)| (simp[Value.oneCell'];done)| (trace_state;fail)
     case f3=>unfold maxLen;omega
     case f4=>omega
     case f5=>first|omega| (simp;omega)
     intro v' f i g _;have R:=m _ (x-c) (by omega) v' f i g;clear i g own m
     go_wp2
     go_roundw
     case rel=>exact⟨k+1,0,_,by omega,by go_num,by go_num,R.1,s.out _ _ (by omega) (by omega) (by omega),R.2⟩
     case measure=>simp[intOf];omega
  ·have a0:k=xs.length:=by omega
   subst a0;have S:=Nl p a1 Z.out;have a5:=p.2.1;have a4:l.length≤2000000:=by omega
   clear K;obtain⟨oo,oc,rfl⟩:=own.rd.shape
   go_wp2_with fail
   refine(i9 _ _ _ _ _ own.rd).mono ?_;rintro e w' ⟨n,rfl,I,rfl⟩;have al:=I.1;have U:=uE (cap':=n) 65536 (by omega) own.rd a5 I (Nat.le_refl _) (by unfold maxLen;omega);rw[S] at U;clear I S
   go_wp2
   go_ret
   exact⟨_,rfl,U,LP (JH own) n n,q⟩
theorem Qj {xs a b:List Nat}{i k c:Nat}(h:M5 xs a b i k c)(v:Dg.Small 65536 xs)(w:Dg.Small 65536 a)(B:i<xs.length)(C:k<a.length∨0<c)(t:Nat)(l:t=b.getD (i+k) 0+c+xs.getD i 0*a.getD k 0):
  M5 xs a (b.set (i+k) (t % 65536)) i (k+1) (t/65536):=by
 obtain⟨m,f,x,n,g,o,y,z⟩:=h;have D:k≤a.length:=by
  rcases Nat.lt_or_ge a.length k with e|e
  ·have:=o e;omega
  ·exact e
 have d:i+k<b.length:=by omega
 have F:=f (i+k);have H:=C8 (v i) (w k);refine⟨by simpa using m,Dg.small_set f _ _ (Nat.mod_lt _ (by omega)),by omega,fun j q=> ?_,fun r=> ?_,fun r=> ?_,by omega, ?_⟩
 ·rw[Dg.getD_set _ _ _ _ d,if_neg (by omega)];exact n j q
 ·rw[Dg.getD_set _ _ _ _ d,if_neg (by omega)];exact g (by omega)
 ·have s:k=a.length:=by omega
  subst s;rw[g (Nat.le_refl _),Dg.getD_of_le a _ (Nat.le_refl _)] at l;omega
 ·have G:=Dg.vl_set 65536 b (i+k) (t % 65536) d
  rw[iV];have u:65536^ (i+(k+1))*(t/65536)=65536^ (i+k)*(65536*(t/65536)):=by
   rw[show i+(k+1)=(i+k)+1 from by omega,Nat.pow_succ,Nat.mul_assoc]
  have E:65536^ (i+k)*t=65536^ (i+k)*(t % 65536)+65536^ (i+k)*(65536*(t/65536)):=by
   rw[←Nat.mul_add,Nat.mod_add_div]
  have A:65536^ (i+k)*t=65536^ (i+k)*b.getD (i+k) 0+65536^ (i+k)*c+65536^ (i+k)*(xs.getD i 0*a.getD k 0):=by
   rw[l,Nat.mul_add,Nat.mul_add]
  have p:65536^i*(xs.getD i 0*(Dg.vl 65536 (a.take k)+65536^k*a.getD k 0))=65536^i*(xs.getD i 0*Dg.vl 65536 (a.take k))+65536^ (i+k)*(xs.getD i 0*a.getD k 0):=by
   rw[Nat.mul_add,Nat.mul_add,Nat.pow_add]
   congr 1
   rw[Nat.mul_assoc,Nat.mul_left_comm (xs.getD i 0)]
  rw[u,p];omega
theorem MD (va:Value)(xs:List Nat)(n f o P Q:Nat)(w:World)(ha:Rd w .i64 va xs)(C:Dg.Small 65536 xs)(b7:xs.length≤1000000)(S:n=16*f+o)(bc:o<16)(bb:n≤100000000)(r:P=2^o)(E:Q=2^ (16-o)):
  yC 88 #[va,yi n] w (Si w (Dg.vl 65536 xs/2^n)):=by
 have s:P*Q=65536:=by rw[r,E,←Nat.pow_add,show o+(16-o)=16 from by omega]
 have T:65536^f*P=2^n:=by rw[S,r,Nat.pow_add,Nat.pow_mul]
 have A:0<P:=by rw[r];exact Nat.pow_pos (by omega)
 have ac:0<Q:=by rw[E];exact Nat.pow_pos (by omega)
 have b2:P≤65536:=by rw[←s];exact Nat.le_mul_of_pos_right _ ac
 have ad:Q≤65536:=by rw[←s];exact Nat.le_mul_of_pos_left _ A
 obtain⟨ao,ca,rfl,-,-,a0⟩:=ha;obtain⟨i0,hi,a6,a7,a8⟩:=info_parts Tryz.infoI64;have hq:(n:Int)/16=(f:Int):=by omega
 have hr:(n:Int) % 16=(o:Int):=by omega
 have bf:f≤100000000:=by omega
 have Y:Hid _:=s;have a9:Hid _:=T;have X:Hid _:=r
 by_cases an:xs.length≤f
 ·have hz:Dg.vl 65536 xs/2^n=0:=by
   apply Nat.div_eq_of_lt;have h1:=Dg.vl_lt 65536 xs C;have M:65536^xs.length≤65536^f:=Nat.pow_le_pow_right (by omega) an;have h3:65536^f≤65536^f*P:=Nat.le_mul_of_pos_right _ A;omega
  rw[hz];clear hz S s T r E
  go_enter func88,ntmps88
  go_wp2
  go_ret
  exact⟨_,rfl,(aQ _ 0 0 _).rd,(fun a n c h=>by cases h),Below.refl _ _⟩
 ·have b4:(65536:Int)/(P:Int)=(Q:Int):=by
   have:65536/P=Q:=by rw[←s];exact Nat.mul_div_cancel_left _ A
   rw[←this];exact(Int.natCast_ediv 65536 P).symm
  clear S s T r E
  go_enter func88,ntmps88
  go_wp2
  go_loop [5,6] (fun dv p=> ∃k d:Nat,k≤o∧p=yi k∧dv=yi d∧Hid (d=2^k)) (fun _ p=>o-(intOf p).toNat)
  case atStart=>exact⟨0,1,Nat.zero_le _,rfl,rfl,rfl⟩
  case round=>
   obtain⟨k,d,hk,rfl,rfl,F⟩:=hrel;have al:d≤65536:=by
    rw[F.out];have:2^k≤2^15:=Nat.pow_le_pow_right (by omega) (by omega);omega
   by_cases b8:k<o
   ·go_wp2
    go_round
    case rel=>exact⟨k+1,2*d,by omega,by go_num,by go_num,by rw[show d=2^k from F.out,Nat.pow_succ];exact Nat.mul_comm _ _⟩
    case measure=>simp[intOf];omega
   ·have ap:k=o:=by omega
    subst ap;have ae:d=P:=F.out.trans X.out.symm;subst ae;clear F al X
    go_wp2
    go_loopw [7,8] (fun ov p wr=> ∃j:Nat,f+j≤xs.length∧p=yi ((f+j:Nat):Int)∧Own wr w.heap.size 3 .i64 ov ((low d Q (xs.drop f)).take j)∧yB w wr) (fun _ p _=>xs.length-(intOf p).toNat)
    case atStart=>exact⟨0,by omega,by go_num,aQ _ _ _ _,Below.refl _ _⟩
    case round=>
     obtain⟨j,hj,rfl,own,q⟩:=hrel
     by_cases aq:f+j<xs.length
     ·obtain⟨b,bg,rfl,N⟩:=a0 (by omega)
      have hx:=cell_later q (N (f+j) aq);have I:=fun h:f+j+1<xs.length=>cell_later q (N (f+j+1) h)
      have b0:=C (f+j);have b1:=C (f+j+1);have J: ¬f+j+1<xs.length→xs.getD (f+j+1) 0=0:=fun h=>Dg.getD_of_le _ _ (by omega)
      have z:=XR d Q (xs.drop f) j (by simp;omega);rw[ui,ui,←Nat.add_assoc] at z;obtain⟨x,ex⟩: ∃x,xs.getD (f+j) 0=x:=⟨_,rfl⟩;obtain⟨y,ey⟩: ∃y,xs.getD (f+j+1) 0=y:=⟨_,rfl⟩;obtain⟨L,K⟩: ∃L,(low d Q (xs.drop f)).take j=L:=⟨_,rfl⟩;have b5:L.length≤1000000:=by rw[←K];simp[mA];omega
      rw[ex] at hx b0 z;rw[ey] at I b1 J z;rw[K] at z own;have D:Hid _:=z;have b3:=q.size;obtain⟨q1,H⟩: ∃q1,x/d=q1:=⟨_,rfl⟩;obtain⟨g,G⟩: ∃g,y % d=g:=⟨_,rfl⟩;have bd:(x:Int)/(d:Int)=(q1:Int):=by rw[←H];exact(Int.natCast_ediv x d).symm
      have a2:(y:Int) % (d:Int)=(g:Int):=by rw[←G];exact(Int.natCast_emod y d).symm
      have be:q1≤65536:=by rw[←H];have:=Nat.div_le_self x d;omega
      have b9:g<d:=by rw[←G];exact Nat.mod_lt _ A
      rw[H,G] at D;have ax:g*Q≤65536*65536:=Nat.mul_le_mul (by omega) ad;have az:(g:Int)*(Q:Int)≤4294967296:=by rw[←Int.natCast_mul];omega
      have ay:0≤(g:Int)*(Q:Int):=by rw[←Int.natCast_mul];omega
      clear ex ey K N a0 z H G ax
      by_cases M:f+j+1<xs.length
      ·have a5:=I M
       clear I J;have W:=fun m=>Own.l own (aL (Below.refl wr.heap.size wr) m)
       go_wp2
       go_quiet (fail)
       go_wp2_with (at_builtin;refine wpList_append_own _ rfl _ _ 41 rfl w.heap.size 3 i0 (yi 0) 1 8 underlying41 hi a6 a7 a8 rfl (by decide) _ _ _ rfl (World.ownsRow.alloc (W _) _) ⟨wr.heap.size,0,none⟩ 1 1 [yi ((q1:Int)+(g:Int)*(Q:Int))] rfl rfl ?c1 ?c2 ?c3 ?c4 ?c5 ?_)
       case c1=>exact cell_one_new _ _ _
       case c2=>intro u B;simp at B;subst B;rfl
       case c3=>unfold maxLen;omega
       case c4=>omega
       case c5=>simp;omega
       intro v' w3 v t _;have Z:((q1:Int)+(g:Int)*(Q:Int))=((q1+g*Q:Nat):Int):=by rw[Int.natCast_add,Int.natCast_mul]
       rw[Z] at v t;have R:=iW (aL q _) (W _) v t;clear v t own W Z
       go_wp2
       go_roundw
       case rel=>exact⟨j+1,by omega,by go_num,by rw[D.out];exact R.1,R.2⟩
       case measure=>simp[intOf];omega
      ·have a5:=J M
       subst a5;have av:g=0:=by
        have:(g:Int)=0:=by rw[←a2];simp
        omega
       subst av;simp only[Nat.zero_mul,Nat.add_zero] at D;clear I J a2 az ay
       go_wp2_with (at_builtin;refine wpList_append_own _ rfl _ _ 41 rfl w.heap.size 3 i0 (yi 0) 1 8 underlying41 hi a6 a7 a8 rfl (by decide) _ _ _ rfl (World.ownsRow.alloc own _) ⟨wr.heap.size,0,none⟩ 1 1 [yi ((q1:Int))] rfl rfl ?d1 ?d2 ?d3 ?d4 ?d5 ?_)
       case d1=>exact cell_one_new _ _ _
       case d2=>intro u B;simp at B;subst B;rfl
       case d3=>unfold maxLen;omega
       case d4=>omega
       case d5=>simp;omega
       intro v' w3 v t _;have R:=iW q own v t;clear v t own
       go_wp2
       go_roundw
       case rel=>exact⟨j+1,by omega,by go_num,by rw[D.out];exact R.1,R.2⟩
       case measure=>simp[intOf];omega
     ·have b6:f+j=xs.length:=by omega
      rw[List.take_of_length_le (by rw[mA];simp;omega)] at own;have a4:=Ug d Q (xs.drop f) Y.out (fun i=>by rw[ui];exact C _)
      have U:Dg.vl 65536 (low d Q (xs.drop f))=Dg.vl 65536 xs/2^n:=by
       have:=Y8 d Q A (xs.drop f);rw[Y.out] at this;rw[this,aa7 65536 (by omega) xs f (by omega) C,Nat.div_div_eq_div_mul,a9.out]
      have ar:(low d Q (xs.drop f)).length≤1000000:=by rw[mA];simp;omega
      obtain⟨ls,a1⟩: ∃ls,low d Q (xs.drop f)=ls:=⟨_,rfl⟩;rw[a1] at own a4 U ar;have HV:Hid _:=U;clear a1 U;obtain⟨oo,oc,rfl⟩:=own.rd.shape;have hF:=JH own
      go_wp2_with fail
      refine(i9 _ _ _ _ _ own.rd).mono ?_;rintro e w' ⟨m,rfl,O,rfl⟩;have ba:=O.1;have HF:Hid (Far w.heap.size (.slice oo m m)):=LP hF m m;clear hF;have a3:=uE (cap':=m) 65536 (by omega) own.rd a4 O (Nat.le_refl _) (by unfold maxLen;omega);rw[HV.out] at a3;clear O
      go_wp2
      go_ret
      exact⟨_,rfl,a3,HF.out,q⟩
theorem KH (x:Nat)(q:x<18446744073709551616)(w:World):
  yC 76 #[.int .u64 x] w fun z w'=> ∃v,z= .returned v∧Own w' w.heap.size 36 .u32 v (Dg.dg 4294967296 x)∧yB w w':=by
 have o:(x:Int) % 4294967296=((x % 4294967296:Nat):Int):=by omega
 have m:(x:Int)/4294967296=((x/4294967296:Nat):Int):=by omega
 have j:x/4294967296<4294967296:=by omega
 have h:x % 4294967296<4294967296:=Nat.mod_lt _ (by omega);have c:=Nq x;obtain⟨b,g⟩: ∃n,x % 4294967296=n:=⟨_,rfl⟩;obtain⟨a,f⟩: ∃n,x/4294967296=n:=⟨_,rfl⟩;rw[g] at o c h;rw[f] at m c j;have own:Own (w.alloc (.cells #[.int .u32 (b:Int),.int .u32 (a:Int)] 36)) w.heap.size 36 .u32 (.slice (some ⟨w.heap.size,0,none⟩) 2 2) [b,a]:=
  pr (zs:=[b,a]) (heap_alloc_new _ _) (Nat.le_refl _) (by unfold maxLen;simp)
 have p:=jD (some ⟨w.heap.size,0,none⟩) 2 2 [b,a] _ own.rd;have d:Dg.Small 4294967296 [b,a]:=by
  intro i
  match i with
  |0=>exact h
  |1=>exact j
  |i+2=>simp
 have l:=af w (.cells #[.int .u32 (b:Int),.int .u32 (a:Int)] 36);have k:Hid (_∧_):=⟨c,d⟩;have r:(x:Int)<18446744073709551616:=by omega
 clear g f c d
 go_enter func76,ntmps76
 go_wp2_with fail
 refine p.mono ?_;rintro z s ⟨n,rfl,e,rfl⟩
 go_wp2
 go_ret
 obtain⟨c,d⟩:=k.out;refine⟨_,rfl, ?_,l⟩;have:=Dg.trim_eq 4294967296 (by omega) [b,a] n d e.1 e.2.1 e.2.2;rw[c] at this;rw[←this];exact own.take n e.1
theorem PInv.done {U:IvN}{c:Nat→Rat}{wU d mu t:Rat}{k:Nat}{b B a R:IvN}(h:PInv U c wU d k b B)(f: ∀k,0≤c (k+1)∧c (k+1)≤1)(g:U.inn mu)(v:U.lo≤U.hi)(i: ∀k,mu*c (k+1)≤1/2)(z:U.wd≤wU)(w:0≤d)
  (L:(k:Rat)*(2*(wU+d)+8*d)≤1)
  (H:IvN.Cut d (IvN.scl (c (k+1)) (IvN.times B U)) a) (j:a.inn t) (p:IvN.Cut d (IvN.plus b (IvN.times a ⟨1/2,2⟩)) R):
  (∀u,U.has u→ ∀m,k+2≤m→R.has (rs (tmS u c) m))∧R.wd≤((k:Rat)+2)*(2*(wU+d)+8*d)+2*t∧R.lo≤R.hi:=by
 obtain⟨C,D,n,o⟩:=h.term f g v i z w H;have s3:=h.sum_in f g v i L;have a0:0≤wU:=by unfold IvN.wd at z;grind
 have Z:=hf_one (k+1);have q:(⟨1/2,2⟩:IvN).inn 2:=by constructor<;>simp only<;>grind
 have s:(⟨1/2,2⟩:IvN).lo≤(⟨1/2,2⟩:IvN).hi:=by simp only;grind
 have J:(⟨1/2,2⟩:IvN).wd=3/2:=by unfold IvN.wd;simp only;grind
 obtain⟨Q,t2,t3⟩:=IvN.times_wd j q n s;obtain⟨_,t5,_⟩:=IvN.times_wd D q n s;have hh:hf (k+1)≤1/2:=by have:=hf_one k;simp only[hf];grind
 have K:(IvN.plus b (IvN.times a ⟨1/2,2⟩)).inn 4:=by
  unfold IvN.plus IvN.inn at*
  constructor<;>grind
 have M:(IvN.plus b (IvN.times a ⟨1/2,2⟩)).lo≤(IvN.plus b (IvN.times a ⟨1/2,2⟩)).hi:=by
  have:=h.sum_ord;unfold IvN.plus
  grind
 obtain⟨S,T⟩:=p.wd w K M;refine⟨fun u l m hm=> ?_, ?_,T⟩
 ·have N: ∀k,ab u*c (k+1)≤1/2:=fun k=>Rat.le_trans (Rat.mul_le_mul_of_nonneg_right (ab_inn g l) (f k).1) (i k)
  obtain⟨r,O,P,_,_,A⟩:=tm_tail (fun k=>(f k).1) N (m-(k+2)) (k+1)
  rw[show k+1+(m-(k+2))+1=m by omega] at A
  have x:=IvN.plus_has (h.sum_has u l) (IvN.times_has (C u l) (show(⟨1/2,2⟩:IvN).has r from⟨O,P⟩))
  rw[←A] at x;have y:=p.has x;have e:rs (tmS u c) (k+1)+(rs (tmS u c) m-rs (tmS u c) (k+1))=rs (tmS u c) m:=by grind
  rwa [e] at y
 ·have e:((k+1:Nat):Rat)=(k:Rat)+1:=by simp
  have I:((k+1+1:Nat):Rat)=(k:Rat)+1+1:=by simp
  have E:=hf_nat (k+1);have W:=hf_pos (k+1);have k0:=nat_nn k;rw[I] at E;rw[e] at o;have X:=Rat.mul_le_mul_of_nonneg_right (show hf (k+1)*((k:Rat)+1)≤1 by grind) (show 0≤2*(wU+d) by grind)
  have F:hf (k+1)*(((k:Rat)+1)*(2*(wU+d)))=hf (k+1)*((k:Rat)+1)*(2*(wU+d)):=by grind
  rw[F] at o;have Y:=h.sum_wd;have G:(IvN.plus b (IvN.times a ⟨1/2,2⟩)).wd=b.wd+(IvN.times a ⟨1/2,2⟩).wd:=by unfold IvN.plus IvN.wd;grind
  rw[G] at S;rw[J] at Q;have t0:0≤t:=by have:=j.1;have:=j.2;grind
  grind
theorem na_few {n j tn k:Nat}(d:1≤j)(h:2^j≤n*n):NA n tn k≤k/j+1:=by
 have a:2^k/n<2^ (j*(k/j+1)):=by
  refine Nat.lt_of_le_of_lt (Nat.div_le_self _ _) (Nat.pow_lt_pow_right (by omega) ?_);have b:=Nat.div_add_mod k j;have c:=Nat.mod_lt k (show 0<j by omega)
  rw[Nat.mul_succ];omega
 have:=lp_few h tn (k+1) (k/j+1) 0 (2^k/n) 0 0 a;unfold NA;omega
end Go.Proofs.YthhiidikgchdeabGreatDoor
