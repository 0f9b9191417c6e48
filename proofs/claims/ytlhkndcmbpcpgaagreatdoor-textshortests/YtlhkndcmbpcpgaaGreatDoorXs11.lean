/- Texts laid together. -/
import Derived.Test.YtlhkndcmbpcpgaaGreatDoorXs03
import Derived.Test.YtlhkndcmbpcpgaaGreatDoorXs04
import Derived.Test.YtlhkndcmbpcpgaaGreatDoorXs06
set_option maxRecDepth 100000
set_option maxHeartbeats 12800000
namespace Go.Proofs.YtlhkndcmbpcpgaaGreatDoor
open _root_.Go.Proofs.Tryz
open Go.RowKit
theorem UL {xs d g:List Nat}{k c:Nat}(h:abk xs d g k c)(m:Dg.Norm xs)(n:Dg.Norm d)(o:Dg.Small 65536 xs)(p:Dg.Small 65536 d)(v:k<xs.length∨k<d.length∨0<c)(t:Nat)(l:t=c+xs.getD k 0+d.getD k 0):
  abk xs d (g++[t % 65536]) (k+1) (t/65536):=by
 obtain⟨f,i,s,j,u⟩:=h;have w:=o k;have x:=p k;refine⟨by simp[f],qP i (Nat.mod_lt _ (by omega)),by omega, ?_,fun _=> ?_⟩
 ·rw[Dg.vl_append,iV,iV,f]
  simp only[Dg.vl,Nat.mul_zero,Nat.add_zero];have e:65536^ (k+1)*(t/65536)=65536^k*(65536*(t/65536)):=by rw[Nat.pow_succ,Nat.mul_assoc]
  have q:65536^k*t=65536^k*(t % 65536)+65536^k*(65536*(t/65536)):=by rw[←Nat.mul_add,Nat.mod_add_div]
  have r:65536^k*t=65536^k*c+65536^k*xs.getD k 0+65536^k*d.getD k 0:=by rw[l,Nat.mul_add,Nat.mul_add]
  rw[e];omega
 ·rw[Nat.add_sub_cancel]
  by_cases a:k<xs.length
  ·have:=I0 65536 xs m k a (by omega);omega
  ·by_cases b:k<d.length
   ·have:=I0 65536 d n k b (by omega);omega
   ·rw[List.take_of_length_le (by omega),List.take_of_length_le (by omega)] at j
    have:65536^k≤65536^k*c:=Nat.le_mul_of_pos_right _ (by omega);omega
theorem I1 {xs b g:List Nat}{k c d a:Nat}(h:QA xs b g k c)(n:d<65536)(m:a≤1)(e:xs.getD k 0+65536*a=d+b.getD k 0+c):QA xs b (g++[d]) (k+1) a:=by
 obtain⟨f,l,o,p⟩:=h;refine⟨by simp[f],qP l n,m, ?_⟩;rw[Dg.vl_append,iV,iV,f];simp only[Dg.vl,Nat.mul_zero,Nat.add_zero];have i:65536^k*(xs.getD k 0+65536*a)=65536^k*(d+b.getD k 0+c):=by rw[e]
 have j:65536^ (k+1)*a=65536^k*(65536*a):=by rw[Nat.pow_succ,Nat.mul_assoc]
 rw[Nat.mul_add,Nat.mul_add,Nat.mul_add] at i;rw[j];omega
theorem ew (va vb:Value)(xs a:List Nat)(w:World)(ha:Rd w .i64 va xs)(hb:Rd w .i64 vb a)(Z:Dg.Small 65536 xs)(sb:Dg.Small 65536 a)(na:Dg.Norm xs)(nb:Dg.Norm a)(a9:xs.length≤2000000)(ab:a.length≤2000000):
  yC 22 #[va,vb] w (cG w (Dg.vl 65536 xs+Dg.vl 65536 a)):=by
 obtain⟨ao,ca,rfl,-,-,S⟩:=ha;obtain⟨bo,cb,rfl,-,-,U⟩:=hb;obtain⟨M,H,J,K,L⟩:=info_parts Tryz.infoI64
 go_enter func22,ntmps22
 go_wp2
 go_loopw [5,6,7] (fun ov cv O wr=> ∃(k c:Nat) (v:List Nat),k≤2000001∧(2000000<k→c=0)∧O=yi k∧cv=yi c∧Own wr w.heap.size 3 .i64 ov v∧abk xs a v k c∧yB w wr) (fun _ _ O _=>2000002-(intOf O).toNat)
 case atStart=>exact⟨0,0,[],by omega,fun _=>rfl,rfl,rfl,aQ _ _ _ _,⟨rfl,Dg.small_nil _ (by omega),by omega,by simp[Dg.vl],fun h=>by omega⟩,Below.refl _ _⟩
 case round=>
  obtain⟨k,c,v,hk,X,rfl,rfl,own,D,C⟩:=hrel;have a7:=D.2.2.1;have Y:=D.1;have a5:=C.size
  by_cases q:k<xs.length∨k<a.length∨0<c
  ·have a8:k≤2000000:=by
    rcases Nat.lt_or_ge 2000000 k with h|h
    ·have:=X h;omega
    ·exact h
   have a1:=Z k;have a2:=sb k;have s: ¬k<xs.length→xs.getD k 0=0:=fun h=>Dg.getD_of_le _ _ (by omega)
   have p: ¬k<a.length→a.getD k 0=0:=fun h=>Dg.getD_of_le _ _ (by omega)
   have B:=fun t ht=>UL D na nb Z sb q t ht
   have I:2000000<k+1→(c+xs.getD k 0+a.getD k 0)/65536=0:=fun h=>by
    rw[s (by omega),p (by omega)];omega
   have A:k<xs.length→ ∃b l,ao=some ⟨b,l,none⟩∧wr.cell? ⟨b,l+k,none⟩=some (yi ((xs.getD k 0:Nat):Int)):=fun h=>by
    obtain⟨b,l,e,G⟩:=S (by omega);exact⟨b,l,e,cell_later C (G k h)⟩
   have r:k<a.length→ ∃b l,bo=some ⟨b,l,none⟩∧wr.cell? ⟨b,l+k,none⟩=some (yi ((a.getD k 0:Nat):Int)):=fun h=>by
    obtain⟨b,l,e,G⟩:=U (by omega);exact⟨b,l,e,cell_later C (G k h)⟩
   obtain⟨x,P⟩: ∃x,xs.getD k 0=x:=⟨_,rfl⟩;obtain⟨y,Q⟩: ∃y,a.getD k 0=y:=⟨_,rfl⟩;rw[P] at a1 s B I A;rw[Q] at a2 p B I r;have B:=B _ rfl;have F:Hid _:=B;have a4:Hid _:=Y;have E:Hid _:=I;have ac:v.length≤2000000:=by omega
   clear P Q S U D B X Y I;have o: ∀(T:Int),T=((c+x+y:Nat):Int)→ ∀j d,d.ownsRow w.heap.size 3 1 j (v.length+1) ((v.map (fun n:Nat=>Value.int .i64 (n:Int)))++[yi (T % 65536)])→(wr.alloc (.cells #[yi (T % 65536)] 3)).grownBy d (Value.ownBlock u5)→
     Own d w.heap.size 3 .i64 j (v++[(c+x+y) % 65536])∧yB w d:=by
    intro T hT j d z m;have e0:T % 65536=(((c+x+y) % 65536:Nat):Int):=by omega
    rw[e0] at z m;exact iW C own z m
   by_cases z:k<xs.length
   ·obtain⟨b,l,rfl,G⟩:=A z
    by_cases m:k<a.length
    ·obtain⟨b2,a3,rfl,a0⟩:=r m
     clear A r s p q
     go_wp2_with (at_builtin;refine wpList_append_own _ rfl _ _ 26 rfl w.heap.size 3 M (yi 0) 1 8 underlying26 H J K L rfl (by decide) _ _ _ rfl (World.ownsRow.alloc own _) ⟨wr.heap.size,0,none⟩ 1 1 [yi (((c:Int)+(x:Int)+(y:Int)) % 65536)] rfl rfl ?c1 ?c2 ?c3 ?c4 ?c5 ?_)
     case c1=>exact cell_one_new _ _ _
     case c2=>intro u i;simp at i;subst i;rfl
     case c3=>unfold maxLen;omega
     case c4=>omega
     case c5=>simp;omega
     intro j d g f _;have R:=o _ (by omega) j d g f;clear g f own o
     go_wp2
     go_roundw
     case rel=>exact⟨k+1,(c+x+y)/65536,_,by omega,fun h=>E.out (by omega),by go_num,by go_num,R.1,F.out,R.2⟩
     case measure=>simp[intOf];omega
    ·have N:=p m
     subst N;clear A r s p q
     go_wp2_with (at_builtin;refine wpList_append_own _ rfl _ _ 26 rfl w.heap.size 3 M (yi 0) 1 8 underlying26 H J K L rfl (by decide) _ _ _ rfl (World.ownsRow.alloc own _) ⟨wr.heap.size,0,none⟩ 1 1 [yi (((c:Int)+(x:Int)) % 65536)] rfl rfl ?d1 ?d2 ?d3 ?d4 ?d5 ?_)
     case d1=>exact cell_one_new _ _ _
     case d2=>intro u i;simp at i;subst i;rfl
     case d3=>unfold maxLen;omega
     case d4=>omega
     case d5=>simp;omega
     intro j d g f _;have R:=o _ (by omega) j d g f;clear g f own o
     go_wp2
     go_roundw
     case rel=>exact⟨k+1,_,_,by omega,fun h=>E.out (by omega),by go_num,by go_num,R.1,F.out,R.2⟩
     case measure=>simp[intOf];omega
   ·have hx:=s z
    subst hx
    by_cases m:k<a.length
    ·obtain⟨b2,a3,rfl,a0⟩:=r m
     clear A r s p q
     go_wp2_with (at_builtin;refine wpList_append_own _ rfl _ _ 26 rfl w.heap.size 3 M (yi 0) 1 8 underlying26 H J K L rfl (by decide) _ _ _ rfl (World.ownsRow.alloc own _) ⟨wr.heap.size,0,none⟩ 1 1 [yi (((c:Int)+(y:Int)) % 65536)] rfl rfl ?e1 ?e2 ?e3 ?e4 ?e5 ?_)
     case e1=>exact cell_one_new _ _ _
     case e2=>intro u i;simp at i;subst i;rfl
     case e3=>unfold maxLen;omega
     case e4=>omega
     case e5=>simp;omega
     intro j d g f _;have R:=o _ (by omega) j d g f;clear g f own o
     go_wp2
     go_roundw
     case rel=>exact⟨k+1,_,_,by omega,fun h=>E.out (by omega),by go_num,by go_num,R.1,F.out,R.2⟩
     case measure=>simp[intOf];omega
    ·have N:=p m
     subst N;have a6:0<c:=by omega
     clear A r s p q
     go_wp2_with (at_builtin;refine wpList_append_own _ rfl _ _ 26 rfl w.heap.size 3 M (yi 0) 1 8 underlying26 H J K L rfl (by decide) _ _ _ rfl (World.ownsRow.alloc own _) ⟨wr.heap.size,0,none⟩ 1 1 [yi (((c:Int)) % 65536)] rfl rfl ?f1 ?f2 ?f3 ?f4 ?f5 ?_)
     case f1=>exact cell_one_new _ _ _
     case f2=>intro u i;simp at i;subst i;rfl
     case f3=>unfold maxLen;omega
     case f4=>omega
     case f5=>simp;omega
     intro j d g f _;have R:=o _ (by omega) j d g f;clear g f own o
     go_wp2
     go_roundw
     case rel=>exact⟨k+1,_,_,by omega,fun h=>E.out (by omega),by go_num,by go_num,R.1,F.out,R.2⟩
     case measure=>simp[intOf];omega
  ·have W:=Yx D q
   have z: ¬k<xs.length:=by omega
   have m: ¬k<a.length:=by omega
   have h3: ¬0<c:=by omega
   rw[W] at own;clear W q
   go_wp2
   go_ret
   exact⟨_,rfl,own.rd,C⟩
theorem Lt (Y Z:Value)(xs a:List Nat)(w:World)(ha:Rd w .i64 Y xs)(hb:Rd w .i64 Z a)(sa:Dg.Small 65536 xs)(sb:Dg.Small 65536 a)(ad:xs.length≤2000000)(a1:a.length≤xs.length)(X:Dg.vl 65536 a≤Dg.vl 65536 xs):
  yC 100 #[Y,Z] w (Si w (Dg.vl 65536 xs-Dg.vl 65536 a)):=by
 obtain⟨ao,ca,rfl,-,-,P⟩:=ha;obtain⟨bo,cb,rfl,-,-,Q⟩:=hb;obtain⟨H,B,E,F,G⟩:=info_parts Tryz.infoI64;have HV:Hid (Dg.vl 65536 a≤Dg.vl 65536 xs):=X;clear X
 go_enter func100,ntmps100
 go_wp2
 go_loopw [5,6,7] (fun ov cv M wr=> ∃(k c:Nat) (m:List Nat),k≤xs.length∧M=yi k∧cv=yi c∧Own wr w.heap.size 3 .i64 ov m∧QA xs a m k c∧yB w wr) (fun _ _ M _=>xs.length-(intOf M).toNat)
 case atStart=>exact⟨0,0,[],by omega,rfl,rfl,aQ _ _ _ _,⟨rfl,Dg.small_nil _ (by omega),by omega,by simp[Dg.vl]⟩,Below.refl _ _⟩
 case round=>
  obtain⟨k,c,m,hk,rfl,rfl,own,q,r⟩:=hrel;have ac:=q.2.2.1;have L:=q.1;have a9:=r.size
  by_cases a2:k<xs.length
  ·obtain⟨b,s,rfl,S⟩:=P (by omega)
   have I:=cell_later r (S k a2);have a6:=sa k;have a7:=sb k;have D: ¬k<a.length→a.getD k 0=0:=fun h=>Dg.getD_of_le _ _ (by omega)
   have C: ∀d v,d<65536→v≤1→xs.getD k 0+65536*v=d+a.getD k 0+c→QA xs a (m++[d]) (k+1) v:=fun d v z p h3=>I1 q z p h3
   have A:k<a.length→ ∃b s,bo=some ⟨b,s,none⟩∧wr.cell? ⟨b,s+k,none⟩=some (yi ((a.getD k 0:Nat):Int)):=fun h=>by
    obtain⟨b,s,e,I⟩:=Q (by omega);exact⟨b,s,e,cell_later r (I k h)⟩
   obtain⟨x,N⟩: ∃x,xs.getD k 0=x:=⟨_,rfl⟩;obtain⟨y,O⟩: ∃y,a.getD k 0=y:=⟨_,rfl⟩;rw[N] at a6 C I;rw[O] at a7 D C A;have t:Hid _:=C;have a8:Hid (m.length=k):=L;have a4:m.length≤2000000:=by omega
   clear N O P Q q C L S;have o: ∀(T:Int) (d:Nat),T=((d:Nat):Int)→ ∀l f,f.ownsRow w.heap.size 3 1 l (m.length+1) ((m.map (fun n:Nat=>Value.int .i64 (n:Int)))++[yi T])→(wr.alloc (.cells #[yi T] 3)).grownBy f (Value.ownBlock u5)→
     Own f w.heap.size 3 .i64 l (m++[d])∧yB w f:=by
    intro T d hT l f z p;rw[hT] at z p;exact iW r own z p
   by_cases p:k<a.length
   ·obtain⟨b2,al,rfl,ab⟩:=A p
    clear A D
    by_cases a3:x<y+c
    ·have K:((x:Int)-(c:Int)-(y:Int))<0:=by omega
     go_wp2_with (at_builtin;refine wpList_append_own _ rfl _ _ 26 rfl w.heap.size 3 H (yi 0) 1 8 underlying26 B E F G rfl (by decide) _ _ _ rfl (World.ownsRow.alloc own _) ⟨wr.heap.size,0,none⟩ 1 1 [yi ((x:Int)-(c:Int)-(y:Int)+65536)] rfl rfl ?c1 ?c2 ?c3 ?c4 ?c5 ?_)
     try (case c1=>exact cell_one_new _ _ _)
     case c2=>first|rfl| (intro u j;simp at j;subst j;rfl)| (simp;done)| (simp[Value.oneCell'];done)| (trace_state;fail)
     case c3=>unfold maxLen;omega
     case c4=>omega
     case c5=>first|omega| (simp;omega)
     intro l f i g _;have R:=o _ (x+65536-y-c) (by omega) l f i g;clear i g own o
     go_wp2
     go_roundw
     case rel=>exact⟨k+1,1,_,by omega,by go_num,by go_num,R.1,t.out _ _ (by omega) (by omega) (by omega),R.2⟩
     case measure=>simp[intOf];omega
    ·have K: ¬((x:Int)-(c:Int)-(y:Int))<0:=by omega
     go_wp2_with (at_builtin;refine wpList_append_own _ rfl _ _ 26 rfl w.heap.size 3 H (yi 0) 1 8 underlying26 B E F G rfl (by decide) _ _ _ rfl (World.ownsRow.alloc own _) ⟨wr.heap.size,0,none⟩ 1 1 [yi ((x:Int)-(c:Int)-(y:Int))] rfl rfl ?d1 ?d2 ?d3 ?d4 ?d5 ?_)
     try (case d1=>exact cell_one_new _ _ _)
     case d2=>first|rfl| (intro u j;simp at j;subst j;rfl)| (simp;done)| (simp[Value.oneCell'];done)| (trace_state;fail)
     case d3=>unfold maxLen;omega
     case d4=>omega
     case d5=>first|omega| (simp;omega)
     intro l f i g _;have R:=o _ (x-y-c) (by omega) l f i g;clear i g own o
     go_wp2
     go_roundw
     case rel=>exact⟨k+1,0,_,by omega,by go_num,by go_num,R.1,t.out _ _ (by omega) (by omega) (by omega),R.2⟩
     case measure=>simp[intOf];omega
   ·have hy:=D p
    subst hy;clear A D
    by_cases a3:x<c
    ·have K:((x:Int)-(c:Int))<0:=by omega
     go_wp2_with (at_builtin;refine wpList_append_own _ rfl _ _ 26 rfl w.heap.size 3 H (yi 0) 1 8 underlying26 B E F G rfl (by decide) _ _ _ rfl (World.ownsRow.alloc own _) ⟨wr.heap.size,0,none⟩ 1 1 [yi ((x:Int)-(c:Int)+65536)] rfl rfl ?e1 ?e2 ?e3 ?e4 ?e5 ?_)
     try (case e1=>exact cell_one_new _ _ _)
     case e2=>first|rfl| (intro u j;simp at j;subst j;rfl)| (simp;done)| (simp[Value.oneCell'];done)| (trace_state;fail)
     case e3=>unfold maxLen;omega
     case e4=>omega
     case e5=>first|omega| (simp;omega)
     intro l f i g _;have R:=o _ (x+65536-c) (by omega) l f i g;clear i g own o
     go_wp2
     go_roundw
     case rel=>exact⟨k+1,1,_,by omega,by go_num,by go_num,R.1,t.out _ _ (by omega) (by omega) (by omega),R.2⟩
     case measure=>simp[intOf];omega
    ·have K: ¬((x:Int)-(c:Int))<0:=by omega
     go_wp2_with (at_builtin;refine wpList_append_own _ rfl _ _ 26 rfl w.heap.size 3 H (yi 0) 1 8 underlying26 B E F G rfl (by decide) _ _ _ rfl (World.ownsRow.alloc own _) ⟨wr.heap.size,0,none⟩ 1 1 [yi ((x:Int)-(c:Int))] rfl rfl ?f1 ?f2 ?f3 ?f4 ?f5 ?_)
     try (case f1=>exact cell_one_new _ _ _)
     case f2=>first|rfl| (intro u j;simp at j;subst j;rfl)| (simp;done)| (simp[Value.oneCell'];done)| (trace_state;fail)
     case f3=>unfold maxLen;omega
     case f4=>omega
     case f5=>first|omega| (simp;omega)
     intro l f i g _;have R:=o _ (x-c) (by omega) l f i g;clear i g own o
     go_wp2
     go_roundw
     case rel=>exact⟨k+1,0,_,by omega,by go_num,by go_num,R.1,t.out _ _ (by omega) (by omega) (by omega),R.2⟩
     case measure=>simp[intOf];omega
  ·have a0:k=xs.length:=by omega
   subst a0;have U:=Nl q a1 HV.out;have a5:=q.2.1;have a4:m.length≤2000000:=by omega
   clear L;obtain⟨oo,oc,rfl⟩:=own.rd.shape
   go_wp2_with fail
   refine(i9 _ _ _ _ _ own.rd).mono ?_;rintro e w' ⟨n,rfl,J,rfl⟩;have ae:=J.1;have W:=uE (cap':=n) 65536 (by omega) own.rd a5 J (Nat.le_refl _) (by unfold maxLen;omega);rw[U] at W;clear J U
   go_wp2
   go_ret
   exact⟨_,rfl,W,LP (JH own) n n,r⟩
theorem TX (g i n pc:Nat)(E F cb:Nat)(s u l a d:Nat)(w:World)(hn:2≤n)(ae:n≤2000000)(_hil:i≤2000000)
  (Z:w.cell? ⟨g,i+n,none⟩=some (.int .u32 s)) (Y:w.cell? ⟨g,i+(n-1),none⟩=some (.int .u32 u)) (R:w.cell? ⟨g,i+(n-2),none⟩=some (.int .u32 l))
  (e1:w.cell? ⟨E,F+(n-1),none⟩=some (.int .u32 a)) (e0:w.cell? ⟨E,F+(n-2),none⟩=some (.int .u32 d))
  (a3:s<4294967296) (L:u<4294967296) (W:l<4294967296) (ac:a<4294967296) (K:d<4294967296) (hd:2147483648≤a) (U:s≤a):
  yC 133 #[.slice (some ⟨g,i,none⟩) (n+1) pc,.slice (some ⟨E,F,none⟩) n cb] w fun e w'=>
   ∃q:Nat,e= .returned (.int .u32 q)∧q<4294967296∧(∀k,k*(a*4294967296+d)≤(s*4294967296+u)*4294967296+l→k<4294967296→k≤q)∧q*(a*4294967296+d)≤(s*4294967296+u)*4294967296+l∧yB w w':=by
 have B:=KJ s u a3 L;obtain⟨f,M⟩: ∃f,s*4294967296+u=f:=⟨_,rfl⟩;rw[M] at B⊢;have an:f<18446744073709551616:=by omega
 have c:=Z1 f a d l (by omega) W;obtain⟨N,C⟩: ∃q,f/a=q:=⟨_,rfl⟩;obtain⟨O,D⟩: ∃r,f % a=r:=⟨_,rfl⟩;have a5:O<a:=by rw[←D];exact Nat.mod_lt _ (by omega)
 have X:N≤4294967297:=by
  rw[←C];have:f/a<4294967298:=by rw[Nat.div_lt_iff_lt_mul (by omega)];omega
  omega
 have f1:(f:Int)/(a:Int)=(N:Int):=by rw[←C];exact(Int.natCast_ediv f a).symm
 have S:(f:Int) % (a:Int)=(O:Int):=by rw[←D];exact(Int.natCast_emod f a).symm
 have g1:IntKind.u64.wrap a=(a:Int):=IntWalk.u64_in _ ⟨by omega,by omega⟩;rw[C,D] at c;have Q:Hid _:=M;clear C D M;have n1:((n:Int)-1)=((n-1:Nat):Int):=by omega
 have n2:((n:Int)-2)=((n-2:Nat):Int):=by omega
 go_enter func133,ntmps133
 go_wp2
 go_quiet (fail)
 go_wp2
 go_quiet (fail)
 go_wp2
 go_quiet (fail)
 go_wp2
 go_loopw [9,10] (fun G rv wr=>GsR w g (i+(n-2)) f a d l G rv wr) (fun G _ _=>msr G)
 case atStart=>exact⟨N,O,rfl,by rw[S],c,by omega,X,R,aL (aL (aL (Below.refl _ _) _) _) _⟩
 case round=>
  clear R c Y Z e0 e1 f1 S a5 X B;obtain⟨t,r,rfl,rfl,P,hr,al,T,x⟩:=hrel;have m:=P.out;have B:=KJ r l hr W
  by_cases I:4294967296≤t
  ·have c:=S9 m (by omega) (.inl I)
   have a0:(4294967296:Int)≤(t:Int):=by omega
   have m1:((t:Int)-1)=((t-1:Nat):Int):=by omega
   have p:Hid _:=c
   by_cases j:4294967296≤r+a
   ·have o:=Mk c j (by omega) Q.out U L K
    have h:Hid _:=o;have a1:(4294967296:Int)≤(r:Int)+(a:Int):=by omega
    clear o c m j
    go_wp2
    go_ret
    exact⟨t-1,by first|rfl| (rw[Ap h.out.1];rfl),h.out.1,p.out.2,h.out.2,x⟩
   ·obtain⟨b,y⟩: ∃b,r+a=b:=⟨_,rfl⟩
    rw[y] at p j;have a7:(r:Int)+(a:Int)=(b:Int):=by omega
    have J:b<4294967296:=by omega
    have a8:(b:Int)<4294967296:=by omega
    have a6:decide ((4294967296:Int)≤(b:Int))=false:=by rw[decide_eq_false_iff_not];omega
    clear c m j y
    go_wp2
    go_roundw
    case rel=>exact⟨t-1,b,rfl,rfl,p.out,J,by omega,T,x⟩
    case measure=>simp[msr,intOf];omega
  ·have a0:(t:Int)<4294967296:=by omega
   have H:t<4294967296:=by omega
   have ab:decide ((4294967296:Int)≤(t:Int))=false:=by rw[decide_eq_false_iff_not];omega
   have ao:=uf H K;have aq:(t:Int)*(d:Int)≤18446744065119617025:=by rw[←Int.natCast_mul];omega
   have ap:0≤(t:Int)*(d:Int):=by rw[←Int.natCast_mul];omega
   have a9:r*4294967296+l<18446744073709551616:=by omega
   obtain⟨v,z⟩: ∃v,r*4294967296+l=v:=⟨_,rfl⟩;rw[z] at B a9
   by_cases A:v<t*d
   ·have a4:0<t:=by
     rcases Nat.eq_zero_or_pos t with e|e
     ·rw[e,Nat.zero_mul] at A;omega
     ·exact e
    have a2:(v:Int)< (t:Int)*(d:Int):=by rw[←Int.natCast_mul];omega
    have c:=S9 m a4 (.inr (by rw[z];exact A));clear I z A;have m1:((t:Int)-1)=((t-1:Nat):Int):=by omega
    have p:Hid _:=c
    by_cases j:4294967296≤r+a
    ·have o:=Mk c j (by omega) Q.out U L K
     have h:Hid _:=o;have a1:(4294967296:Int)≤(r:Int)+(a:Int):=by omega
     clear o c m j
     go_wp2
     go_ret
     exact⟨t-1,by first|rfl| (rw[Ap h.out.1];rfl),h.out.1,p.out.2,h.out.2,x⟩
    ·obtain⟨b,y⟩: ∃b,r+a=b:=⟨_,rfl⟩
     rw[y] at p j;have a7:(r:Int)+(a:Int)=(b:Int):=by omega
     have J:b<4294967296:=by omega
     have a8:(b:Int)<4294967296:=by omega
     have a6:decide ((4294967296:Int)≤(b:Int))=false:=by rw[decide_eq_false_iff_not];omega
     clear c m j y
     go_wp2
     go_roundw
     case rel=>exact⟨t-1,b,rfl,rfl,p.out,J,by omega,T,x⟩
     case measure=>simp[msr,intOf];omega
   ·have a2:(t:Int)*(d:Int)≤(v:Int):=by rw[←Int.natCast_mul];omega
    have o:=Z2 m (by rw[z];omega);have h:Hid _:=o;have ad:decide ((v:Int)< (t:Int)*(d:Int))=false:=by rw[decide_eq_false_iff_not];omega
    clear I z A o m
    go_wp2
    go_ret
    exact⟨t,by first|rfl| (rw[Ap H];rfl),H,P.out.2,h.out,x⟩
theorem ZY (R D L G:Int)(gr qs:Bool)(no:Option Addr)(S nc:Nat)(Z:Option Addr)(Y X:Nat)(E way:Int)(s ln lm H a2 K k0 C:Int)(f g h bl:Int→Nat)(q r dn lq:Nat)(fo:Int)(aq aw o i bb lg:Bool)(M:Nat)(d:Int)(PT:fz)(w:World)
  (ao:((S:Int)==0)=false) (_hne:(s==0)=false) (i0: ¬s=0) (fn:K≤k0)
  (U1:IntKind.i64.wrap (ln-lm)=ln-lm) (U2:IntKind.i64.wrap (ln-lm+E)=ln-lm+E) (U3:IntKind.i64.wrap (ln-lm+E+800000)=ln-lm+E+800000) (Q1:(ln-lm+E+800000).tdiv s=H) (Q2:(800000:Int).tdiv s=a2)
  (U4:IntKind.i64.wrap H=H) (U5:IntKind.i64.wrap a2=a2) (U6:IntKind.i64.wrap (H-a2)=H-a2) (U7:IntKind.i64.wrap (H-a2-D)=H-a2-D) (U8:IntKind.i64.wrap (H-a2-D+2)=k0)
  (WK: ∀k,K≤k→k≤k0→IntKind.i64.wrap (s*k)=s*k∧IntKind.i64.wrap (k-1)=k-1)
  (WL:IntKind.i64.wrap (s*L)=s*L) (WD:IntKind.i64.wrap (D-1)=D-1) (WM:IntKind.i64.wrap (s*(D-1))=s*(D-1)) (WN:IntKind.i64.wrap (s*(D-1)+1)=s*(D-1)+1) (WE:IntKind.i64.wrap (s*D)=s*D) (WP:IntKind.i64.wrap (C+1)=C+1)
  (fv:o=decide (K<L)) (fr:i=decide (r=0)) (a7:aq=decide (q % 2=1)) (fp:(o&&gr)=bb) (bi:bb=true→C=L) (bj:bb=false→C=K∧f K=q∧g K=r∧h K=dn)
  (ax: ∀k,K<k→k≤k0→(bl k:Int)<s*(D-1)+1) (ay: ¬(bl K:Int)<s*(D-1)+1)
  (d6:lg=true→s*D< (lq:Int)) (d9:lg=false→ ¬s*D< (lq:Int))
  (bn:i=false→aw=true→lg=true→d=C+1) (bo:i=false→aw=true→lg=false→M=q+1∧d=C) (bp:i=true∨aw=false→M=q∧d=C)
  (c5:PT=⟨qs,M,if M=0 then 0 else d,i,decide (G<d),o⟩)
  (c8: ∀a,Calls Tryz.prog 21 #[.agg #[.int .i64 R,.int .i64 D,.int .i64 L,.int .i64 G,.bool gr]] a fun z w'=>z= .returned (.int .i64 s)∧Below a.heap.size a w')
  (bt: ∀a,Below w.heap.size w a→Calls Tryz.prog 54 #[.slice no S nc] a fun z w'=>z= .returned (.int .i64 ln)∧Below a.heap.size a w')
  (bv: ∀a,Below w.heap.size w a→Calls Tryz.prog 54 #[.slice Z Y X] a fun z w'=>z= .returned (.int .i64 lm)∧Below a.heap.size a w')
  (av: ∀k a,K≤k→k≤k0→Below w.heap.size w a→Calls Tryz.prog 104 #[.agg #[.bool qs,.slice no S nc,.slice Z Y X,.int .i64 E],.int .i64 (s*k)] a (Rp a (f k) (g k) (h k)))
  (c4:bb=true→ ∀a,Below w.heap.size w a→Calls Tryz.prog 104 #[.agg #[.bool qs,.slice no S nc,.slice Z Y X,.int .i64 E],.int .i64 (s*L)] a (Rp a q r dn))
  (c2: ∀k v a,K≤k→k≤k0→Rd a .i64 v (Dg.dg 65536 (f k))→Calls Tryz.prog 54 #[v] a fun z w'=>z= .returned (.int .i64 (bl k:Nat))∧Below a.heap.size a w')
  (c6: ∀v u a,Rd a .i64 v (Dg.dg 65536 r)→Rd a .i64 u [2]→Calls Tryz.prog 52 #[v,u] a (cG a (r*2)))
  (bq: ∀v u a,Rd a .i64 v (Dg.dg 65536 (r*2))→Rd a .i64 u (Dg.dg 65536 dn)→Calls Tryz.prog 23 #[v,u] a fun z w'=>z= .returned (.int .i64 fo)∧Below a.heap.size a w')
  (bh: ∀a,Calls Tryz.prog 105 #[.int .i64 way,.bool qs,.bool aq,.int .i64 fo] a fun z w'=>z= .returned (.bool aw)∧w'=a)
  (db: ∀v u a,Rd a .i64 v (Dg.dg 65536 q)→Rd a .i64 u [1]→Calls Tryz.prog 22 #[v,u] a (cG a (q+1)))
  (bw: ∀v a,Rd a .i64 v (Dg.dg 65536 (q+1))→Calls Tryz.prog 54 #[v] a fun z w'=>z= .returned (.int .i64 (lq:Nat))∧Below a.heap.size a w')
  (c3:lg=true→i=false→aw=true→ ∀a,Calls Tryz.prog 18 #[.int .i64 (s*(D-1))] a fun e w'=> ∃v,e= .returned v∧Own w' a.heap.size 3 .i64 v (Dg.dg 65536 M)∧Below a.heap.size a w'):
  Calls Tryz.prog 61 #[.agg #[.bool qs,.slice no S nc,.slice Z Y X,.int .i64 E],.agg #[.int .i64 R,.int .i64 D,.int .i64 L,.int .i64 G,.bool gr],.int .i64 way] w (GT w PT):=by
 replace WK:Hid _:=WK;replace bi:Hid _:=bi;replace bj:Hid _:=bj;replace ax:Hid _:=ax;replace ay:Hid _:=ay;replace d6:Hid _:=d6;replace d9:Hid _:=d9;replace bn:Hid _:=bn;replace bo:Hid _:=bo;replace bp:Hid _:=bp;replace c5:Hid _:=c5;replace c8:Hid _:=c8;replace bt:Hid _:=bt;replace bv:Hid _:=bv;replace av:Hid _:=av;replace c4:Hid _:=c4;replace c2:Hid _:=c2;replace c6:Hid _:=c6;replace bq:Hid _:=bq;replace bh:Hid _:=bh;replace db:Hid _:=db;replace bw:Hid _:=bw;replace c3:Hid _:=c3;have ha:Hid _:=fv;have h7:Hid _:=fr;have ek:Hid _:=fp;have da:Hid _:=a7;have bs:Hid _:=fn;clear fp fv fr a7 fn;have b1:=aa (aa (af w (.cells #[.bool qs,.slice no S nc,.slice Z Y X,.int .i64 E] 72)) (af _ (.cells #[.int .i64 R,.int .i64 D,.int .i64 L,.int .i64 G,.bool gr] 54))) (af _ (.cells #[.bool false,.slice none 0 0,.int .i64 0,.bool false,.bool false,.bool false] 123));have q1:=((ah w [.bool qs,.slice no S nc,.slice Z Y X,.int .i64 E] 72).l (af _ (.cells #[.int .i64 R,.int .i64 D,.int .i64 L,.int .i64 G,.bool gr] 54))).l (af _ (.cells #[.bool false,.slice none 0 0,.int .i64 0,.bool false,.bool false,.bool false] 123));have g1:=(ah (w.alloc (.cells #[.bool qs,.slice no S nc,.slice Z Y X,.int .i64 E] 72)) [.int .i64 R,.int .i64 D,.int .i64 L,.int .i64 G,.bool gr] 54).l (af _ (.cells #[.bool false,.slice none 0 0,.int .i64 0,.bool false,.bool false,.bool false] 123));have c1:=ah ((w.alloc (.cells #[.bool qs,.slice no S nc,.slice Z Y X,.int .i64 E] 72)).alloc (.cells #[.int .i64 R,.int .i64 D,.int .i64 L,.int .i64 G,.bool gr] 54)) [.bool false,.slice none 0 0,.int .i64 0,.bool false,.bool false,.bool false] 123;simp only[World.size_alloc] at g1 c1;obtain⟨x0,x1,x2,x3,x4⟩:=g1.cs5;obtain⟨y0,y1,y2,U⟩:=q1.cs4
 go_enter func61,ntmps61
 go_wp2_with fail
 refine(c8.out _).mono ?_;rintro z w2 ⟨rfl,az⟩;clear x0 x1 x2 x3 x4 y0 y1 y2 U;have fd:=g1.l az;have g6:=q1.l az;have ez:=c1.l az;have ep:=aa b1 az;clear g1 q1 c1 b1 az;have b5:Below w2.heap.size w2 w2.drew:=(Below.refl _ _).drew;have fe:=fd.l b5;have g8:=g6.l b5;have hi:=ez.l b5;have ca:=aa ep b5;clear fd g6 ez ep b5;obtain⟨x0,x1,x2,x3,x4⟩:=fe.cs5;obtain⟨y0,y1,y2,U⟩:=g8.cs4
 go_wp2_with fail
 go_region_held3 (fun Q=>(Q.cell? ⟨w.heap.size,1,none⟩=some (.slice no S nc)∧Q.cell? ⟨w.heap.size,2,none⟩=some (.slice Z Y X)∧Q.cell? ⟨w.heap.size,3,none⟩=some (.int .i64 E))) (go_keep) (first
  | (go_at_call 54;have J:=ca;clear J;refine(bt.out _ ca).mono ?_;rintro z wa ⟨rfl,ch⟩;have cc:=aa ca ch;have hp:=fe.l ch;have cz:=g8.l ch;have hk:=hi.l ch;have iz:=cz.c 1 rfl;have j0:=cz.c 2 rfl;have j1:=cz.c 3 rfl;clear ca)
  | (go_at_call 54;have J:=cc;clear J;refine(bv.out _ cc).mono ?_;rintro z wb ⟨rfl,ci⟩;have ev:=aa cc ci;have co:=hp.l ci;have bd:=cz.l ci;have fb:=hk.l ci;have j2:=bd.c 1 rfl;have j3:=bd.c 2 rfl;have j4:=bd.c 3 rfl;clear cc))
 clear x0 x1 x2 x3 x4 y0 y1 y2 U iz j0 j1 j2 j3 j4
 go_goals
 have xd:=(co.l (Below.refl _ _).drew).c 1 rfl;have x1:=co.c 1 rfl
 go_wp2_with fail
 have iw:=(WK.out k0 bs.out (Int.le_refl _)).1
 go_quiet (fail)
 have ff:=co.l (aL (Below.refl _ _) nq);have ef:=bd.l (aL (Below.refl _ _) nq);have f0:=fb.l (aL (Below.refl _ _) nq);have dc:=aa ev (aL (Below.refl _ _) nq);clear co bd fb ev;clear xd x1 U1 U2 U3 Q1 Q2 U4 U5 U6 U7 U8 _hne i0 ao;obtain⟨y0,y1,y2,U⟩:=ef.cs4
 go_wp2_with fail
 refine(av.out k0 _ bs.out (Int.le_refl _) dc).mono ?_;rintro z w3 ⟨v1,v2,v3,rfl,r1,r2,r3,b0⟩;clear y0 y1 y2 U iw;have fg:=ff.l b0;have ga:=ef.l b0;have f5:=f0.l b0;have er:=aa dc b0;clear ff ef f0 dc b0;have L0:acK w3 f g h K k0 (.int .i64 k0) v1 v2 v3 w3:=⟨k0,rfl,bs.out,Int.le_refl _,r1,r2,r3,Below.refl _ _⟩;clear r1 r2 r3 bs
 go_wp2_with fail
 go_loopw [9,10,11,12] (acK w3 f g h K k0) (fun kv _ _ _ _=>(intOf kv-K).toNat)
 case atStart=>exact L0
 case round=>
  clear L0;obtain⟨kk,rfl,cr,bc,gq,gs,gv,ac⟩:=hrel;have ey:=ac;have fk:=fg.l ac;have gg:=ga.l ac;have f9:=f5.l ac;have eu:=aa er ac;clear fg ga f5 er ac;have a0:Below wr.heap.size wr wr.drew:=(Below.refl _ _).drew;have e0:=fk.l a0;have gi:=gg.l a0;have fa:=f9.l a0;have cn:=gq.l a0;have gp:=gs.l a0;have fx:=gv.l a0;have a9:=aa eu a0;clear fk gg f9 gq gs gv eu a0;have x1:=e0.c 1 rfl;have HB:Hid _:=c2.out kk
  by_cases ct:K<kk
  ·have t1:=ax.out kk ct bc
   obtain⟨B,hB⟩: ∃B,bl kk=B:=⟨_,rfl⟩;rw[hB] at t1 HB;clear hB ax ay;have jx:=(WK.out kk cr bc).2;have jv:=(WK.out (kk-1) (by omega) (by omega)).1
   go_wp2_with fail
   go_region_held3 (fun Q=>Q.cell? ⟨w.heap.size+1,1,none⟩=some (.int .i64 D)) (go_keep) (first
    | (go_at_call 54;have J:=a9;clear J;refine(HB.out _ _ cr bc cn).mono ?_;rintro z wx ⟨rfl,I⟩;have cg:=aa a9 I;have a6:=e0.l I;have be:=gi.l I;have cl:=fa.l I;have dt:=cn.l I;have ei:=gp.l I;have ea:=fx.l I;have ar:=a6.c 1 rfl;clear a9))
   go_goals
   obtain⟨y0,y1,y2,U⟩:=be.cs4
   go_wp2_with fail
   refine(av.out (kk-1) _ (by omega) (by omega) cg).mono ?_;rintro z wz ⟨u1,u2,u3,rfl,s1,s2,s3,bz⟩;have bE:=aa (aa (aa ey ((Below.refl _ _).drew)) I) bz
   go_wp2
   go_roundw
   case rel=>exact⟨kk-1,rfl,by omega,by omega,s1,s2,s3,bE⟩
   case measure=>simp[intOf];omega
  ·have hw:K=kk:=by omega
   subst hw;have t2:=ay.out;obtain⟨B,hB⟩: ∃B,bl K=B:=⟨_,rfl⟩;rw[hB] at t2 HB;clear hB ax ay ct ey;have t3:decide ((B:Int)<s*(D-1)+1)=false:=decide_eq_false t2
   go_wp2_with fail
   go_region_held3 (fun Q=>Q.cell? ⟨w.heap.size+1,1,none⟩=some (.int .i64 D)) (go_keep) (first
    | (go_at_call 54;have J:=a9;clear J;refine(HB.out _ _ cr bc cn).mono ?_;rintro z wx ⟨rfl,I⟩;have cg:=aa a9 I;have a6:=e0.l I;have be:=gi.l I;have cl:=fa.l I;have dt:=cn.l I;have ei:=gp.l I;have ea:=fx.l I;have ar:=a6.c 1 rfl;clear a9))
   go_goals
   clear HB bt bv c8 av c2 WK x1 ar I;have ap:=af wx (.cells #[.bool qs,.slice none 0 0,.int .i64 K,.bool false,.bool false,.bool o] 123);have p3:=ah wx [.bool qs,.slice none 0 0,.int .i64 K,.bool false,.bool false,.bool o] 123;have hr:w.heap.size+1+1<wx.heap.size:=cl.lt;have x2:=a6.c 2 rfl;have x4:=a6.c 4 rfl;have y0:=be.c 0 rfl;have ad:=a6.l ap;have cy:=be.l ap;have cj:=cl.l ap;have ds:=dt.l ap;have eh:=ei.l ap;have e9:=ea.l ap;have cb:=aa cg ap;clear a6 be cl dt ei ea cg ap;have ct:decide (K<L)=o:=ha.out.symm
   go_upto_region 11 with fail
   clear x2 x4 y0 t2 t3 cr bc;generalize hu:wx.alloc (.cells #[.bool qs,.slice none 0 0,.int .i64 K,.bool false,.bool false,.bool o] 123)=W4 at ad cy cj ds eh e9 p3 cb⊢;generalize wx.heap.size=j at p3 hr⊢;clear hu;have x4:=ad.c 4 rfl;have z5:=p3.c 5 rfl
   go_cut [85] (fun iv A=>iv= .bool bb∧A=W4)
   case first=>
    cases o
    ·go_wp2_with fail
     go_meet
     exact⟨by rw[←ek.out];rfl,rfl⟩
    ·go_wp2_with fail
     go_meet
     exact⟨by rw[←ek.out];rfl,rfl⟩
   case rest=>
    obtain⟨rfl,rfl⟩:=hcut;clear x4 z5 ct
    go_upto_if 85 with fail
    have e6:w.heap.size≠j:=by omega
    have e7:w.heap.size+1≠j:=by omega
    have b6:w.heap.size+1+1≠j:=by omega
    have b8:w.heap.size≤j:=by omega
    have em:Hid (au wc j 123 [.bool qs,.slice none 0 0,.int .i64 K,.bool false,.bool false,.bool o]∧au wc w.heap.size 72 [.bool qs,.slice no S nc,.slice Z Y X,.int .i64 E]∧au wc (w.heap.size+1) 54 [.int .i64 R,.int .i64 D,.int .i64 L,.int .i64 G,.bool gr]∧au wc (w.heap.size+1+1) 123 [.bool false,.slice none 0 0,.int .i64 0,.bool false,.bool false,.bool false]∧Below w.heap.size w wc):=⟨p3,cy,ad,cj,cb⟩;have en:Hid (Rd wc .i64 u10 (Dg.dg 65536 (f K))∧Rd wc .i64 u11 (Dg.dg 65536 (g K))∧Rd wc .i64 u12 (Dg.dg 65536 (h K))):=⟨ds,eh,e9⟩;have p:=ag wc j 2 (.int .i64 L);have qS:=p.loc cy e6;have gS:=p.loc ad e7;have cS:=p.loc cj b6;have pS:=p3.set 2 (.int .i64 L);have bS:=p.below cb b8;have x2:=ad.c 2 rfl;have v2:=p3.c 2 rfl;have f2:=p3.f 2;clear p ad cy cj ds eh e9 p3 cb
    go_cut [10,11,12] (fun ej ie ig A=>(Rd A .i64 ej (Dg.dg 65536 q)∧Rd A .i64 ie (Dg.dg 65536 r)∧Rd A .i64 ig (Dg.dg 65536 dn))∧au A j 123 [.bool qs,.slice none 0 0,.int .i64 C,.bool false,.bool false,.bool o]∧au A w.heap.size 72 [.bool qs,.slice no S nc,.slice Z Y X,.int .i64 E]∧au A (w.heap.size+1) 54 [.int .i64 R,.int .i64 D,.int .i64 L,.int .i64 G,.bool gr]∧au A (w.heap.size+1+1) 123 [.bool false,.slice none 0 0,.int .i64 0,.bool false,.bool false,.bool false]∧Below w.heap.size w A)
    case first=>
     cases bb
     ·obtain⟨F,P,e3,e4⟩:=bj.out rfl
      clear qS gS cS pS bS x2 v2 f2;have HE:Hid (C=K∧f K=q∧g K=r∧h K=dn):=⟨F,P,e3,e4⟩;clear F P e3 e4
      go_wp2_with fail
      go_meet
      obtain⟨F,P,e3,e4⟩:=HE.out;rw[←P,←e3,←e4,F];exact⟨en.out,em.out⟩
     ·have h9:Hid _:=c4.out rfl
      have HE:Hid (C=L):=bi.out rfl
      go_upto_region 13 with fail
      generalize wc.setCell ⟨j,2,none⟩ (.int .i64 L)=WS at qS gS cS pS bS⊢;clear x2 v2 f2;have x2:=gS.c 2 rfl;obtain⟨y0,y1,y2,U⟩:=qS.cs4
      go_wp2_with fail
      refine(h9.out _ bS).mono ?_;rintro z A ⟨je,jh,jn,rfl,s1,s2,s3,bz⟩;have qT:=qS.l bz;have gT:=gS.l bz;have cT:=cS.l bz;have pT:=pS.l bz;have bT:=aa bS bz;clear qS gS cS pS bS bz x2 y0 y1 y2 U
      go_wp2_with fail
      go_meet
      rw[HE.out];exact⟨⟨s1,s2,s3⟩,pT,qT,gT,cT,bT⟩
    case rest=>
     obtain⟨⟨d1,d3,gx⟩,T,q9,g9,c9,b9⟩:=hcut;clear em en bi bj c4 qS gS cS pS bS x2 v2 f2 WL;obtain⟨ro,rk,hq⟩:=d3.shape;subst hq;obtain⟨qo,qk,e5⟩:=d1.shape;subst e5;obtain⟨lr,e8⟩: ∃l,(Dg.dg 65536 r).length=l:=⟨_,rfl⟩;have fs:((lr:Int)==0)=i:=by rw[h7.out,←e8];exact Aa r
     obtain⟨ld,an⟩: ∃l,(Dg.dg 65536 q).length=l:=⟨_,rfl⟩;rw[e8] at d3⊢;rw[an] at d1⊢;have U:=T.c 3 rfl;have f3:=T.f 3
     go_upto_region 15 with fail
     have p:=ag wc j 3 (.bool i);have q7:=p.loc q9 e6;have g7:=p.loc g9 e7;have c7:=p.loc c9 b6;have p7:au (wc.setCell ⟨j,3,none⟩ (.bool i)) j 123 [.bool qs,.slice none 0 0,.int .i64 C,.bool i,.bool false,.bool o]:=T.set 3 (.bool i);have b7:=p.below b9 b8;have d7:=d1.setC U (by simp) (.bool i);have r7:=d3.setC U (by simp) (.bool i);have n7:=gx.setC U (by simp) (.bool i);clear p q9 g9 c9 T b9 d1 d3 gx U f3 fs e8;generalize(wc.setCell ⟨j,3,none⟩ (.bool i))=W7 at q7 g7 c7 p7 b7 d7 r7 n7⊢
     go_cut [14] (fun it A=>it= .bool aq∧A=W7)
     case first=>
      have hh:=Sb 65536 q (by omega);have ao:=Dg.dg_nil_iff 65536 q (by omega);obtain⟨h1,h2,h3⟩:=iQ (an▸d7:Rd W7 .i64 (.slice qo (Dg.dg 65536 q).length qk) (Dg.dg 65536 q));have cw:q % 65536 % 2=q % 2:=by omega
      obtain⟨m,hm⟩: ∃m,q % 65536=m:=⟨_,rfl⟩;rw[hm] at hh cw;have hy:m<65536:=by omega
      by_cases h0:q=0
      ·have hl:ld=0:=by rw[←an,List.length_eq_zero_iff];exact ao.2 h0
       have HO:Hid (aq=false):=by rw[da.out,h0];rfl
       clear h0 hh cw hm hy ao h1 h2 h3 d7 r7 n7 q7 g7 c7 p7 an;subst hl
       go_wp2_with fail
       go_meet
       exact⟨by rw[HO.out],rfl⟩
      ·have hl:0< (Dg.dg 65536 q).length:=by
        rcases Nat.eq_zero_or_pos (Dg.dg 65536 q).length with h4|h4
        ·exact absurd (ao.1 (List.length_eq_zero_iff.1 h4)) h0
        ·exact h4
       obtain⟨b,jc,rfl,hc⟩:=h3 hl;have c0:=hc 0 hl;rw[hh,Nat.add_zero] at c0;rw[an] at hl h1;have fs:(0:Int)< (ld:Int):=by omega
       have ht:(m:Int).tmod 2=((m % 2:Nat):Int):=by
        rw[Int.tmod_eq_emod_of_nonneg (by omega)];omega
       have ft:(m:Int) % 2=((m % 2:Nat):Int):=by omega
       clear hc h3 an hh hm ao d7 r7 n7 q7 g7 c7 p7
       by_cases a7:q % 2=1
       ·have F:m % 2=1:=by omega
        have HO:Hid (aq=true):=da.out.trans (decide_eq_true a7);rw[F] at ht ft;clear a7 cw h0
        go_wp2_with fail
        go_meet
        exact⟨by rw[HO.out],rfl⟩
       ·have F:m % 2=0:=by omega
        have HO:Hid (aq=false):=da.out.trans (decide_eq_false a7);rw[F] at ht ft;clear a7 cw h0
        go_wp2_with fail
        go_meet
        exact⟨by rw[HO.out],rfl⟩
     case rest=>
      obtain⟨rfl,rfl⟩:=hcut;have z3:=p7.c 3 rfl;have z0:=q7.c 0 rfl
      go_upto_region 16 with fail
      go_cut [127] (fun ih A=>ih= .bool (!i&&aw)∧Below wc.heap.size wc A)
      case first=>
       cases i
       ·have ba:Below wc.heap.size wc (wc.alloc (.cells #[.int .i64 ((2:Nat):Int)] 3)).drew:=(af wc (.cells #[.int .i64 ((2:Nat):Int)] 3)).drew
        have w2:Rd (wc.alloc (.cells #[.int .i64 ((2:Nat):Int)] 3)).drew .i64 _ _:=(cE (w:=wc) (k:= .i64) (e:=3) [2] #[.int .i64 ((2:Nat):Int)] rfl (by unfold maxLen;simp)).l ((Below.refl _ _).drew);have k3:=(p7.l ba).c 3 rfl;have k1:=(q7.l ba).c 0 rfl;have k4:=p7.drew.c 3 rfl;have k2:=q7.drew.c 0 rfl
        go_wp2_with fail
        go_region_held3 (fun Q=>Q.cell? ⟨j,3,none⟩=some (.bool false)∧Q.cell? ⟨w.heap.size,0,none⟩=some (.bool qs)) (go_keep) (first
         | (go_at_call 52;have J:=ba;clear J;refine(c6.out _ _ _ (r7.l ba) w2).mono ?_;rintro z x1 ⟨v1,rfl,o1,b2⟩;have dl:=aa ba b2;have gl:=(q7.l ba).l b2;have g5:=(p7.l ba).l b2;have ic:=(r7.l ba).l b2;have g0:=(n7.l ba).l b2;have i1:=g5.c 3 rfl;have i2:=gl.c 0 rfl;clear ba)
         | (go_at_call 23;have J:=dl;clear J;refine(bq.out _ _ _ o1 g0).mono ?_;rintro z x2 ⟨rfl,b3⟩;have dp:=aa dl b3;have i8:=gl.l b3;have i6:=g5.l b3;have jd:=ic.l b3;have jb:=g0.l b3;have i3:=i6.c 3 rfl;have i4:=i8.c 0 rfl;clear dl)
         | (go_at_call 105;have J:=dp;clear J;refine(bh.out _).mono ?_;rintro z x3 ⟨rfl,rfl⟩;have hg:=dp;clear dp))
        go_goals
        go_wp2_with fail
        go_meet
        exact⟨rfl,hg⟩
       ·go_wp2_with fail
        go_quiet (fail)
        go_goals
        go_wp2_with fail
        go_meet
        exact⟨rfl,aL (Below.refl _ _) nq⟩
      case rest=>
       obtain⟨rfl,a5⟩:=hcut;clear z3 z0 c6 bq bh r7 n7;have eg:=q7.l a5;have dv:=g7.l a5;have dq:=c7.l a5;have ed:=p7.l a5;have fc:=d7.l a5;have dd:=aa b7 a5;clear q7 g7 c7 p7 d7 b7 a5
       go_upto_if 127 with fail
       go_cut [10] (fun ej A=>Rd A .i64 ej (Dg.dg 65536 M)∧au A j 123 [.bool qs,.slice none 0 0,.int .i64 d,.bool i,.bool false,.bool o]∧au A w.heap.size 72 [.bool qs,.slice no S nc,.slice Z Y X,.int .i64 E]∧au A (w.heap.size+1) 54 [.int .i64 R,.int .i64 D,.int .i64 L,.int .i64 G,.bool gr]∧au A (w.heap.size+1+1) 123 [.bool false,.slice none 0 0,.int .i64 0,.bool false,.bool false,.bool false]∧Below w.heap.size w A)
       case first=>
        have H:=af wc (.cells #[.int .i64 ((1:Nat):Int)] 3);have r1:=cE (w:=wc) (k:= .i64) (e:=3) [1] #[.int .i64 ((1:Nat):Int)] rfl (by unfold maxLen;simp)
        by_cases hb:i=false∧aw=true
        ·obtain⟨rfl,rfl⟩:=hb
         have gz:Hid (lg=true→d=C+1):=bn.out rfl rfl;have h5:Hid (lg=false→M=q+1∧d=C):=bo.out rfl rfl;have h6:Hid (lg=true→_):=fun c=>c3.out c rfl rfl
         clear bn bo bp c3
         go_wp2_with fail
         refine(db.out _ _ _ (fc.l H) r1).mono ?_;rintro z wp ⟨vx,rfl,rx,bx⟩;clear r1;have gb:=eg.l H;have fi:=dv.l H;have f6:=dq.l H;have g2:=ed.l H;have es:=aa dd H;clear eg dv dq ed dd H;have gc:=gb.l bx;have fj:=fi.l bx;have f7:=f6.l bx;have g3:=g2.l bx;have et:=aa es bx;clear gb fi f6 g2 es bx;have a3:Below wp.heap.size wp wp.drew:=(Below.refl _ _).drew;have gd:=gc.l a3;have dy:=fj.l a3;have f8:=f7.l a3;have g4:=g3.l a3;have d4:=rx.l a3;have a8:=aa et a3;clear gc fj f7 g3 rx et a3;have x1:=dy.c 1 rfl
         cases lg
         ·obtain⟨F,P⟩:=h5.out rfl
          have HE:Hid (M=q+1∧d=C):=⟨F,P⟩;clear F P;have tl:=d9.out rfl;have tf:decide (s*D< (lq:Int))=false:=decide_eq_false (by omega)
          go_wp2_with fail
          go_region_held3 (fun Q=>Q.cell? ⟨w.heap.size+1,1,none⟩=some (.int .i64 D)) (go_keep) (first
           | (go_at_call 54;have J:=a8;clear J;refine(bw.out _ _ d4).mono ?_;rintro z wl ⟨rfl,O⟩;have ce:=aa a8 O;have d0:=gd.l O;have ae:=dy.l O;have ck:=f8.l O;have cx:=g4.l O;have gy:=d4.l O;have ar:=ae.c 1 rfl;clear a8))
          go_goals
          clear x1 ar
          go_wp2_with fail
          go_meet
          obtain⟨F,P⟩:=HE.out;rw[F,P];exact⟨gy,cx,d0,ae,ck,ce⟩
         ·have HE:Hid (d=C+1):=gz.out rfl
          have tl:=d6.out rfl;have h8:Hid _:=h6.out rfl
          go_wp2_with fail
          go_region_held3 (fun Q=>Q.cell? ⟨w.heap.size+1,1,none⟩=some (.int .i64 D)) (go_keep) (first
           | (go_at_call 54;have J:=a8;clear J;refine(bw.out _ _ d4).mono ?_;rintro z wl ⟨rfl,O⟩;have ce:=aa a8 O;have d0:=gd.l O;have ae:=dy.l O;have ck:=f8.l O;have cx:=g4.l O;have gy:=d4.l O;have ar:=ae.c 1 rfl;clear a8))
          go_goals
          clear x1 ar O;have ab:Below wl.heap.size wl wl.drew:=(Below.refl _ _).drew;have i7:=d0.l ab;have fl:=ae.l ab;have hj:=ck.l ab;have ee:=cx.l ab;have he:=aa ce ab;clear d0 ae ck cx ce ab;have x1:=fl.c 1 rfl;have v2:=ee.c 2 rfl
          go_wp2_with fail
          have i5:j≠w.heap.size+1:=by omega
          have hs:j<wl.drew.heap.size:=ee.lt
          go_region_with ((go_at_call 18;refine(h8.out _).mono ?_;rintro z wm ⟨vp,rfl,op,b4⟩;have gm:=fl.l b4;have pm:=ee.l b4;have qm:=i7.l b4;have cm:=hj.l b4;have bm:=aa he b4;have js:=pm.c 2 rfl;have j5:=pm.f 2))
          all_goals (go_wp2_with fail)
          all_goals (have p:=ag wm j 2 (.int .i64 (C+1));have qS:=p.loc qm e6;have gS:=p.loc gm e7;have cS:=p.loc cm b6;have pS:=pm.set 2 (.int .i64 (C+1));have bS:=p.below bm b8;have oS:=op.rd.set (abi op hs) 2 (.int .i64 (C+1));clear p;go_meet;rw[HE.out];exact⟨oS,pS,qS,gS,cS,bS⟩)
        ·obtain⟨F,P⟩:=bp.out (Bf hb).1
         have HE:Hid (M=q∧d=C):=⟨F,P⟩;have hf:(!i&&aw)=false:=(Bf hb).2;clear F P H r1;rw[hf]
         go_wp2_with fail
         go_meet
         obtain⟨F,P⟩:=HE.out;rw[F,P];exact⟨fc,ed,eg,dv,dq,dd⟩
       case rest=>
        obtain⟨d2,T,q9,g9,c9,b9⟩:=hcut;obtain⟨y,t,e5⟩:=d2.shape;subst e5;have cv:=Aa M;obtain⟨N,cs⟩: ∃l,(Dg.dg 65536 M).length=l:=⟨_,rfl⟩;rw[cs] at cv d2⊢;have x3:=g9.c 3 rfl;have v1:=T.c 1 rfl;have f1:=T.f 1;have v2:=T.c 2 rfl;have f2:=T.f 2;have v4:=T.c 4 rfl;have f4:=T.f 4;have i5:j≠w.heap.size+1:=by omega
        go_wp2_with fail
        have p:But j wc ((wc.setCell ⟨j,1,none⟩ (.slice y N t)).setCell ⟨j,4,none⟩ (.bool (decide (G<d)))):=(ag wc j 1 (.slice y N t)).trans (ag _ j 4 (.bool (decide (G<d))));have eb:=T.set 1 (.slice y N t);have pX:au ((wc.setCell ⟨j,1,none⟩ (.slice y N t)).setCell ⟨j,4,none⟩ (.bool (decide (G<d)))) j 123 [.bool qs,.slice y N t,.int .i64 d,.bool i,.bool (decide (G<d)),.bool o]:=eb.set 4 (.bool (decide (G<d)));have rX:=(d2.setC v1 (by simp) (.slice y N t)).setC (eb.c 4 rfl) (by simp) (.bool (decide (G<d)));have cX:=p.loc c9 b6;have bX:=p.below b9 b8
        go_region
        clear p eb T q9 g9 c9 b9 d2 x3 v1 v2 v4 f1 f2 f4;generalize((wc.setCell ⟨j,1,none⟩ (.slice y N t)).setCell ⟨j,4,none⟩ (.bool (decide (G<d))))=WX at pX cX rX bX⊢;have pY:=pX.drew;have cY:=cX.drew;have rY:=rX.l ((Below.refl _ _).drew);have bY:=aa bX ((Below.refl _ _).drew);clear pX cX rX bX;generalize WX.drew=WY at pY cY rY bY⊢;have hz: ∀x∈([.bool false,.slice none 0 0,.int .i64 0,.bool false,.bool false,.bool false]:List Value),∀n:Int,n≠0→x≠ .int .i64 n:=by simp;intro n hn h;exact hn h.symm
        by_cases al:M=0
        ·have hx:N=0:=by rw[←cs,al];rfl
         have d5:Hid (M=0):=al;subst hx;have rW: ∀W:World,Rd W .i64 (.slice y 0 t) []:=fun W=>by
          have e:Dg.dg 65536 M=[]:=List.length_eq_zero_iff.1 cs;rw[e] at rY;obtain⟨hd,ho,hv,h1,h2,_⟩:=rY;exact⟨hd,ho,hv,h1,h2,fun h=>by simp at h⟩
         clear al cv cs rY;have v2:=pY.c 2 rfl;have f2:=pY.f 2;have p:=ag WY j 2 (.int .i64 0);have pZ:au (WY.setCell ⟨j,2,none⟩ (.int .i64 0)) j 123 [.bool qs,.slice y 0 t,.int .i64 0,.bool i,.bool (decide (G<d)),.bool o]:=pY.set 2 (.int .i64 0);have cZ:=p.loc cY b6;have bZ:=p.below bY b8;have rZ:=rW (WY.setCell ⟨j,2,none⟩ (.int .i64 0));have NZ:Dg.Norm ([]:List Nat):=Dg.norm_dg 65536 0 (by omega)
         go_upto_region 23 with fail
         clear p pY cY bY v2 f2 rW;generalize(WY.setCell ⟨j,2,none⟩ (.int .i64 0))=WZ at pZ cZ bZ rZ⊢;have bf:=pZ.range;have bg:=cZ.there 6 rfl;have cR:=cZ.sets [.bool qs,.slice y 0 t,.int .i64 0,.bool i,.bool (decide (G<d)),.bool o] rfl;have a4:=de (w.heap.size+1+1) [.bool qs,.slice y 0 t,.int .i64 0,.bool i,.bool (decide (G<d)),.bool o] 0 WZ;have bR:=a4.below bZ (show w.heap.size≤w.heap.size+1+1 by omega)
         have rR:=a4.rd rZ (cq rZ NZ cZ hz);refine wp_region_lit ?_;refine wpList_load_mid rfl 123 (.tmp 13) rfl j 0 rfl [.bool qs,.slice y 0 t,.int .i64 0,.bool i,.bool (decide (G<d)),.bool o] _ bf underlying123 rfl (by kernel_rfl) ?_;refine wpList_store_mid rfl 123 (.tmp 6) (.tmp 160) rfl (w.heap.size+1+1) 0 #[.bool qs,.slice y 0 t,.int .i64 0,.bool i,.bool (decide (G<d)),.bool o] rfl rfl bg (by kernel_rfl) (by simp[Value.oneCell']) ?_;refine wpList_nil ?_;clear bf bg a4 pZ cZ rZ NZ hz bZ;change Exit.then _ _ _ _ (World.setCells WZ (w.heap.size+1+1) 0 [.bool qs,.slice y 0 t,.int .i64 0,.bool i,.bool (decide (G<d)),.bool o]);generalize World.setCells WZ (w.heap.size+1+1) 0 [.bool qs,.slice y 0 t,.int .i64 0,.bool i,.bool (decide (G<d)),.bool o]=WR at cR bR rR⊢
         go_goals
         rename_i KK hKK
         refine hKK _ _ (wp_ret ?_);clear hKK;obtain⟨s0,s1,s2,s3,s4,s5⟩:=cR.cs6;refine bodyPost_ret (v:= .agg #[.bool qs,.slice y 0 t,.int .i64 0,.bool i,.bool (decide (G<d)),.bool o]) (by simp[results,results61,go_sem,s0,s1,s2,s3,s4,s5]) rfl ?_;have hc:=d5.out;rw[c5.out,hc];exact⟨_,rfl,rR,bR⟩
        ·have j6:((N:Int)==0)=false:=by rw[cv];simp[al]
         have d5:Hid (¬M=0):=al;clear al cv;have pZ:=pY;have cZ:=cY;have bZ:=bY;have rZ:=rY;have NZ:=Dg.norm_dg 65536 M (by omega);clear pY cY bY rY
         go_upto_region 23 with fail
         have bf:=pZ.range;have bg:=cZ.there 6 rfl;have cR:=cZ.sets [.bool qs,.slice y N t,.int .i64 d,.bool i,.bool (decide (G<d)),.bool o] rfl;have a4:=de (w.heap.size+1+1) [.bool qs,.slice y N t,.int .i64 d,.bool i,.bool (decide (G<d)),.bool o] 0 WY;have bR:=a4.below bZ (show w.heap.size≤w.heap.size+1+1 by omega)
         have rR:=a4.rd rZ (cq rZ NZ cZ hz);refine wp_region_lit ?_;refine wpList_load_mid rfl 123 (.tmp 13) rfl j 0 rfl [.bool qs,.slice y N t,.int .i64 d,.bool i,.bool (decide (G<d)),.bool o] _ bf underlying123 rfl (by kernel_rfl) ?_;refine wpList_store_mid rfl 123 (.tmp 6) (.tmp 160) rfl (w.heap.size+1+1) 0 #[.bool qs,.slice y N t,.int .i64 d,.bool i,.bool (decide (G<d)),.bool o] rfl rfl bg (by kernel_rfl) (by simp[Value.oneCell']) ?_;refine wpList_nil ?_;clear bf bg a4 pZ cZ rZ NZ hz bZ;change Exit.then _ _ _ _ (World.setCells WY (w.heap.size+1+1) 0 [.bool qs,.slice y N t,.int .i64 d,.bool i,.bool (decide (G<d)),.bool o]);generalize World.setCells WY (w.heap.size+1+1) 0 [.bool qs,.slice y N t,.int .i64 d,.bool i,.bool (decide (G<d)),.bool o]=WR at cR bR rR⊢
         go_goals
         rename_i KK hKK
         refine hKK _ _ (wp_ret ?_);clear hKK;obtain⟨s0,s1,s2,s3,s4,s5⟩:=cR.cs6;refine bodyPost_ret (v:= .agg #[.bool qs,.slice y N t,.int .i64 d,.bool i,.bool (decide (G<d)),.bool o]) (by simp[results,results61,go_sem,s0,s1,s2,s3,s4,s5]) rfl ?_;rw[c5.out];exact⟨_,by rw[if_neg d5.out],rR,bR⟩
end Go.Proofs.YtlhkndcmbpcpgaaGreatDoor
