/- Texts laid together. -/
import Derived.Test.YthhiidikgchdeabGreatDoorLb07
import Derived.Test.YthhiidikgchdeabGreatDoorLb08
import Derived.Test.YthhiidikgchdeabGreatDoorLb09
import Derived.Test.YthhiidikgchdeabGreatDoorLb10
set_option maxRecDepth 100000
set_option maxHeartbeats 3200000
namespace Go.Proofs.YthhiidikgchdeabGreatDoor
open _root_.Go.Proofs.Tryz
open Go.RowKit
theorem zL (N O:Value)(xs a:List Nat)(w:World)(Q:Rd w .u32 N xs)(R:Rd w .u32 O a)(M:Dg.Small 4294967296 xs)(sb:Dg.Small 4294967296 a)(a4:xs.length≤1000000000)(a5:a.length≤xs.length)(I:Dg.vl 4294967296 a≤Dg.vl 4294967296 xs):
  yC 70 #[N,O] w (Num w (Dg.vl 4294967296 xs-Dg.vl 4294967296 a)):=by
 obtain⟨i0,S,a0,a1,a2⟩:=info_parts Tryz.infoU32;obtain⟨ao,ca,rfl,-,-,p⟩:=Q;obtain⟨bo,cb,rfl,-,-,t⟩:=R;have P:Hid _:=I;clear I
 go_enter func70,ntmps70
 go_wp2_with (at_make;refine wpList_make_full _ rfl _ _ 89 rfl w.heap.size 36 i0 (.int .u32 0) 1 underlying89 S a0 a1 _ _ _ _ xs.length rfl rfl (by omega) (by omega) ?A ?b3 (Nat.le_refl _) ?_)
 case A=>rw[a2];omega
 case b3=>unfold maxLen;omega
 intro w0 F E;have K:=gL F;have B:yB w w0:=(Below.refl _ _).grown E (Nat.le_refl _) (fun k h=>by cases h)
 clear F E
 go_wp2
 go_loopw [6,15] (fun r l wr=> ∃(k c:Nat) (i:List Nat),k≤a.length∧l=yi k∧r= .int .u32 c∧Own wr w.heap.size 36 .u32 (.slice (some ⟨w.heap.size,0,none⟩) xs.length xs.length) i∧Z7 xs a i k c∧yB w wr)
  (fun _ l _=>a.length-(intOf l).toNat)
 case atStart=>exact⟨0,0,_,Nat.zero_le _,rfl,rfl,K,⟨by simp,Dg.small_replicate _ _ (by omega),by omega,by simp[Dg.vl]⟩,B⟩
 case round=>
  clear K B;obtain⟨k,c,i,T,rfl,rfl,own,d,g⟩:=hrel;have G:=d.1;have q:=d.2.2.1
  by_cases W:k<a.length
  ·obtain⟨b,a3,rfl,n⟩:=p (by omega)
   obtain⟨A,a6,rfl,C⟩:=t (by omega);have z:=cell_later g (n k (by omega));have Z:=cell_later g (C k (by omega));have Y:=own.c k (by omega);have hf:=own.f k;have o:=M k;have J:=sb k;obtain⟨x,j⟩: ∃x,xs.getD k 0=x:=⟨_,rfl⟩;obtain⟨y,s⟩: ∃y,a.getD k 0=y:=⟨_,rfl⟩;have v:=Jq d (by omega) j s (by omega) (by omega);rw[j] at z o;rw[s] at Z J;clear j s n C p t
   go_wp2_with fail
   refine(zA x y c _ o J q).mono ?_;rintro e w' ⟨rfl,rfl⟩
   go_wp2
   go_roundw
   case rel=>exact⟨k+1,_,_,by omega,by go_num,rfl,own.store k _,v,g.setCell (by exact Nat.le_refl _) _⟩
   case measure=>simp[intOf];omega
  ·have u:k=a.length:=by omega
   subst u
   go_wp2
   go_loopw [6,9] (fun r l wr=> ∃(k c:Nat) (i:List Nat),a.length≤k∧k≤xs.length∧l=yi k∧r= .int .u32 c∧Own wr w.heap.size 36 .u32 (.slice (some ⟨w.heap.size,0,none⟩) xs.length xs.length) i∧Z7 xs a i k c∧yB w wr)
    (fun _ l _=>xs.length-(intOf l).toNat)
   case atStart=>exact⟨a.length,c,i,Nat.le_refl _,by omega,rfl,rfl,own,d,g⟩
   case round=>
    clear own d g G q;obtain⟨k,c,i,U,T,rfl,rfl,own,d,g⟩:=hrel;have G:=d.1;have q:=d.2.2.1
    by_cases W:k<xs.length
    ·obtain⟨b,a3,rfl,n⟩:=p (by omega)
     have z:=cell_later g (n k (by omega));have Y:=own.c k (by omega);have hf:=own.f k;have o:=M k;obtain⟨x,j⟩: ∃x,xs.getD k 0=x:=⟨_,rfl⟩;have v:=Jq d (by omega) j (Dg.getD_of_le a k U) (by omega) (by omega);rw[j] at z o;clear j n p t
     go_wp2_with fail
     refine(zA x 0 c _ o (by omega) q).mono ?_;rintro e w' ⟨rfl,rfl⟩
     go_wp2
     go_roundw
     case rel=>exact⟨k+1,_,_,by omega,by omega,by go_num,rfl,own.store k _,v,g.setCell (by exact Nat.le_refl _) _⟩
     case measure=>simp[intOf];omega
    ·have u:k=xs.length:=by omega
     subst u;have D:=Z8 d (by omega) P.out;have L:=own.rd
     go_wp2_with fail
     refine(jD _ _ _ _ _ L).mono ?_;rintro e w' ⟨m,rfl,X,rfl⟩;have H:=jW 4294967296 (by omega) own d.2.1 X;rw[D] at H;clear L D own
     go_wp2
     go_ret
     exact⟨_,rfl,H,g⟩
theorem fm (I J:Value)(xs a:List Nat)(w:World)(M:Rd w .i64 I xs)(N:Rd w .i64 J a)(G:Dg.Small 65536 xs)(H:Dg.Small 65536 a)(na:Dg.Norm xs)(nb:Dg.Norm a):
  yC 92 #[I,J] w (yR w (yi (dm (Dg.vl 65536 xs) (Dg.vl 65536 a)))):=by
 obtain⟨ao,ca,rfl,P,Q,p⟩:=M;obtain⟨bo,cb,rfl,a1,R,B⟩:=N;unfold maxLen at Q R
 by_cases z:xs.length<a.length
 ·have U:=Dg.vl_lt_of_len 65536 (by omega) xs a G nb z
  rw[gX (by omega)];have S:((xs.length:Int) != (a.length:Int))=true:=by rw[bne_iff_ne];omega
  go_enter func92,ntmps92
  go_wp2
  go_ret
  exact⟨rfl,Below.refl _ _⟩
 ·by_cases A:a.length<xs.length
  ·have U:=Dg.vl_lt_of_len 65536 (by omega) a xs H na A
   rw[sO (by omega)];have S:((xs.length:Int) != (a.length:Int))=true:=by rw[bne_iff_ne];omega
   go_enter func92,ntmps92
   go_wp2
   go_ret
   exact⟨rfl,Below.refl _ _⟩
  ·have q:xs.length=a.length:=by omega
   obtain⟨r,s⟩: ∃r,dm (Dg.vl 65536 xs) (Dg.vl 65536 a)=r:=⟨_,rfl⟩;rw[s];have v:Hid _:=s;have g:Hid _:=q;rw[q] at P p⊢;clear s q z A
   go_enter func92,ntmps92
   go_wp2
   go_loopw [5] (fun u wr=> ∃k:Nat,k≤a.length∧u=yi ((k:Int)-1)∧Hid (∀j,k≤j→xs.getD j 0=a.getD j 0)∧yB w wr) (fun u _=>(intOf u+1).toNat)
   case atStart=>exact⟨a.length,Nat.le_refl _,rfl,fun j i=>by rw[Dg.getD_of_le xs j (by rw[g.out];exact i),Dg.getD_of_le a j i],Below.refl _ _⟩
   case round=>
    obtain⟨k,hk,rfl,l,f⟩:=hrel
    by_cases O:k=0
    ·subst O
     have E:=Dg.eq_of_all xs a g.out (fun j=>l j (by omega))
     have T:r=0:=by rw[←v.out,E,Bh]
     subst T;clear E
     go_wp2
     go_ret
     exact⟨rfl,f⟩
    ·obtain⟨m,rfl⟩: ∃m,k=m+1:=⟨k-1,by omega⟩
     obtain⟨b,a2,rfl,C⟩:=p (by omega);obtain⟨b2,a3,rfl,D⟩:=B (by omega);have W:=cell_later f (C m (by omega));have Z:=cell_later f (D m (by omega));have c:xs.getD m 0<a.getD m 0→dm (Dg.vl 65536 xs) (Dg.vl 65536 a)= -1:=fun h=>
      gX (by have:=Dg.vl_lt_of_digit 65536 xs a m g.out (by rw[g.out];omega) l h G;omega)
     have d:a.getD m 0<xs.getD m 0→dm (Dg.vl 65536 xs) (Dg.vl 65536 a)=1:=fun h=>
      sO (by have:=Dg.vl_lt_of_digit 65536 a xs m g.out.symm (by omega) (fun j i=>(l j i).symm) h H;omega)
     rw[v.out] at c d;obtain⟨x,n⟩: ∃x,xs.getD m 0=x:=⟨_,rfl⟩;obtain⟨y,o⟩: ∃y,a.getD m 0=y:=⟨_,rfl⟩;have K:Hid _:=n;have L:Hid _:=o;rw[n] at W c d;rw[o] at Z c d;clear n o C D p B;have F:((m+1:Nat):Int)-1=(m:Int):=by omega
     rw[F];clear F
     by_cases Y:x<y
     ·have t:=c Y
      subst t;clear c d
      go_wp2
      go_quiet (fail)
      go_wp2
      go_ret
      exact⟨rfl,aL f _⟩
     ·by_cases a0:y<x
      ·have t:=d a0
       subst t;clear c d
       go_wp2
       go_quiet (fail)
       go_wp2
       go_quiet (fail)
       go_wp2
       go_ret
       exact⟨rfl,aL (aL f _) _⟩
      ·have X:x=y:=by omega
       subst X;clear c d
       go_wp2
       go_quiet (fail)
       go_wp2
       go_quiet (fail)
       go_wp2
       go_roundw
       case rel=>exact⟨m,by omega,by go_num,fun j i=>by
        by_cases e:j=m
        ·rw[e];exact K.out.trans L.out.symm
        ·exact l j (by omega),aL f _⟩
       case measure=>simp[intOf]
theorem Dj (va:Value)(xs:List Nat)(n a d:Nat)(w:World)(ha:Rd w .u32 va xs)(F:Dg.Small 4294967296 xs)(ad:xs.length≤1000000000)(B:n=32*a+d)(a5:d<32)(al:n≤40000000000):
  yC 121 #[va,yi n] w (Num w (Dg.vl 4294967296 xs/2^n)):=by
 have v:2^d*2^ (32-d)=4294967296:=by rw[←Nat.pow_add,show d+(32-d)=32 from by omega]
 have C:4294967296^a*2^d=2^n:=by rw[B,Nat.pow_add,Nat.pow_mul]
 obtain⟨ao,ca,rfl,-,-,N⟩:=ha;obtain⟨i0,hi,a7,a8,a9⟩:=info_parts Tryz.infoU32;have hq:(n:Int)/32=(a:Int):=by omega
 have hr:(n:Int) % 32=(d:Int):=by omega
 have an:a≤40000000000:=by omega
 have a0:Hid _:=v;have a1:Hid _:=C
 by_cases a2:xs.length≤a
 ·have X:Dg.vl 4294967296 xs/2^n=0:=by
   apply Nat.div_eq_of_lt;have h1:=Dg.vl_lt 4294967296 xs F;have t:4294967296^xs.length≤4294967296^a:=Nat.pow_le_pow_right (by omega) a2;have h3:4294967296^a≤4294967296^a*2^d:=Nat.le_mul_of_pos_right _ (Nat.pow_pos (by omega));omega
  rw[X];clear X B v C
  go_enter func121,ntmps121
  go_wp2
  go_ret
  exact⟨_,rfl,aQ _ _ _ _,Below.refl _ _⟩
 ·clear B v C
  obtain⟨L,K⟩: ∃L,xs.length-a=L:=⟨_,rfl⟩
  go_enter func121,ntmps121
  go_wp2_with (at_make;refine wpList_make_full _ rfl _ _ 89 rfl w.heap.size 36 i0 (.int .u32 0) 1 underlying89 hi a7 a8 _ _ _ _ (xs.length-a) rfl rfl (by omega) (by omega) ?b2 ?b3 (Nat.le_refl _) ?_)
  case b2=>rw[a9];omega
  case b3=>unfold maxLen;omega
  intro w0 R O;have Z:=gL R;have H:yB w w0:=(Below.refl _ _).grown O (Nat.le_refl _) (fun k h=>by cases h)
  have p:Hid _:=K;have M:a+L=xs.length:=by omega
  have G:Hid _:=M;have ac:L≤1000000000:=by omega
  clear R O K M
  go_wp2
  go_loopw [24] (fun E wr=> ∃(k:Nat) (i:List Nat),k≤L∧E=yi k∧Own wr w.heap.size 36 .u32 (.slice (some ⟨w.heap.size,0,none⟩) L L) i∧abK xs i a (2^d) (2^ (32-d)) k∧yB w wr) (fun E _=>L-(intOf E).toNat)
  case atStart=>
   refine⟨0,_,Nat.zero_le _,rfl,Z,⟨by have:=p.out;simp;omega,fun j=> ?_⟩,H⟩
   rw[if_neg (by omega)]
   by_cases h:j<L<;>simp[List.getD_eq_getElem?_getD,h]
  case round=>
   clear Z H;obtain⟨k,i,hk,rfl,own,u,g⟩:=hrel;have T:i.length=L:=u.1.trans p.out
   by_cases ae:k<L
   ·have a6:a+k<xs.length:=by have:=G.out;omega
    obtain⟨b,ap,rfl,z⟩:=N (by omega);have hx:=cell_later g (z (a+k) a6);have q:=fun h:a+k+1<xs.length=>cell_later g (z (a+k+1) h)
    have U:=F (a+k);have hu:=own.c k (by omega);have hf:=own.f k;have r: ¬a+k+1<xs.length→xs.getD (a+k+1) 0=0:=fun h=>Dg.getD_of_le _ _ (by omega)
    have o:=Y9 u (by have:=p.out;omega) rfl;obtain⟨x,I⟩: ∃x,xs.getD (a+k) 0=x:=⟨_,rfl⟩;obtain⟨y,J⟩: ∃y,xs.getD (a+k+1) 0=y:=⟨_,rfl⟩;rw[I] at hx U o;rw[J] at q r o;clear I J z N T
    by_cases t:a+k+1<xs.length
    ·have W:=q t
     have Q:=adm x y d a5 U;have HO:Hid _:=Q;clear q r Q
     go_wp2
     go_region
     all_goals go_wp2
     all_goals go_roundw
     case rel=>
      have s:(x:Int)/2^d=((x/2^d:Nat):Int):=by rw[Int.natCast_ediv,Int.natCast_pow];rfl
      rw[HO.out,s];have Y:=(own.store k (x/2^d)).store k (x/2^d+y % 2^d*2^ (32-d));rw[List.set_set] at Y;exact⟨k+1,_,by omega,by go_num,Own.l Y (Below.drew (Below.refl _ _)),o,((g.setCell (by exact Nat.le_refl _) _).setCell (by exact Nat.le_refl _) _).drew⟩
     case measure=>simp[intOf];omega
    ·have W:=r t
     subst W;simp only[Nat.zero_mod,Nat.zero_mul,Nat.add_zero] at o;clear q r
     go_wp2
     go_roundw
     case rel=>
      have s:(x:Int)/2^d=((x/2^d:Nat):Int):=by rw[Int.natCast_ediv,Int.natCast_pow];rfl
      rw[s];exact⟨k+1,_,by omega,by go_num,own.store k _,o,g.setCell (by exact Nat.le_refl _) _⟩
     case measure=>simp[intOf];omega
   ·have a3:k=L:=by omega
    subst a3;have A:=abL (by rw[p.out];exact u) (by have:=G.out;omega) a0.out F;have D:=A.2;rw[a1.out] at D;have HV:Hid _:=D;have a4:=A.1;clear T D A
    go_wp2_with fail
    refine(jD _ _ _ i _ own.rd).mono ?_;rintro e w' ⟨m,rfl,P,rfl⟩;have S:=jW 4294967296 (by omega) own a4 P;rw[HV.out] at S;clear P
    go_wp2
    go_ret
    exact⟨_,rfl,S,g⟩
theorem eO (a:Value)(xs:List Nat)(n:Int)(w:World)(c:Rd w .u32 a xs)(i:Dg.Small 4294967296 xs)(f:xs.length≤1000000000)(q: -40000000000≤n)(r:n≤40000000000):
  yC 102 #[a,yi n] w (Num w (shN (Dg.vl 4294967296 xs) n)):=by
 unfold shN
 by_cases g:n<0
 ·rw[if_pos g]
  obtain⟨m,j⟩: ∃m:Nat,-n=(m:Int):=⟨(-n).toNat,by omega⟩;have d:=Dj a xs m (m/32) (m % 32) w c i f (by omega) (by omega) (by omega);rw[j,Int.toNat_natCast]
  go_enter func102,ntmps102
  go_wp2_with fail
  refine d.mono ?_;rintro e l ⟨v,rfl,own,b⟩
  go_wp2
  go_ret
  exact⟨_,rfl,own,b⟩
 ·rw[if_neg g]
  obtain⟨m,rfl⟩: ∃m:Nat,n=(m:Int):=⟨n.toNat,by omega⟩;rw[Int.toNat_natCast]
  by_cases h:xs=[]
  ·subst h
   obtain⟨o,p,rfl⟩:=c.shape;have k:Dg.vl 4294967296 []*2^m=0:=by simp[Dg.vl]
   rw[k]
   go_enter func102,ntmps102
   go_wp2
   go_ret
   exact⟨_,rfl,aQ _ _ _ _,Below.refl _ _⟩
  ·have d:=vO a xs m (m/32) (m % 32) (2^ (m % 32)) w c i f (by omega) (by omega) rfl (by omega) h
   go_enter func102,ntmps102
   go_wp2_with fail
   refine d.mono ?_;rintro e l ⟨v,rfl,own,b⟩
   go_wp2
   go_ret
   exact⟨_,rfl,own,b⟩
theorem xh {w:World}{base e:Nat}{g n cap m:Nat}{zs:List Nat}(h:Own w base e .i64 (.slice (some ⟨g,0,none⟩) n cap) zs)(b:Dg.Small 65536 zs)(a:Ou zs m)(c:zs.length≤3000000):Rd w .i64 (.slice (some ⟨g,0,none⟩) m m) (Dg.dg 65536 (Dg.vl 65536 zs)):=
 uE 65536 (by omega) h.rd b a (Nat.le_refl _) (by have:=a.1;unfold maxLen;omega)
theorem pf (n a b:Nat)(w:World)(q:n=16*a+b)(z:b<16)(K:n≤1000000):
  yC 117 #[yi n] w (cG w (2^n)):=by
 have e:=C6 a b z;rw[←q] at e;obtain⟨D,x,A,B,C⟩:=info_parts Tryz.infoI64;have L:(n:Int)/16=(a:Int):=by omega
 have M:(n:Int) % 16=(b:Int):=by omega
 have N:a≤1000000:=by omega
 have s:Hid _:=e;clear e q
 go_enter func117,ntmps117
 go_wp2_with (at_make;refine wpList_make_full _ rfl _ _ 41 rfl w.heap.size 3 D (yi 0) 1 underlying41 x A B _ _ _ _ (a+1) rfl rfl (by omega) (by omega) ?b2 ?b3 (Nat.le_refl _) ?_)
 case b2=>rw[C];omega
 case b3=>unfold maxLen;omega
 intro F r o;have j:=gL r;have t:yB w F:=(Below.refl _ _).grown o (Nat.le_refl _) (fun k h=>by cases h)
 clear r o
 go_wp2
 go_loop [4,5] (fun v i=> ∃k d:Nat,k≤b∧i=yi k∧v=yi d∧Hid (d=2^k)) (fun _ i=>b-(intOf i).toNat)
 case atStart=>exact⟨0,1,Nat.zero_le _,rfl,rfl,rfl⟩
 case round=>
  obtain⟨k,d,I,rfl,rfl,g⟩:=hrel;have H:d≤65536:=by
   rw[g.out];have:2^k≤2^15:=Nat.pow_le_pow_right (by omega) (by omega);omega
  by_cases J:k<b
  ·go_wp2
   go_round
   case rel=>exact⟨k+1,2*d,by omega,by go_num,by go_num,by rw[show d=2^k from g.out,Nat.pow_succ];exact Nat.mul_comm _ _⟩
   case measure=>simp[intOf];omega
  ·have y:k=b:=by omega
   subst y;have G:=j.c a (by simp);have hf:=j.f a;have l:=j.store a d;have u:=t.setCell (p:=⟨w.heap.size,a,none⟩) (by exact Nat.le_refl _) (yi (d:Int));have m:=g.out;rw[show(List.replicate (a+1) 0).set a d=Dg.dg 65536 (2^n) from by rw[m];exact s.out] at l
   have E:=l.rd;clear m l
   go_wp2
   go_ret
   exact⟨_,rfl,E,u⟩
theorem Zw (x:Nat)(w:World)(b:x<4294967296)(c:x≠0)(h:Tab w):
  yC 125 #[.int .u32 x] w fun e w'=> ∃k m:Nat,e= .returned (yi k)∧x=2^k*(2*m+1)∧k<32∧w'=w:=by
 obtain⟨i,a⟩:=Lib.lowest_bit 32 x c b;obtain⟨f,l⟩:=Lib.deBruijn32_at _ a;obtain⟨m,j,_⟩:=Lib.ctzFrom_spec 32 x (by omega) b;have g:Lib.ctz 32 x=Lib.ctzFrom 32 x:=by simp[Lib.ctz,c]
 have d:=h _ f;rw[l] at d;refine(Vp x _ _ w (by simp;omega) (tz32_key x _ b c i) f a d).mono ?_;rintro e w' ⟨rfl,rfl⟩;exact⟨_,m,rfl,by rw[g];exact j,a,rfl⟩
theorem afy {P:Program}{i w:World}{n b:Nat}{f:TypeId}{q r s:Value}{d:TypeDesc}(h:au w b f [q,r,s])(k:Below n i w)(o:n≤b)(p:P.underlying f=some d)(l:d.isRow=true)(m:(P.info? f).map (·.size)=some 3)(a c e:Value):
  (loadVar f ⟨b,0,none⟩).run P (((w.setCell ⟨b,0,none⟩ a).setCell ⟨b,1,none⟩ c).setCell ⟨b,2,none⟩ e)= .ok (.agg #[a,c,e]) (((w.setCell ⟨b,0,none⟩ a).setCell ⟨b,1,none⟩ c).setCell ⟨b,2,none⟩ e)∧Below n i (((w.setCell ⟨b,0,none⟩ a).setCell ⟨b,1,none⟩ c).setCell ⟨b,2,none⟩ e)∧But b w (((w.setCell ⟨b,0,none⟩ a).setCell ⟨b,1,none⟩ c).setCell ⟨b,2,none⟩ e):=by
 have j:au (((w.setCell ⟨b,0,none⟩ a).setCell ⟨b,1,none⟩ c).setCell ⟨b,2,none⟩ e) b f [a,c,e]:=(((h.set 0 a).set 1 c).set 2 e);have g:=((ag w b 0 a).trans (ag _ b 1 c)).trans (ag _ b 2 e);exact⟨run_loadVar_mid (P:=P) _ b 0 f [a,c,e] _ j.range p l m,g.below k o,g⟩
theorem fin6 {P:Program}{l w:World}{n b:Nat}{j:TypeId}{t u v x y z:Value}{d:TypeDesc}(h:au w b j [t,u,v,x,y,z])(o:Below n l w)(r:n≤b)(s:P.underlying j=some d)(p:d.isRow=true)(q:(P.info? j).map (·.size)=some 6)(a c e f g i:Value):
  (loadVar j ⟨b,0,none⟩).run P ((((((w.setCell ⟨b,0,none⟩ a).setCell ⟨b,1,none⟩ c).setCell ⟨b,2,none⟩ e).setCell ⟨b,3,none⟩ f).setCell ⟨b,4,none⟩ g).setCell ⟨b,5,none⟩ i)= .ok (.agg #[a,c,e,f,g,i]) ((((((w.setCell ⟨b,0,none⟩ a).setCell ⟨b,1,none⟩ c).setCell ⟨b,2,none⟩ e).setCell ⟨b,3,none⟩ f).setCell ⟨b,4,none⟩ g).setCell ⟨b,5,none⟩ i)∧Below n l ((((((w.setCell ⟨b,0,none⟩ a).setCell ⟨b,1,none⟩ c).setCell ⟨b,2,none⟩ e).setCell ⟨b,3,none⟩ f).setCell ⟨b,4,none⟩ g).setCell ⟨b,5,none⟩ i)∧But b w ((((((w.setCell ⟨b,0,none⟩ a).setCell ⟨b,1,none⟩ c).setCell ⟨b,2,none⟩ e).setCell ⟨b,3,none⟩ f).setCell ⟨b,4,none⟩ g).setCell ⟨b,5,none⟩ i):=by
 have m:au ((((((w.setCell ⟨b,0,none⟩ a).setCell ⟨b,1,none⟩ c).setCell ⟨b,2,none⟩ e).setCell ⟨b,3,none⟩ f).setCell ⟨b,4,none⟩ g).setCell ⟨b,5,none⟩ i) b j [a,c,e,f,g,i]:=((((((h.set 0 a).set 1 c).set 2 e).set 3 f).set 4 g).set 5 i);have k:=(((((ag w b 0 a).trans (ag _ b 1 c)).trans (ag _ b 2 e)).trans (ag _ b 3 f)).trans (ag _ b 4 g)).trans (ag _ b 5 i);exact⟨run_loadVar_mid (P:=P) _ b 0 j [a,c,e,f,g,i] _ m.range s p q,k.below o r,k⟩
theorem XC (x:Nat)(w:World)(h:x<4294967296):yC 135 #[.int .u32 x] w fun e w'=>e= .returned (yi ((32-bitLen x:Nat):Int))∧w'=w:=by
 have a:=IK x w h;have c:=bF x 32 (by omega);obtain⟨l,b⟩: ∃l,bitLen x=l:=⟨_,rfl⟩;rw[b] at a c⊢;clear b
 go_enter func135,ntmps135
 go_wp2_with fail
 refine a.mono ?_;rintro e w' ⟨rfl,rfl⟩
 go_wp2
 go_ret
 exact⟨by go_num,rfl⟩
theorem TX (g i n pc:Nat)(C D Y:Nat)(p2 p1 l a d:Nat)(w:World)(hn:2≤n)(al:n≤2000000000)(_hil:i≤2000000000)
  (X:w.cell? ⟨g,i+n,none⟩=some (.int .u32 p2)) (W:w.cell? ⟨g,i+(n-1),none⟩=some (.int .u32 p1)) (P:w.cell? ⟨g,i+(n-2),none⟩=some (.int .u32 l))
  (e1:w.cell? ⟨C,D+(n-1),none⟩=some (.int .u32 a)) (Z:w.cell? ⟨C,D+(n-2),none⟩=some (.int .u32 d))
  (a3:p2<4294967296) (J:p1<4294967296) (T:l<4294967296) (ad:a<4294967296) (I:d<4294967296) (hd:2147483648≤a) (S:p2≤a):
  yC 136 #[.slice (some ⟨g,i,none⟩) (n+1) pc,.slice (some ⟨C,D,none⟩) n Y] w fun e w'=>
   ∃q:Nat,e= .returned (.int .u32 q)∧q<4294967296∧(∀k,k*(a*4294967296+d)≤(p2*4294967296+p1)*4294967296+l→k<4294967296→k≤q)∧q*(a*4294967296+d)≤(p2*4294967296+p1)*4294967296+l∧yB w w':=by
 have z:=KJ p2 p1 a3 J;obtain⟨f,K⟩: ∃f,p2*4294967296+p1=f:=⟨_,rfl⟩;rw[K] at z⊢;have ao:f<18446744073709551616:=by omega
 have c:=Z1 f a d l (by omega) T;obtain⟨L,A⟩: ∃q,f/a=q:=⟨_,rfl⟩;obtain⟨M,B⟩: ∃r,f % a=r:=⟨_,rfl⟩;have a5:M<a:=by rw[←B];exact Nat.mod_lt _ (by omega)
 have U:L≤4294967297:=by
  rw[←A];have:f/a<4294967298:=by rw[Nat.div_lt_iff_lt_mul (by omega)];omega
  omega
 have f1:(f:Int)/(a:Int)=(L:Int):=by rw[←A];exact(Int.natCast_ediv f a).symm
 have Q:(f:Int) % (a:Int)=(M:Int):=by rw[←B];exact(Int.natCast_emod f a).symm
 have g1:IntKind.u64.wrap a=(a:Int):=IntWalk.u64_in _ ⟨by omega,by omega⟩;rw[A,B] at c;have O:Hid _:=K;clear A B K;have n1:((n:Int)-1)=((n-1:Nat):Int):=by omega
 have n2:((n:Int)-2)=((n-2:Nat):Int):=by omega
 go_enter func136,ntmps136
 go_wp2
 go_quiet (fail)
 go_wp2
 go_quiet (fail)
 go_wp2
 go_quiet (fail)
 go_wp2
 go_loopw [9,10] (fun E rv wr=>GsR w g (i+(n-2)) f a d l E rv wr) (fun E _ _=>msr E)
 case atStart=>exact⟨L,M,rfl,by rw[Q],c,by omega,U,P,aL (aL (aL (Below.refl _ _) _) _) _⟩
 case round=>
  clear P c W X Z e1 f1 Q a5 U z;obtain⟨t,r,rfl,rfl,N,hr,an,R,u⟩:=hrel;have m:=N.out;have z:=KJ r l hr T
  by_cases G:4294967296≤t
  ·have c:=S9 m (by omega) (.inl G)
   have a0:(4294967296:Int)≤(t:Int):=by omega
   have m1:((t:Int)-1)=((t-1:Nat):Int):=by omega
   have p:Hid _:=c
   by_cases j:4294967296≤r+a
   ·have o:=Mk c j (by omega) O.out S J I
    have h:Hid _:=o;have a1:(4294967296:Int)≤(r:Int)+(a:Int):=by omega
    clear o c m j
    go_wp2
    go_ret
    exact⟨t-1,by first|rfl| (rw[Ap h.out.1];rfl),h.out.1,p.out.2,h.out.2,u⟩
   ·obtain⟨b,v⟩: ∃b,r+a=b:=⟨_,rfl⟩
    rw[v] at p j;have a7:(r:Int)+(a:Int)=(b:Int):=by omega
    have H:b<4294967296:=by omega
    have a8:(b:Int)<4294967296:=by omega
    have a6:decide ((4294967296:Int)≤(b:Int))=false:=by rw[decide_eq_false_iff_not];omega
    clear c m j v
    go_wp2
    go_roundw
    case rel=>exact⟨t-1,b,rfl,rfl,p.out,H,by omega,R,u⟩
    case measure=>simp[msr,intOf];omega
  ·have a0:(t:Int)<4294967296:=by omega
   have F:t<4294967296:=by omega
   have ac:decide ((4294967296:Int)≤(t:Int))=false:=by rw[decide_eq_false_iff_not];omega
   have ap:=uf F I;have ar:(t:Int)*(d:Int)≤18446744065119617025:=by rw[←Int.natCast_mul];omega
   have aq:0≤(t:Int)*(d:Int):=by rw[←Int.natCast_mul];omega
   have a9:r*4294967296+l<18446744073709551616:=by omega
   obtain⟨s,x⟩: ∃s,r*4294967296+l=s:=⟨_,rfl⟩;rw[x] at z a9
   by_cases y:s<t*d
   ·have a4:0<t:=by
     rcases Nat.eq_zero_or_pos t with e|e
     ·rw[e,Nat.zero_mul] at y;omega
     ·exact e
    have a2:(s:Int)< (t:Int)*(d:Int):=by rw[←Int.natCast_mul];omega
    have c:=S9 m a4 (.inr (by rw[x];exact y));clear G x y;have m1:((t:Int)-1)=((t-1:Nat):Int):=by omega
    have p:Hid _:=c
    by_cases j:4294967296≤r+a
    ·have o:=Mk c j (by omega) O.out S J I
     have h:Hid _:=o;have a1:(4294967296:Int)≤(r:Int)+(a:Int):=by omega
     clear o c m j
     go_wp2
     go_ret
     exact⟨t-1,by first|rfl| (rw[Ap h.out.1];rfl),h.out.1,p.out.2,h.out.2,u⟩
    ·obtain⟨b,v⟩: ∃b,r+a=b:=⟨_,rfl⟩
     rw[v] at p j;have a7:(r:Int)+(a:Int)=(b:Int):=by omega
     have H:b<4294967296:=by omega
     have a8:(b:Int)<4294967296:=by omega
     have a6:decide ((4294967296:Int)≤(b:Int))=false:=by rw[decide_eq_false_iff_not];omega
     clear c m j v
     go_wp2
     go_roundw
     case rel=>exact⟨t-1,b,rfl,rfl,p.out,H,by omega,R,u⟩
     case measure=>simp[msr,intOf];omega
   ·have a2:(t:Int)*(d:Int)≤(s:Int):=by rw[←Int.natCast_mul];omega
    have o:=Z2 m (by rw[x];omega);have h:Hid _:=o;have ae:decide ((s:Int)< (t:Int)*(d:Int))=false:=by rw[decide_eq_false_iff_not];omega
    clear G x y o m
    go_wp2
    go_ret
    exact⟨t,by first|rfl| (rw[Ap F];rfl),F,N.out.2,h.out,u⟩
theorem EvN.mono {p q:Nat→Prop}(h:EvN p)(g: ∀n,p n→q n):EvN q:=by
 obtain⟨a,b⟩:=h;exact⟨a,fun n c=>g n (b n c)⟩
theorem qT_up (a:ak)(n:Int):qT (upT a n)=p2 n*qT a:=by
 unfold qT upT;simp only;rw[p2_add]
 grind
theorem cut_pow (t:ak)(b:Int)(up:Bool)(_hb:1≤b)(k:Int)(h:ab (qT t)≤p2 k):ab (qT (aY t b up))≤p2 k:=by
 unfold aY
 by_cases c:(bitLen t.n:Int)-b≤((if t.n=0 then 0 else tz t.n:Nat):Int)
 ·rw[if_pos c]
  exact h
 ·rw[if_neg c]
  have a:t.n≠0:=fun e=>by
   rw[e,gP] at c;omega
  obtain⟨j,z⟩: ∃j:Nat,(bitLen t.n:Int)-b=(j:Int):=⟨((bitLen t.n:Int)-b).toNat,by omega⟩;rw[z,Int.toNat_natCast];obtain⟨B,C,D⟩:=uB t.n a;rw[qT_ab] at h;rw[qT_ab];simp only;have A:=p2_pos t.e
  by_cases g:k<t.e+(bitLen t.n:Int)-1
  ·exfalso
   have u:=(qT_top a).1;rw[qT_ab] at u;have v:=p2_mono (show k+1≤t.e+(bitLen t.n:Int)-1 by omega)
   rw[p2_add,p2_one] at v;have:=p2_pos k
   grind
  ·have I:t.e≤k:=by omega
   obtain⟨i,o⟩: ∃i:Nat,k=(i:Int)+t.e:=⟨(k-t.e).toNat,by omega⟩;rw[o,p2_add,p2_nat] at h;have E:t.n≤2^i:=by
    by_cases d:t.n≤2^i
    ·exact d
    ·exfalso
     have:((2^i:Nat):Rat)< (t.n:Rat):=Rat.natCast_lt_natCast.2 (by omega);have:=Rat.mul_pos (show 0< (t.n:Rat)-((2^i:Nat):Rat) by grind) A
     grind
   have H:j≤i:=by omega
   have w:t.n/2^j+(if(up != t.s)=true then 1 else 0)≤2^ (i-j):=by
    have e:2^i=2^ (i-j)*2^j:=by rw[←Nat.pow_add];congr 1;omega
    by_cases f:t.n=2^i
    ·exfalso
     obtain⟨m,l⟩:=fO a;rw[if_neg a] at c;have J:tz t.n<i:=by omega
     have p:2^i=2^tz t.n*2^ (i-tz t.n):=by rw[←Nat.pow_add];congr 1;omega
     have l:2^tz t.n*2^ (i-tz t.n)=2^tz t.n*(2*m+1):=by rw[←p,←f];exact l
     have x:=Nat.eq_of_mul_eq_mul_left (Nat.pow_pos (by omega)) l;have q:2^ (i-tz t.n)=2*2^ (i-tz t.n-1):=by rw[Nat.mul_comm,←Nat.pow_succ];congr 1;omega
     rw[q] at x;omega
    ·have G:t.n/2^j<2^ (i-j):=by
      rw[Nat.div_lt_iff_lt_mul (Nat.pow_pos (by omega)),←e];omega
     split<;>omega
   rw[o,p2_add,p2_nat,p2_add,p2_nat];have r:((2^i:Nat):Rat)=((2^ (i-j):Nat):Rat)*((2^j:Nat):Rat):=by rw[←two_addR];congr 2;omega
   rw[r];have y:((t.n/2^j+(if(up != t.s)=true then 1 else 0):Nat):Rat)≤((2^ (i-j):Nat):Rat):=Rat.natCast_le_natCast.2 w
   have F:=Rat.mul_le_mul_of_nonneg_right y (show 0≤p2 t.e*((2^j:Nat):Rat) from Rat.mul_nonneg (by grind) (by have:=two_posR j;grind))
   grind
def restS:ak×ak:=(upT (wTr 1) (-1),wTr 2)
def nearT (y:ak):Nat:=
 let m:=aG y (upT (wTr 1) (-1))
 if 0≤m.e then m.n*2^m.e.toNat else m.n/2^ (-m.e).toNat
theorem RgT.mono {E T E' T':Int}{t:ak}(h:RgT E T t)(a:E≤E')(b:T≤T'):RgT E' T' t:=by
 unfold RgT at*;omega
theorem RgS.mono {E T E' T':Int}{s:ak×ak}(h:RgS E T s)(a:E≤E')(b:T≤T'):RgS E' T' s:=⟨h.1.mono a b,h.2.mono a b⟩
theorem RgT.fit {E T:Int}{t:ak}(h:RgT E T t)(a:E≤1000000000)(b:T≤1000000000):Fit9 t:=h.mono a b
theorem xa_ord {n k tn:Nat}(a:2≤n)(b:tn≤1):(lp (n*n) tn (k+1) 0 (2^k/n) 0 0).2.2≤(lp (n*n) tn (k+1) 0 (2^k/n) 0 0).2.1:=(inv_ord a b _ _ _ _ _ _ (inv_zero a)).1
theorem ln_VV (k:Nat):V k (lnLo k)=18*((XA 26 0 k:Int)-((3+3*NA 26 0 k:Nat):Int))-2*((XA 4801 0 k:Int)+((3+3*NA 4801 0 k:Nat):Int))+8*((XA 8749 0 k:Int)-((3+3*NA 8749 0 k:Nat):Int))∧V k (lnHi k)=18*((XA 26 0 k:Int)+((3+3*NA 26 0 k:Nat):Int))-2*((XA 4801 0 k:Int)-((3+3*NA 4801 0 k:Nat):Int))+8*((XA 8749 0 k:Int)+((3+3*NA 8749 0 k:Nat):Int))∧(lnLo k).e=0-(k:Int)∧(lnHi k).e=0-(k:Int):=by
 obtain⟨-,⟨c,d⟩,⟨-,-,-,-,a,b⟩,-⟩:=ln_V k;exact⟨c,d,a,b⟩
theorem FitsT.rg {t:ak}(h:FitsT t):RgT 90000 160000 t:=by
 obtain⟨⟨k,b,a⟩,c,d⟩:=h;have:=bits_le a;exact⟨by omega,by omega⟩
def lnSpan (x:ak)(B:Nat):ak×ak:=(lnLo (B+(x.e+(bitLen x.n:Int)).toNat),lnHi (B+(x.e+(bitLen x.n:Int)).toNat))
def lgP (x:ak):Int:=if bJ x (upT (wTr 3) (x.e+(bitLen x.n:Int)-2))<0 then x.e+(bitLen x.n:Int)-1 else x.e+(bitLen x.n:Int)
def lgY (x:ak):ak:=upT x (-lgP x)
theorem lgY_fit {x:ak}(a:bitLen x.n≤1200):RgT 1200 1 (lgY x):=by
 have b:lgP x=x.e+(bitLen x.n:Int)-1∨lgP x=x.e+(bitLen x.n:Int):=by
  unfold lgP
  split
  ·exact .inl rfl
  ·exact .inr rfl
 unfold lgY RgT
 show _≤x.e+ -lgP x∧x.e+ -lgP x+(bitLen x.n:Int)≤_
 omega
end Go.Proofs.YthhiidikgchdeabGreatDoor
