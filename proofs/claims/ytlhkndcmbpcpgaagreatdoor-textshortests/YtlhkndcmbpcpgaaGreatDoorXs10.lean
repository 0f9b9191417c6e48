/- Texts laid together. -/
import Derived.Test.YtlhkndcmbpcpgaaGreatDoorXs02
import Derived.Test.YtlhkndcmbpcpgaaGreatDoorXs03
import Derived.Test.YtlhkndcmbpcpgaaGreatDoorXs04
set_option maxRecDepth 100000
set_option maxHeartbeats 12800000
namespace Go.Proofs.YtlhkndcmbpcpgaaGreatDoor
open _root_.Go.Proofs.Tryz
open Go.RowKit
theorem plus_le_mg:
  (∀(n o:Value) (xs a:List Nat) (w:World) (_:Rd w .u32 n xs) (_:Rd w .u32 o a) (_:Dg.Small 4294967296 xs) (_:Dg.Small 4294967296 a) (_:xs.length≤1000000) (_:a.length≤xs.length),
  yC 44 #[n,o] w (Num w (Dg.vl 4294967296 xs+Dg.vl 4294967296 a)))∧
  (∀(n o:Value) (xs a:List Nat) (w:World) (_:Rd w .u32 n xs) (_:Rd w .u32 o a) (_:Dg.Small 4294967296 xs) (_:Dg.Small 4294967296 a) (_:xs.length≤1000000) (_:a.length<xs.length),
  yC 44 #[o,n] w (Num w (Dg.vl 4294967296 xs+Dg.vl 4294967296 a))):=by
 refine⟨?_, ?_⟩;have _z:Mgk 0:=mgkI 0
 all_goals
  intro n o xs a w T U R sb a4 a5;obtain⟨i0,W,a0,a1,a2⟩:=info_parts Tryz.infoU32;obtain⟨ao,ca,rfl,-,-,s⟩:=T;obtain⟨bo,cb,rfl,-,-,z⟩:=U
  go_enter func44,ntmps44
  go_wp2_with (at_make;refine wpList_make_full _ rfl _ _ 47 rfl w.heap.size 105 i0 (.int .u32 0) 1 underlying47 W a0 a1 _ _ _ _ (xs.length+1) rfl rfl (by omega) (by omega) ?H ?b3 (Nat.le_refl _) ?_)
  case H=>rw[a2];omega
  case b3=>unfold maxLen;omega
  intro w0 L K;have P:=gL L;have I:yB w w0:=(Below.refl _ _).grown K (Nat.le_refl _) (fun k h=>by cases h)
  clear L K
  go_wp2
  go_loopw [6,23] (fun u l wr=> ∃(k c:Nat) (i:List Nat),k≤a.length∧l=yi k∧u= .int .u32 c∧Own wr w.heap.size 105 .u32 (.slice (some ⟨w.heap.size,0,none⟩) (xs.length+1) (xs.length+1)) i∧Qv xs a i k c∧yB w wr)
   (fun _ l _=>a.length-(intOf l).toNat)
  case atStart=>exact⟨0,0,_,Nat.zero_le _,rfl,rfl,P,⟨by simp,Dg.small_replicate _ _ (by omega),by omega,by simp[Dg.vl]⟩,I⟩
  case round=>
   clear P I;obtain⟨k,c,i,X,rfl,rfl,own,d,g⟩:=hrel;have M:=d.1;have t:=d.2.2.1
   by_cases Z:k<a.length
   ·obtain⟨b,a3,rfl,q⟩:=s (by omega)
    obtain⟨H,a6,rfl,J⟩:=z (by omega);have F:=cell_later g (q k (by omega));have hy:=cell_later g (J k (by omega));have D:=own.c k (by omega);have B:=own.f k;have r:=R k;have O:=sb k;obtain⟨x,j⟩: ∃x,xs.getD k 0=x:=⟨_,rfl⟩;obtain⟨y,v⟩: ∃y,a.getD k 0=y:=⟨_,rfl⟩;have E:=zq d (by omega) j v (by omega) (by omega);rw[j] at F r;rw[v] at hy O;clear j v q J s z
    go_wp2_with fail
    refine(ur x y c _ r O t).mono ?_;rintro e w' ⟨rfl,rfl⟩
    go_wp2
    go_roundw
    case rel=>exact⟨k+1,_,_,by omega,by go_num,rfl,own.store k _,E,g.setCell (by exact Nat.le_refl _) _⟩
    case measure=>simp[intOf];omega
   ·have C:k=a.length:=by omega
    subst C
    go_wp2
    go_loopw [6,9] (fun u l wr=> ∃(k c:Nat) (i:List Nat),a.length≤k∧k≤xs.length∧l=yi k∧u= .int .u32 c∧Own wr w.heap.size 105 .u32 (.slice (some ⟨w.heap.size,0,none⟩) (xs.length+1) (xs.length+1)) i∧Qv xs a i k c∧yB w wr)
     (fun _ l _=>xs.length-(intOf l).toNat)
    case atStart=>exact⟨a.length,c,i,Nat.le_refl _,by omega,rfl,rfl,own,d,g⟩
    case round=>
     clear own d g M t;obtain⟨k,c,i,Y,X,rfl,rfl,own,d,g⟩:=hrel;have M:=d.1;have t:=d.2.2.1
     by_cases Z:k<xs.length
     ·obtain⟨b,a3,rfl,q⟩:=s (by omega)
      have F:=cell_later g (q k (by omega));have D:=own.c k (by omega);have B:=own.f k;have r:=R k;obtain⟨x,j⟩: ∃x,xs.getD k 0=x:=⟨_,rfl⟩;have E:=zq d (by omega) j (Dg.getD_of_le a k Y) (by omega) (by omega);rw[j] at F r;clear j q s z
      go_wp2_with fail
      refine(ur x 0 c _ r (by omega) t).mono ?_;rintro e w' ⟨rfl,rfl⟩
      go_wp2
      go_roundw
      case rel=>exact⟨k+1,_,_,by omega,by omega,by go_num,rfl,own.store k _,E,g.setCell (by exact Nat.le_refl _) _⟩
      case measure=>simp[intOf];omega
     ·have C:k=xs.length:=by omega
      subst C;have D:=own.c xs.length (by omega);have B:=own.f xs.length;have A:=Nc d (by omega);have G:=own.store xs.length c;have S:=g.setCell (p:=⟨w.heap.size,xs.length,none⟩) (by exact Nat.le_refl _) (.int .u32 c);have Q:=G.rd
      go_wp2_with fail
      refine(jD _ _ _ _ _ Q).mono ?_;rintro e w' ⟨m,rfl,hm,rfl⟩;have N:=jW 4294967296 (by omega) G A.2.1 hm;rw[A.2.2] at N;clear Q G A D B own
      go_wp2
      go_ret
      exact⟨_,rfl,N,S⟩
abbrev abc:=plus_le_mg.1
abbrev abd:=plus_le_mg.2
theorem rj (b c:Value)(xs a:List Nat)(w:World)(d:Rd w .u32 b xs)(e:Rd w .u32 c a)(f:Dg.Small 4294967296 xs)(g:Dg.Small 4294967296 a)(i:xs.length≤1000000)(j:a.length≤1000000):
  yC 44 #[b,c] w (Num w (Dg.vl 4294967296 xs+Dg.vl 4294967296 a)):=by
 by_cases h:a.length≤xs.length
 ·exact abc b c xs a w d e f g i h
 ·rw[Nat.add_comm]
  exact abd c b a xs w e d g f j (by omega)
theorem kF (r:Value)(xs:List Nat)(w:World)(t:Rd w .i64 r xs)(q:Dg.Small 65536 xs)(z:Dg.Norm xs)(H:xs.length≤3000000):
  yC 54 #[r] w fun e w'=>e= .returned (yi (bitLen (Dg.vl 65536 xs):Nat))∧w'=w:=by
 obtain⟨B,C,rfl,-,-,i⟩:=t
 by_cases c:xs.length=0
 ·obtain rfl:xs=[]:=List.eq_nil_of_length_eq_zero c
  go_enter func54,ntmps54
  go_wp2
  go_ret
  exact⟨rfl,rfl⟩
 ·have o:xs≠[]:=by intro e;subst e;simp at c
  obtain⟨b,K,rfl,j⟩:=i (by omega);have v:=j (xs.length-1) (by omega);have p:=q (xs.length-1);rw[IL 65536 16 (by decide) (by omega) xs q z o];obtain⟨x,h⟩: ∃x,xs.getD (xs.length-1) 0=x:=⟨_,rfl⟩;rw[h] at v p⊢;have F:=bF x 16 (by omega);have D:((xs.length:Int)==0)=false:=by simp;intro e;subst e;simp at c
  clear h j i o;obtain⟨T,f⟩: ∃T,16*(xs.length-1)+bitLen x=T:=⟨_,rfl⟩;rw[f];have g:Hid _:=f;clear f
  go_enter func54,ntmps54
  go_wp2
  go_loop [3,4] (fun A a=> ∃m d:Nat,A=yi m∧a=yi d∧d<65536∧m≤100000000∧Hid (m+bitLen d=T)) (fun _ a=>(intOf a).toNat)
  case atStart=>exact⟨16*(xs.length-1),x,by go_num,rfl,p,by omega,g⟩
  case round=>
   obtain⟨m,d,rfl,rfl,G,I,n⟩:=hrel
   by_cases k:d=0
   ·subst k
    have y:m=T:=by have:=n.out;rw[gP] at this;omega
    subst y
    go_wp2
    go_ret
    exact⟨rfl,rfl⟩
   ·have u:=vC d k
    have l:m+1+bitLen (d/2)=T:=by have:=n.out;omega
    have E:T≤60000000:=by have:=g.out;omega
    have s:Hid _:=l;have J:m<60000000:=by omega
    clear u l
    go_wp2
    go_round
    case rel=>exact⟨m+1,d/2,by go_num,by go_num,by omega,by omega,s⟩
    case measure=>simp[intOf];omega
theorem Own.apart3 {w:World}{base e b:Nat}{k:IntKind}{v:Value}{zs:List Nat}(h:Own w base e k v zs)(a:b<base)(c d f:Value):
  Own (((w.setCell ⟨b,0,none⟩ c).setCell ⟨b,1,none⟩ d).setCell ⟨b,2,none⟩ f) base e k v zs:=
 ((h.apart (bI w b 0 c) a).apart (bI _ b 1 d) a).apart (bI _ b 2 f) a
theorem aaI (v:Value)(n:Nat)(w:World)(h:Rd w .u32 v (Dg.dg 4294967296 n)):yC 48 #[v] w fun z w'=>z= .returned (.bool (decide (n % 2=1)))∧w'=w:=by
 have d:=Sb 4294967296 n (by omega);have e:=Dg.dg_nil_iff 4294967296 n (by omega);obtain⟨A,B,rfl⟩:=h.shape;obtain⟨k,x,g⟩:=iQ h;have q:n % 4294967296 % 2=n % 2:=by omega
 obtain⟨m,j⟩: ∃m,n % 4294967296=m:=⟨_,rfl⟩;rw[j] at d q;have y:m<4294967296:=by omega
 by_cases c:n=0
 ·have a:(Dg.dg 4294967296 n).length=0:=by rw[List.length_eq_zero_iff];exact e.2 c
  rw[a];have p:decide (n % 2=1)=false:=by rw[c];rfl
  rw[p];clear c d q j y e k x g h a p
  go_enter func48,ntmps48
  go_wp2
  go_ret
  exact⟨rfl,rfl⟩
 ·have a:0< (Dg.dg 4294967296 n).length:=by
   rcases Nat.eq_zero_or_pos (Dg.dg 4294967296 n).length with i|i
   ·exact absurd (e.1 (List.length_eq_zero_iff.1 i)) c
   ·exact i
  obtain⟨b,D,rfl,o⟩:=g a;have u:=o 0 a;rw[d,Nat.add_zero] at u;obtain⟨L,l⟩: ∃L,(Dg.dg 4294967296 n).length=L:=⟨_,rfl⟩;rw[l] at a k⊢;have C:(0:Int)< (L:Int):=by omega
  have s:(m:Int).tmod 2=((m % 2:Nat):Int):=by
   rw[Int.tmod_eq_emod_of_nonneg (by omega)];omega
  have t:(m:Int) % 2=((m % 2:Nat):Int):=by omega
  clear o g l d j e h
  by_cases r:n % 2=1
  ·have f:m % 2=1:=by omega
   rw[f] at s t
   go_enter func48,ntmps48
   go_wp2
   go_ret
   simp[r]
  ·have f:m % 2=0:=by omega
   rw[f] at s t
   go_enter func48,ntmps48
   go_wp2
   go_ret
   simp[r]
theorem GB {N:Nat}{n:Int}(h:(Dg.dg 65536 N).length≤100000)(a:n≤900000):(Dg.dg 65536 (eZ N n)).length≤160000:=by
 rw[fw];exact Nat.le_trans (Jh N n.toNat 100000 56251 h (by omega)) (by omega)
theorem GC {M:Nat}{n:Int}(h:(Dg.dg 65536 M).length≤100000)(a: -900000≤n):(Dg.dg 65536 (dX M n)).length≤160000:=by
 rw[eM];exact Nat.le_trans (Jh M (-n).toNat 100000 56251 h (by omega)) (by omega)
theorem ZQ (n a b:Nat)(w:World)(r:n=16*a+b)(C:b<16)(N:n≤1000000):
  yC 18 #[yi n] w fun e w'=> ∃v,e= .returned v∧Own w' w.heap.size 3 .i64 v (Dg.dg 65536 (2^n))∧yB w w':=by
 have i:=C6 a b C;rw[←r] at i;obtain⟨G,A,D,E,F⟩:=info_parts Tryz.infoI64;have O:(n:Int)/16=(a:Int):=by omega
 have P:(n:Int) % 16=(b:Int):=by omega
 have Q:a≤1000000:=by omega
 have t:Hid ((List.replicate (a+1) 0).set a (2^b)=Dg.dg 65536 (2^n)):=i;clear i r
 go_enter func18,ntmps18
 go_wp2_with (at_make;refine wpList_make_full _ rfl _ _ 26 rfl w.heap.size 3 G (yi 0) 1 underlying26 A D E _ _ _ _ (a+1) rfl rfl (by omega) (by omega) ?b2 ?b3 (Nat.le_refl _) ?_)
 case b2=>rw[F];omega
 case b3=>unfold maxLen;omega
 intro H s q;have m:=gL s;have x:yB w H:=(Below.refl _ _).grown q (Nat.le_refl _) (fun k h=>by cases h)
 clear s q
 go_wp2
 go_loop [4,5] (fun z l=> ∃k d:Nat,k≤b∧l=yi k∧z=yi d∧Hid (d=2^k)) (fun _ l=>b-(intOf l).toNat)
 case atStart=>exact⟨0,1,Nat.zero_le _,rfl,rfl,rfl⟩
 case round=>
  obtain⟨k,d,L,rfl,rfl,j⟩:=hrel;have J:d≤65536:=by
   rw[j.out];have:2^k≤2^15:=Nat.pow_le_pow_right (by omega) (by omega);omega
  by_cases M:k<b
  ·go_wp2
   go_round
   case rel=>exact⟨k+1,2*d,by omega,by go_num,by go_num,by rw[show d=2^k from j.out,Nat.pow_succ];exact Nat.mul_comm _ _⟩
   case measure=>simp[intOf];omega
  ·have B:k=b:=by omega
   subst B;have I:=m.c a (by simp);have K:=m.f a;have g:=m.store a d;have y:=x.setCell (p:=⟨w.heap.size,a,none⟩) (by exact Nat.le_refl _) (yi (d:Int));have o:=j.out;rw[show(List.replicate (a+1) 0).set a d=Dg.dg 65536 (2^n) from by rw[o];exact t.out] at g
   have u:Hid _:=g;have R:=g.rd;clear o g
   go_wp2
   go_ret
   exact⟨_,rfl,u.out,y⟩
theorem pQ (v:Value)(n:Nat)(w:World)(h:Rd w .i64 v (Dg.dg 65536 n))(a:(Dg.dg 65536 n).length≤3000000):yC 54 #[v] w (yR w (yi (bitLen n:Nat))):=by
 have:=kF v _ w h (Dg.small_dg _ _ (by omega)) (Dg.norm_dg _ _ (by omega)) a;rw[Dg.vl_dg _ _ (by omega)] at this;refine this.mono ?_;rintro z w' ⟨rfl,rfl⟩;exact⟨rfl,Below.refl _ _⟩
theorem ten_len {m K:Nat}(a:m≤10^ (2*K))(b:K≤6100):(Dg.dg 65536 m).length≤3060:=
 UI (k:=4*(2*K)) (Nat.le_trans a (ten_two4 _)) (by omega)
theorem over_down_mg:
  (∀(b d N T:Nat) (p:Int) (no g:Option Addr) (e f:Nat) (i j:Nat) (c G:Int) (B:Bool) (w:World) (_:w.rangeAt i 0 [yS no b e]) (_:w.rangeAt j 0 [yS g d f]) (_:Rd w .i64 (yS no b e) (Dg.dg 65536 b)) (_:Rd w .i64 (yS g d f) (Dg.dg 65536 d)) (_:decide (0<c)=B) (_: ¬0≤p) (_:IntKind.i64.wrap (-p)=G)
  (_: ∀a,yB w a→yC 95 #[yi G] a (cG a T))
  (_: ∀no e u t a,yB w a→Rd a .i64 (yS no b e) (Dg.dg 65536 b)→Rd a .i64 (yS u T t) (Dg.dg 65536 T)→yC 52 #[yS no b e,yS u T t] a (cG a N))
  (_: ∀g f x v a,yB w a→Rd a .i64 (yS g d f) (Dg.dg 65536 d)→Rd a .i64 (yS x N v) (Dg.dg 65536 N)→yC 23 #[yS g d f,yS x N v] a (yR a (yi c))),
  yC 94 #[yi p,.pointer (some ⟨j,0,none⟩),.pointer (some ⟨i,0,none⟩)] w (yR w (.bool B)))∧
  (∀(b d N T:Nat) (p:Int) (no g:Option Addr) (e f:Nat) (i j:Nat) (c:Int) (B:Bool) (w:World) (_:w.rangeAt i 0 [yS no b e]) (_:w.rangeAt j 0 [yS g d f]) (_:Rd w .i64 (yS no b e) (Dg.dg 65536 b)) (_:Rd w .i64 (yS g d f) (Dg.dg 65536 d)) (_:decide (0<c)=B) (_:0≤p)
  (_: ∀a,yB w a→yC 95 #[yi p] a (cG a T))
  (_: ∀g f u t a,yB w a→Rd a .i64 (yS g d f) (Dg.dg 65536 d)→Rd a .i64 (yS u T t) (Dg.dg 65536 T)→yC 52 #[yS g d f,yS u T t] a (cG a N))
  (_: ∀x v no e a,yB w a→Rd a .i64 (yS x N v) (Dg.dg 65536 N)→Rd a .i64 (yS no b e) (Dg.dg 65536 b)→yC 23 #[yS x N v,yS no b e] a (yR a (yi c))),
  yC 94 #[yi p,.pointer (some ⟨j,0,none⟩),.pointer (some ⟨i,0,none⟩)] w (yR w (.bool B))):=by
 refine⟨?_, ?_⟩;have _z:Mgk 0:=mgkI 0
 all_goals
  first| (rename Mgk 0=>_z;intro b d N T p no g e f i j c G B w Q P rn rd hB hp a6 y o n)| (intro b d N T p no g e f i j c B w Q P rn rd hB hp y o n)
  replace y:Hid _:=y;replace o:Hid _:=o;replace n:Hid _:=n
  go_enter func94,ntmps94
  have b0:=Below.refl w.heap.size w
  first| (rename Mgk 0=>_z;go_upto_region 3 with fail)| (go_upto_region 2 with fail)
  have q:yB w w.drew:=(Below.refl _ _).drew;have H:=aC P q;have I:=aC Q q;have r4:=rn.l q;have r5:=rd.l q;have E:=aa b0 q;clear P Q rn rd b0 q;refine wp_region_held_drew (S:=fun wq=>wq.rangeAt j 0 [yS g d f]∧wq.rangeAt i 0 [yS no b e]) (by kernel_rfl) ⟨H,I⟩ (fun m=> ?_)
  generalize w.drew=a5 at H I r4 r5 E m⊢;refine tq 0 (yS g d f) rfl (fun _ A=>gU 26 (.tmp 1) rfl j 0 (by kernel_rfl) _ _ underlying26 rfl (A.1 0 _ rfl)) m ?_
  first| (rename Mgk 0=>_z;refine tk 1 (yS no b e) rfl (by kernel_rfl) (fun _ _ _ h=>h) (fun _ A=>gU 26 (.tmp 2) rfl i 0 (by kernel_rfl) _ _ underlying26 rfl (A.2 0 _ rfl)) m ?_;(refine tk 2 (yi p) rfl (by kernel_rfl) (fun _ _ _ h=>h) (fun _ _=>by kernel_rfl) m ?_);(refine tk 3 (yi G) rfl (by kernel_rfl) (fun _ _ _ h=>h) (fun _ _=>by go_simp) m ?_);refine wpAnyH_ready (rs:=[4]) (by kernel_rfl) (by simp) ?_)| ((refine tk 1 (yi p) rfl (by kernel_rfl) (fun _ _ _ h=>h) (fun _ _=>by kernel_rfl) m ?_);refine tk 4 (yS no b e) rfl (by kernel_rfl) (fun _ _ _ h=>h) (fun _ A=>gU 26 (.tmp 2) rfl i 0 (by kernel_rfl) _ _ underlying26 rfl (A.2 0 _ rfl)) m ?_;refine wpAnyH_ready (rs:=[2]) (by kernel_rfl) (by simp) ?_)
  refine AllReadyH.cons rfl (fun K k=> ?_) AllReadyH.nil
  go_simp
  refine(y.out _ E).mono ?_;rintro zz w8 ⟨a7,rfl,J,s⟩;have R:=aC H s;have U:=aC I s;have Y:=r4.l s;have Z:=r5.l s;have C:=aa E s;obtain⟨u,t,O⟩:=J.shape;subst O;clear H I r4 r5 E s y;refine k.out _ _ ⟨R,U⟩ (fun a1=> ?_)
  clear k K
  first| (rename Mgk 0=>_z;refine wpAnyH_ready (rs:=[5]) (by kernel_rfl) (by simp) ?_)| (refine wpAnyH_ready (rs:=[3]) (by kernel_rfl) (by simp) ?_)
  refine AllReadyH.cons rfl (fun K k=> ?_) AllReadyH.nil
  go_simp
  first| (rename Mgk 0=>_z;refine(o.out _ _ _ _ _ C Y J).mono ?_)| (refine(o.out _ _ _ _ _ C Z J).mono ?_)
  rintro zz a9 ⟨a8,rfl,L,r⟩;have W:=aC R r;have X:=aC U r
  first| (rename Mgk 0=>_z;have M:=Z.l r)| (have M:=Y.l r)
  have D:=aa C r;obtain⟨x,v,O⟩:=L.shape;subst O;clear R U Y Z J C r o;refine k.out _ _ ⟨W,X⟩ (fun a2=> ?_)
  clear k K
  first| (rename Mgk 0=>_z;refine wpAnyH_ready (rs:=[6]) (by kernel_rfl) (by simp) ?_)| (refine wpAnyH_ready (rs:=[5]) (by kernel_rfl) (by simp) ?_)
  refine AllReadyH.cons rfl (fun K k=> ?_) AllReadyH.nil
  go_simp
  first| (rename Mgk 0=>_z;refine(n.out _ _ _ _ _ D M L).mono ?_)| (refine(n.out _ _ _ _ _ D L M).mono ?_)
  rintro zz ab ⟨rfl,F⟩;have a3:=aC W F;have a4:=aC X F;have a0:=aa D F;clear W X M L D F n;refine k.out _ _ ⟨a3,a4⟩ (fun z=> ?_)
  clear k K
  first| (rename Mgk 0=>_z;refine tk 7 (.bool B) rfl (by kernel_rfl) (fun _ _ _ h=>h) (fun _ _=>by go_simp) z ?_)| (refine tk 6 (.bool B) rfl (by kernel_rfl) (fun _ _ _ h=>h) (fun _ _=>by go_simp) z ?_)
  first| (rename Mgk 0=>_z;refine tk 8 (.bool B) rfl (by kernel_rfl) (fun _ _ _ h=>h) (fun _ _=>by kernel_rfl) z ?_)| (refine tk 7 (.bool B) rfl (by kernel_rfl) (fun _ _ _ h=>h) (fun _ _=>by kernel_rfl) z ?_)
  refine wpAnyH_done (by kernel_rfl) ?_ _;clear m a1 a2 z;simp only[Act.put,List.getElem_toArray,List.getElem_cons_succ,List.getElem_cons_zero,List.setIfInBounds_toArray,List.set_cons_zero,List.set_cons_succ]
  go_wp2
  go_ret
  exact⟨by rfl,a0⟩
abbrev over_down:=over_down_mg.1
abbrev over_up:=over_down_mg.2
theorem ik.store {w:World}{g:Nat}{zs:List Nat}(h:ik w g zs)(j x:Nat):ik (w.setCell ⟨g,j,none⟩ (.int .u8 x)) g (zs.set j x):=by
 refine⟨fun i a=> ?_,fun i a=> ?_,by simpa[World.setCell] using h.lt⟩
 ·rw[List.length_set] at a
  by_cases e:j=i
  ·subst e
   rw[World.cell?_setCell_same (h:=h.c j a)];simp[List.getD_eq_getElem?_getD,a]
  ·rw[World.cell?_setCell_other (h:=by intro k;cases k;exact e rfl),h.c i a]
   simp[List.getD_eq_getElem?_getD,e]
 ·rw[List.length_set] at a
  rw[O7];exact h.f i a
theorem Ev {w:World}{base e:Nat}{g n cap:Nat}{zs:List Nat}(h:Own w base e .u8 (.slice (some ⟨g,0,none⟩) n cap) zs):ik w g zs:=
 ⟨fun i a=>h.c i a,fun i _=>h.f i,h.block.2⟩
theorem Cr (g cap:Nat)(zs:List Nat)(f c:Nat)(w:World)(B:ik w g zs)(C:Dg.Small 256 zs)(D:c≤64)(F:f+c≤8*zs.length)(J:zs.length≤1000):
  yC 150 #[.slice (some ⟨g,0,none⟩) zs.length cap,yi f,yi c] w fun e w'=>e= .returned (.int .u64 (eH zs f c:Nat))∧w'=w:=by
 go_enter func150,ntmps150
 go_wp2
 go_loop [7,8] (fun o l=> ∃j i x:Nat,Hid (i=f+j)∧j≤c∧l=yi (i:Int)∧o= .int .u64 (x:Int)∧Hid (x=eH zs f j)) (fun o l=>((f:Int)+c-intOf l).toNat)
 case atStart=>exact⟨0,f,0,rfl,by omega,rfl,rfl,rfl⟩
 case round=>
  obtain⟨j,i,x,t,H,rfl,rfl,k⟩:=hrel;have a:=t.out
  by_cases I:j<c
  ·obtain⟨q,d⟩: ∃q,i/8=q:=⟨_,rfl⟩
   obtain⟨r,h⟩: ∃r,i % 8=r:=⟨_,rfl⟩;have L:(i:Int)/8=(q:Int):=by omega
   have O:(i:Int) % 8=(r:Int):=by omega
   have z:=B.c q (by omega);have n:=C q;obtain⟨y,b⟩: ∃y,zs.getD q 0=y:=⟨_,rfl⟩;rw[b] at z n;have M:q<zs.length:=by omega
   have N:r<8:=by omega
   have p:Hid (_∧_∧_∧_):=⟨a,d,h,b⟩;have G:(i:Int)< (f:Int)+(c:Int):=by omega
   have A:(i:Int)≤8000:=by omega
   clear a d h b
   go_wp2
   obtain⟨a,d,h,b⟩:=p.out;have P:=gh zs f j;have K:(2:Nat)^j≤2^63:=Nat.pow_le_pow_right (by omega) (by omega);refine⟨⟨j+1,i+1,2*x+y/2^ (7-r) % 2, ?_,by omega,rfl, ?_, ?_⟩, ?_⟩
   ·show i+1=f+(j+1)
    omega
   ·rw[XO x y r (by have:=k.out;omega) n]
   ·show 2*x+y/2^ (7-r) % 2=eH zs f (j+1)
    have:=k.out;rw[eH,←this,fU,←a,d,h,b]
   ·simp only[intOf]
    omega
  ·have E: ¬((i:Int)< (f:Int)+(c:Int)):=by omega
   have m:j=c:=by omega
   have s:Hid (_∧_):=⟨k.out,m⟩;have A:(i:Int)≤8000:=by omega
   clear a m
   go_wp2
   go_ret
   obtain⟨u,v⟩:=s.out;subst u v;exact⟨rfl,rfl⟩
theorem AY (g cap:Nat)(zs:List Nat)(f c x:Nat)(w:World)(E:ik w g zs)(F:Dg.Small 256 zs)(G:x<18446744073709551616)(K:f+c≤8*zs.length)(Q:zs.length≤1000):
  yC 128 #[.slice (some ⟨g,0,none⟩) zs.length cap,yi f,yi c,.int .u64 x] w fun e w'=>e= .returned (.tuple #[])∧ik w' g (iS f c x zs)∧w.grownBy w' (some g):=by
 go_enter func128,ntmps128
 go_wp2
 go_loopw [3,8] (fun I p wr=> ∃(j y:Nat) (a:List Nat),j≤c∧p=yi ((f:Int)+j-1)∧I= .int .u64 y∧y<18446744073709551616∧ik wr g a∧Dg.Small 256 a∧Hid (a.length=zs.length)∧Hid (iS f j y a=iS f c x zs)∧w.grownBy wr (some g))
  (fun _ p _=>(intOf p+1).toNat)
 case atStart=>exact⟨c,x,zs,Nat.le_refl _,by go_num,rfl,G,E,F,rfl,rfl,ib _ _⟩
 case round=>
  obtain⟨j,y,a,O,rfl,rfl,H,own,v,s,t,gr⟩:=hrel;have u:=s.out
  by_cases P:0<j
  ·obtain⟨h,rfl⟩: ∃h,j=h+1:=⟨j-1,by omega⟩
   obtain⟨i,k⟩: ∃i,f+h=i:=⟨_,rfl⟩;have hiI:(f:Int)+((h+1:Nat):Int)-1=(i:Int):=by omega
   rw[hiI];obtain⟨q,l⟩: ∃q,i/8=q:=⟨_,rfl⟩;obtain⟨r,m⟩: ∃r,i % 8=r:=⟨_,rfl⟩;have R:(i:Int)/8=(q:Int):=by omega
   have U:(i:Int) % 8=(r:Int):=by omega
   have D:=own.c q (by omega);have L:=own.f q (by omega);have o:=v q;obtain⟨b,d⟩: ∃b,a.getD q 0=b:=⟨_,rfl⟩;rw[d] at D o;have S:q<zs.length:=by omega
   have T:r<8:=by omega
   have z:Hid (_∧_∧_∧_):=⟨k,l,m,d⟩;have N:(f:Int)≤(i:Int):=by omega
   have M:(i:Int)≤8000:=by omega
   clear k l m d u hiI
   go_wp2
   go_region
   all_goals go_wp2
   all_goals go_roundw
   case rel=>
    obtain⟨k,l,m,d⟩:=z.out;have C:b|||y % 2*2^ (7-r)<256:=Nat.or_lt_two_pow (n:=8) o (Cf y r)
    refine⟨h,y/2,a.set q (b|||y % 2*2^ (7-r)),by omega,by congr 1;omega,rfl,by omega, ?_,Io v _ _ C, ?_, ?_,eF gr (eF (bI _ _ _ _) (vm _ _))⟩
    ·rw[aaR b y r o H]
     exact(own.store q _).drew
    ·show _=_
     rw[List.length_set];exact s.out
    ·show _=_
     have:=t.out;rw[iS,k,l,m,d] at this;exact this
   case measure=>simp only[intOf];omega
  ·have J: ¬((f:Int)≤(f:Int)+(j:Int)-1):=by omega
   have A:Hid (j=0):=(by omega:j=0);clear u
   go_wp2
   go_end0
   have B:=A.out;subst B;have:=t.out;rw[iS] at this;rw[←this];exact⟨rfl,own,gr⟩
theorem mj (f:Nat): ∀(c x:Nat) (zs:List Nat),Dg.Small 256 zs→Dg.Small 256 (iS f c x zs)
 |0,_,_,h=>h
 |c+1,x,zs,h=>by
  rw[iS];exact mj f c _ _ (Io h _ _ (Nat.or_lt_two_pow (n:=8) (h _) (Cf _ _)))
theorem KH (x:Nat)(q:x<18446744073709551616)(w:World):
  yC 115 #[.int .u64 x] w fun z w'=> ∃v,z= .returned v∧Own w' w.heap.size 105 .u32 v (Dg.dg 4294967296 x)∧yB w w':=by
 have o:(x:Int) % 4294967296=((x % 4294967296:Nat):Int):=by omega
 have m:(x:Int)/4294967296=((x/4294967296:Nat):Int):=by omega
 have j:x/4294967296<4294967296:=by omega
 have h:x % 4294967296<4294967296:=Nat.mod_lt _ (by omega);have c:=Nq x;obtain⟨b,g⟩: ∃n,x % 4294967296=n:=⟨_,rfl⟩;obtain⟨a,f⟩: ∃n,x/4294967296=n:=⟨_,rfl⟩;rw[g] at o c h;rw[f] at m c j;have own:Own (w.alloc (.cells #[.int .u32 (b:Int),.int .u32 (a:Int)] 105)) w.heap.size 105 .u32 (.slice (some ⟨w.heap.size,0,none⟩) 2 2) [b,a]:=
  pr (zs:=[b,a]) (heap_alloc_new _ _) (Nat.le_refl _) (by unfold maxLen;simp)
 have p:=jD (some ⟨w.heap.size,0,none⟩) 2 2 [b,a] _ own.rd;have d:Dg.Small 4294967296 [b,a]:=by
  intro i
  match i with
  |0=>exact h
  |1=>exact j
  |i+2=>simp
 have l:=af w (.cells #[.int .u32 (b:Int),.int .u32 (a:Int)] 105);have k:Hid (_∧_):=⟨c,d⟩;have r:(x:Int)<18446744073709551616:=by omega
 clear g f c d
 go_enter func115,ntmps115
 go_wp2_with fail
 refine p.mono ?_;rintro z s ⟨n,rfl,e,rfl⟩
 go_wp2
 go_ret
 obtain⟨c,d⟩:=k.out;refine⟨_,rfl, ?_,l⟩;have:=Dg.trim_eq 4294967296 (by omega) [b,a] n d e.1 e.2.1 e.2.2;rw[c] at this;rw[←this];exact own.take n e.1
theorem tratio_up_mg:
  (∀(ng:Bool) (u:ByteArray) (p s mt b:Int) (N F M d:Nat) (w:World) (_:0< (Dg.dg 4294967296 N).length) (_:IntKind.i64.wrap (-s)=mt) (_:IntKind.i64.wrap (p+s)=b) (_:0<p)
  (_: ∀a,yC 143 #[.string u] a (NmR a N))
  (_: ∀a,yC 79 #[yi p] a (NmR a F))
  (_: ∀Y X n m a,Rd a .u32 (yT Y N X) (Dg.dg 4294967296 N)→Rd a .u32 (yT n F m) (Dg.dg 4294967296 F)→yC 78 #[yT Y N X,yT n F m] a (NmR a M))
  (_: ∀k j a,yB w a→Rd a .u32 (yT k M j) (Dg.dg 4294967296 M)→yC 145 #[yT k M j] a (yR a (yi s)))
  (_: ∀k j a,Rd a .u32 (yT k M j) (Dg.dg 4294967296 M)→yC 43 #[yT k M j,yi mt] a (NmR a d)),
  yC 107 #[.agg #[.bool ng,.string u,yi p]] w (RtR w ng d 1 b))∧
  (∀(ng:Bool) (u:ByteArray) (p np s mt b:Int) (N F M d:Nat) (w:World) (_:0< (Dg.dg 4294967296 N).length) (_:IntKind.i64.wrap (-s)=mt) (_:IntKind.i64.wrap (p+s)=b) (_: ¬0<p) (_:IntKind.i64.wrap (-p)=np)
  (_: ∀a,yC 143 #[.string u] a (NmR a N))
  (_: ∀Y X a,Rd a .u32 (yT Y N X) (Dg.dg 4294967296 N)→yC 144 #[yT Y N X,yi np] a (TwR a M F))
  (_: ∀k j a,yB w a→Rd a .u32 (yT k M j) (Dg.dg 4294967296 M)→yC 145 #[yT k M j] a (yR a (yi s)))
  (_: ∀k j a,Rd a .u32 (yT k M j) (Dg.dg 4294967296 M)→yC 43 #[yT k M j,yi mt] a (NmR a d)),
  yC 107 #[.agg #[.bool ng,.string u,yi p]] w (RtR w ng d F b)):=by
 refine⟨?_, ?_⟩;have _z:Mgk 0:=mgkI 0
 all_goals
  first| (rename Mgk 0=>_z;intro ng u p s mt b N F M d w h0 ck cj hp Z HF HT C B)| (intro ng u p np s mt b N F M d w h0 ck cj hp d0 Z HR C B)
  replace Z:Hid _:=Z
  first| (rename Mgk 0=>_z;replace HF:Hid _:=HF;replace HT:Hid _:=HT)| (replace HR:Hid _:=HR)
  replace C:Hid _:=C;replace B:Hid _:=B;obtain⟨W4,a8,q1,q2,b3⟩:=iG w [.bool ng,.string u,yi p] 170 (yrL false yN yN 0) 128;replace a8:Hid _:=a8
  go_enter func107,ntmps107
  go_upto_region 1 with fail
  rw[a8.out];clear a8;have c6:=q1.c 1 rfl
  go_wp2_with fail
  refine(Z.out _).mono ?_;rintro Q t ⟨d4,rfl,al,a7⟩;have a9:=q1.l a7;have ab:=q2.l a7;have aw:=aa b3 a7;obtain⟨Y,X,q⟩:=al.shape;subst q;clear q1 q2 b3 a7 Z c6;have cy:=a9.lt;have cz:=ab.lt;have R:=af t (.cells #[.int .u32 1] 105);have b1:=ah t [.int .u32 1] 105;have a1:=a9.l R;have ac:=ab.l R;have a4:=al.l R;have a6:=aa aw R;have bl:=a1.c 2 rfl
  go_wp2_with fail
  first| (rename Mgk 0=>_z;refine(HF.out _).mono ?_;rintro Q cs ⟨cr,rfl,an,o⟩;have bo:=a1.l o;have bp:=ac.l o;have a2:=b1.l o;have b6:=a4.l o;have be:=aa a6 o;obtain⟨n,m,q⟩:=an.shape)| (refine(HR.out _ _ _ a4).mono ?_;rintro Q cs ⟨cr,d5,rfl,ao,b5,o⟩;have a2:=a1.l o;have bq:=ac.l o;have c5:=a4.l o;have ax:=aa a6 o;obtain⟨k,j,q⟩:=ao.shape)
  subst q
  first| (rename Mgk 0=>_z;clear a1 ac b1 a4 a6 o HF bl a9 ab al aw R)| (obtain⟨n,m,q⟩:=b5.shape;subst q;clear a1 ac b1 a4 a6 o HR bl a9 ab al aw R)
  go_wp2_with fail
  first| (rename Mgk 0=>_z;refine(HT.out _ _ _ _ _ b6 an).mono ?_;rintro Q d6 ⟨d1,rfl,ap,E⟩;have a3:=bo.l E;have bt:=bp.l E;have bv:=a2.l E;have a5:=b6.l E;have c9:=an.l E;have ay:=aa be E;obtain⟨k,j,q⟩:=ap.shape;subst q;clear bo bp a2 b6 an be E HT;go_wp2_with fail;refine(C.out _ _ _ ay ap).mono ?_;rintro Q bd ⟨rfl,y⟩;have bw:=a3.l y;have bx:=bt.l y;have bz:=bv.l y;have ca:=a5.l y;have cb:=c9.l y;have cc:=ap.l y;have bg:=aa ay y;clear a3 bt bv a5 c9 ap ay y C)| (refine(C.out _ _ _ ax ao).mono ?_;rintro Q bc ⟨rfl,G⟩;have bs:=a2.l G;have a3:=bq.l G;have c7:=c5.l G;have c8:=ao.l G;have a5:=b5.l G;have bf:=aa ax G;clear a2 bq c5 ao b5 ax G C)
  go_upto_region 8 with fail
  first| (rename Mgk 0=>_z;have x:yB bd bd.drew:=(Below.refl _ _).drew;have ae:=bw.l x;have J:=bx.l x;have r:=bz.l x;have L:=ca.l x;have O:=cb.l x;have A:=cc.l x;have T:=aa bg x;clear bw bx bz ca cb cc bg x;refine wp_region_held_drew (S:=fun wq=>au wq w.heap.size 170 [.bool ng,.string u,yi p]) (by kernel_rfl) ae (fun i=> ?_);generalize bd.drew=cx at ae J r L O A T i⊢)| (have D:yB bc bc.drew:=(Below.refl _ _).drew;have ad:=bs.l D;have b2:=a3.l D;have b7:=c7.l D;have av:=c8.l D;have b8:=a5.l D;have az:=aa bf D;clear bs a3 c7 c8 a5 bf D;refine wp_region_held_drew (S:=fun wq=>au wq w.heap.size 170 [.bool ng,.string u,yi p]) (by kernel_rfl) ad (fun i=> ?_);generalize bc.drew=cw at ad b2 b7 av b8 az i⊢)
  refine tq 0 (.pointer (some ⟨w.heap.size,0,none⟩)) rfl (fun _ _=>by kernel_rfl) i ?_
  refine tq 1 (.bool ng) rfl (fun _ b0=>gU 4 (.tmp 35) rfl w.heap.size 0 (by kernel_rfl) _ _ underlying4 rfl (b0.c 0 rfl)) i ?_
  refine tq 2 (yT k M j) rfl (fun _ _=>by kernel_rfl) i ?_
  refine tq 3 (yi s) rfl (fun _ _=>by kernel_rfl) i ?_
  refine tq 4 (yi mt) rfl (fun _ _=>by go_simp) i ?_
  first| (rename Mgk 0=>_z;refine tk 6 (.slice (some ⟨t.heap.size,0,none⟩) 1 1) rfl (by kernel_rfl) (fun _ _ _ h=>h) (fun _ _=>by kernel_rfl) i ?_)| (refine tk 6 (yT n F m) rfl (by kernel_rfl) (fun _ _ _ h=>h) (fun _ _=>by kernel_rfl) i ?_)
  refine tq 7 (.pointer (some ⟨w.heap.size,2,none⟩)) rfl (fun _ _=>by kernel_rfl) i ?_
  refine tq 8 (yi p) rfl (fun _ b0=>gU 3 (.tmp 42) rfl w.heap.size 2 (by kernel_rfl) _ _ underlying3 rfl (b0.c 2 rfl)) i ?_
  refine tq 9 (yi s) rfl (fun _ _=>by kernel_rfl) i ?_
  refine tq 10 (yi b) rfl (fun _ _=>by go_simp) i ?_
  refine wpAnyH_ready (rs:=[5]) (by kernel_rfl) (by simp) ?_;refine AllReadyH.cons rfl (fun K I=> ?_) AllReadyH.nil
  go_simp
  first| (rename Mgk 0=>_z;refine(B.out _ _ _ A).mono ?_;rintro Q W ⟨d3,rfl,ar,z⟩;have b4:=ae.l z;have v:=J.l z;have c1:=r.l z;have b9:=L.l z;have ba:=O.l z;have bb:=A.l z;have bi:=aa T z;obtain⟨f,e,q⟩:=ar.shape)| (refine(B.out _ _ _ av).mono ?_;rintro Q U ⟨d2,rfl,aq,H⟩;have J:=ad.l H;have r:=b2.l H;have L:=b7.l H;have O:=av.l H;have A:=b8.l H;have T:=aa az H;obtain⟨f,e,q⟩:=aq.shape)
  subst q
  first| (rename Mgk 0=>_z;clear ae J r L O A T z B)| (clear ad b2 b7 av b8 az H B)
  first| (rename Mgk 0=>_z;refine I.out _ _ b4 (fun bn=> ?_))| (refine I.out _ _ J (fun bm=> ?_))
  clear I K
  first| (rename Mgk 0=>_z;refine tk 11 (yrV ng (yT f d e) (.slice (some ⟨t.heap.size,0,none⟩) 1 1) b) rfl (by kernel_rfl) (fun _ _ _ h=>h) (fun _ _=>by kernel_rfl) bn ?_)| (refine tk 11 (yrV ng (yT f d e) (yT n F m) b) rfl (by kernel_rfl) (fun _ _ _ h=>h) (fun _ _=>by kernel_rfl) bm ?_)
  refine wpAnyH_ready (rs:=[12]) (by kernel_rfl) (by simp) ?_;refine AllReadyH.cons rfl (fun K I=> ?_) AllReadyH.nil
  first| (rename Mgk 0=>_z;have g:But (w.heap.size+1) W (W.setCells (w.heap.size+1) 0 (yrL ng (yT f d e) (.slice (some ⟨t.heap.size,0,none⟩) 1 1) b)):=de _ _ _ _;have a0:W.there (w.heap.size+1) 0 4:=dD v;have c2:au (W.setCells (w.heap.size+1) 0 (yrL ng (yT f d e) (.slice (some ⟨t.heap.size,0,none⟩) 1 1) b)) (w.heap.size+1) 128 (yrL ng (yT f d e) (.slice (some ⟨t.heap.size,0,none⟩) 1 1) b):=v.sets _ rfl;have cn:=g.rd b9 (aX b9 v (by simp));have co:=g.rd ba (aX ba v (by simp));have cp:=g.rd bb (aX bb v (by simp));have cg:=g.rd ar (aX ar v (by simp));have c3:=g.loc b4 (by omega);have c4:=g.loc c1 (by omega);have bj:=g.below bi (by omega))| (have g:But (w.heap.size+1) U (U.setCells (w.heap.size+1) 0 (yrL ng (yT f d e) (yT n F m) b)):=de _ _ _ _;have a0:U.there (w.heap.size+1) 0 4:=dD r;have c0:au (U.setCells (w.heap.size+1) 0 (yrL ng (yT f d e) (yT n F m) b)) (w.heap.size+1) 128 (yrL ng (yT f d e) (yT n F m) b):=r.sets _ rfl;have cl:=g.rd L (aX L r (by simp));have cm:=g.rd O (aX O r (by simp));have cd:=g.rd A (aX A r (by simp));have ce:=g.rd aq (aX aq r (by simp));have v:=g.loc J (by omega);have bh:=g.below T (by omega))
  rw[if_pos (by kernel_rfl)]
  first| (rename Mgk 0=>_z;refine wp_store_mid 128 (.tmp 2) (.tmp 46) rfl (w.heap.size+1) 0 (yrA ng (yT f d e) (.slice (some ⟨t.heap.size,0,none⟩) 1 1) b) (by kernel_rfl) (by kernel_rfl) a0 (by kernel_rfl) (by simp[Value.oneCell']) ?_)| (refine wp_store_mid 128 (.tmp 2) (.tmp 46) rfl (w.heap.size+1) 0 (yrA ng (yT f d e) (yT n F m) b) (by kernel_rfl) (by kernel_rfl) a0 (by kernel_rfl) (by simp[Value.oneCell']) ?_)
  first| (rename Mgk 0=>_z;refine I.out _ _ c3 (fun ci=> ?_))| (refine I.out _ _ v (fun ch=> ?_))
  clear I K
  first| (rename Mgk 0=>_z;clear v b9 ba bb ar b4 c1 bi g a0)| (clear r L O A aq J T g a0)
  refine wpAnyH_done (by kernel_rfl) ?_ _
  first| (rename Mgk 0=>_z;clear i bn ci)| (clear i bm ch)
  first| (rename Mgk 0=>_z;change Exit.then _ _ _ _ (World.setCells W (w.heap.size+1) 0 (yrL ng (yT f d e) (.slice (some ⟨t.heap.size,0,none⟩) 1 1) b)))| (change Exit.then _ _ _ _ (World.setCells U (w.heap.size+1) 0 (yrL ng (yT f d e) (yT n F m) b)))
  first| (rename Mgk 0=>_z;generalize World.setCells W (w.heap.size+1) 0 (yrL ng (yT f d e) (.slice (some ⟨t.heap.size,0,none⟩) 1 1) b)=cv at c3 c2 c4 cn co cp cg bj⊢)| (generalize World.setCells U (w.heap.size+1) 0 (yrL ng (yT f d e) (yT n F m) b)=ct at v c0 cl cm cd ce bh⊢)
  simp only[Act.put,List.getElem_toArray,List.getElem_cons_succ,List.getElem_cons_zero]
  first| (rename Mgk 0=>_z;have hl:=run_loadVar_mid (P:=Tryz.prog) _ (w.heap.size+1) 0 128 (yrL ng (yT f d e) (.slice (some ⟨t.heap.size,0,none⟩) 1 1) b) _ c2.range underlying128 rfl (by kernel_rfl))| (have hl:=run_loadVar_mid (P:=Tryz.prog) _ (w.heap.size+1) 0 128 (yrL ng (yT f d e) (yT n F m) b) _ c0.range underlying128 rfl (by kernel_rfl))
  go_wp2
  first| (rename Mgk 0=>_z;exact bodyPost_ret (br results107 rfl hl) rfl ⟨_,_,rfl,cg,rd_one1 (c4.c 0 rfl),bj⟩)| (exact bodyPost_ret (br results107 rfl hl) rfl ⟨_,_,rfl,ce,cd,bh⟩)
theorem tscaled_ud_mg:
  (∀(xg:Bool) (xn:Nat) (d:Option Addr) (b:Nat) (e n f mt:Int) (F M p qt h:Nat) (w:World) (_:Rd w .u32 (yT d xn b) (Dg.dg 4294967296 xn)) (_:IntKind.i64.wrap (e+n)=f) (_:0<n) (_: ¬0<f) (_:IntKind.i64.wrap (-f)=mt)
  (_: ∀a,yC 79 #[yi n] a (NmR a F))
  (_: ∀d b o m a,Rd a .u32 (yT d xn b) (Dg.dg 4294967296 xn)→Rd a .u32 (yT o F m) (Dg.dg 4294967296 F)→yC 78 #[yT d xn b,yT o F m] a (NmR a M))
  (_: ∀q a,au a q 105 [.int .u32 1]→yC 43 #[.slice (some ⟨q,0,none⟩) 1 1,yi mt] a (NmR a p))
  (_: ∀H E go D a,Rd a .u32 (yT H M E) (Dg.dg 4294967296 M)→Rd a .u32 (yT go p D) (Dg.dg 4294967296 p)→yC 46 #[yT H M E,yT go p D] a (TwR a qt h)),
  yC 41 #[ydV xg (yT d xn b) e,yi n] w (NbR w qt (decide (0< (Dg.dg 4294967296 h).length))))∧
  (∀(xg:Bool) (xn:Nat) (d:Option Addr) (b:Nat) (e n f:Int) (F M r qt h:Nat) (w:World) (_:Rd w .u32 (yT d xn b) (Dg.dg 4294967296 xn)) (_:IntKind.i64.wrap (e+n)=f) (_:0<n) (_:0<f)
  (_: ∀a,yC 79 #[yi n] a (NmR a F))
  (_: ∀d b o m a,Rd a .u32 (yT d xn b) (Dg.dg 4294967296 xn)→Rd a .u32 (yT o F m) (Dg.dg 4294967296 F)→yC 78 #[yT d xn b,yT o F m] a (NmR a M))
  (_: ∀H E a,Rd a .u32 (yT H M E) (Dg.dg 4294967296 M)→yC 43 #[yT H M E,yi f] a (NmR a r))
  (_: ∀no I q a,Rd a .u32 (yT no r I) (Dg.dg 4294967296 r)→au a q 105 [.int .u32 1]→yC 46 #[yT no r I,.slice (some ⟨q,0,none⟩) 1 1] a (TwR a qt h)),
  yC 41 #[ydV xg (yT d xn b) e,yi n] w (NbR w qt (decide (0< (Dg.dg 4294967296 h).length))))∧
  (∀(xg:Bool) (xn:Nat) (d:Option Addr) (b:Nat) (e n f G mt:Int) (F p qt h:Nat) (w:World) (_:Rd w .u32 (yT d xn b) (Dg.dg 4294967296 xn)) (_:IntKind.i64.wrap (e+n)=f) (_: ¬0<n) (_: ¬0<f) (_:IntKind.i64.wrap (-n)=G) (_:IntKind.i64.wrap (-f)=mt)
  (_: ∀a,yC 79 #[yi G] a (NmR a F))
  (_: ∀o m a,Rd a .u32 (yT o F m) (Dg.dg 4294967296 F)→yC 43 #[yT o F m,yi mt] a (NmR a p))
  (_: ∀d b go D a,Rd a .u32 (yT d xn b) (Dg.dg 4294967296 xn)→Rd a .u32 (yT go p D) (Dg.dg 4294967296 p)→yC 46 #[yT d xn b,yT go p D] a (TwR a qt h)),
  yC 41 #[ydV xg (yT d xn b) e,yi n] w (NbR w qt (decide (0< (Dg.dg 4294967296 h).length))))∧
  (∀(xg:Bool) (xn:Nat) (d:Option Addr) (b:Nat) (e n f G:Int) (F r qt h:Nat) (w:World) (_:Rd w .u32 (yT d xn b) (Dg.dg 4294967296 xn)) (_:IntKind.i64.wrap (e+n)=f) (_: ¬0<n) (_:0<f) (_:IntKind.i64.wrap (-n)=G)
  (_: ∀a,yC 79 #[yi G] a (NmR a F))
  (_: ∀d b a,Rd a .u32 (yT d xn b) (Dg.dg 4294967296 xn)→yC 43 #[yT d xn b,yi f] a (NmR a r))
  (_: ∀no I o m a,Rd a .u32 (yT no r I) (Dg.dg 4294967296 r)→Rd a .u32 (yT o F m) (Dg.dg 4294967296 F)→yC 46 #[yT no r I,yT o F m] a (TwR a qt h)),
  yC 41 #[ydV xg (yT d xn b) e,yi n] w (NbR w qt (decide (0< (Dg.dg 4294967296 h).length)))):=by
 refine⟨?_, ?_, ?_, ?_⟩;have _z:Mgk 0:=mgkI 0
 rotate_left
 have _z:Mgk 1:=mgkI 1
 rotate_left
 have _z:Mgk 2:=mgkI 2
 rotate_left
 rotate_left
 all_goals
  first| (rename Mgk 0=>_z;intro xg xn d b e n f mt F M p qt h w rx ab hn ht aw z u j i)| (rename Mgk 1=>_z;intro xg xn d b e n f F M r qt h w rx ab hn ht z u j i)| (rename Mgk 2=>_z;intro xg xn d b e n f G mt F p qt h w rx ab hn ht av aw z j i)| (intro xg xn d b e n f G F r qt h w rx ab hn ht av z j i)
  replace z:Hid _:=z
  first| (rename Mgk 0=>_z;replace u:Hid _:=u)| (rename Mgk 1=>_z;replace u:Hid _:=u)| (rename Mgk 2=>_z)|skip
  replace j:Hid _:=j;replace i:Hid _:=i;obtain⟨W3,a8,q1,b2⟩:=cA w (ydL xg (yT d xn b) e) 41;replace a8:Hid _:=a8;have r5:=rx.l b2;clear rx
  go_enter func41,ntmps41
  go_upto_region 1 with fail
  rw[a8.out];clear a8
  go_upto_region 1 with fail
  have a6:yB W3 W3.drew:=(Below.refl _ _).drew;have q7:=q1.l a6;have r8:=r5.l a6;have b9:=aa b2 a6;clear q1 r5 b2 a6;refine wp_region_held_drew (S:=fun wq=>au wq w.heap.size 41 (ydL xg (yT d xn b) e)) (by kernel_rfl) q7 (fun x=> ?_)
  generalize W3.drew=P at q7 r8 b9 x⊢;refine tq 0 (.pointer (some ⟨w.heap.size,1,none⟩)) rfl (fun _ _=>by kernel_rfl) x ?_
  refine tq 1 (yT d xn b) rfl (fun _ ac=>gU 37 (.tmp 11) rfl w.heap.size 1 (by kernel_rfl) _ _ underlying37 rfl (ac.c 1 rfl)) x ?_
  refine tq 3 (.pointer (some ⟨w.heap.size,2,none⟩)) rfl (fun _ _=>by kernel_rfl) x ?_
  refine tq 4 (yi e) rfl (fun _ ac=>gU 3 (.tmp 14) rfl w.heap.size 2 (by kernel_rfl) _ _ underlying3 rfl (ac.c 2 rfl)) x ?_
  refine tq 5 (yi n) rfl (fun _ _=>by kernel_rfl) x ?_
  refine tq 6 (yi f) rfl (fun _ _=>by go_simp) x ?_
  refine tq 7 (yT d xn b) rfl (fun _ _=>by kernel_rfl) x ?_
  refine wpAnyH_ready (rs:=[2]) (by kernel_rfl) (by simp) ?_;refine AllReadyH.cons rfl (fun K hK=> ?_) AllReadyH.nil
  go_simp
  have a5:=af P (.cells #[.int .u32 1] 105);have Y:=ah P [.int .u32 1] 105;have aq:w.heap.size≤P.heap.size:=b9.size;have ar:=q7.lt;have ad:=q7.l a5;have O:=r8.l a5;have N:=aa b9 a5;refine hK.out _ _ ad (fun a7=> ?_)
  clear hK K;clear q7 r8 b9 a5;generalize P.alloc (.cells #[.int .u32 1] 105)=bb at ad Y O N a7⊢;generalize P.heap.size=ap at Y aq ar⊢;refine tq 8 (.slice (some ⟨ap,0,none⟩) 1 1) rfl (fun _ _=>by kernel_rfl) a7 ?_
  refine tq 9 (yi f) rfl (fun _ _=>by kernel_rfl) a7 ?_
  refine wpAnyH_done (by kernel_rfl) ?_ _;clear x a7;simp only[Act.put,List.getElem_toArray,List.getElem_cons_succ,List.getElem_cons_zero,List.setIfInBounds_toArray,List.set_cons_zero,List.set_cons_succ]
  go_wp2_with fail
  refine(z.out _).mono ?_;rintro t bd ⟨bc,rfl,y,s⟩
  first| (rename Mgk 0=>_z;have Z:=Y.l s;have a3:=O.l s;have R:=aa N s)| (rename Mgk 1=>_z;have Z:=Y.l s;have a3:=O.l s;have R:=aa N s)| (rename Mgk 2=>_z;have a2:=O.l s;have Q:=aa N s)| (have a2:=O.l s;have Q:=aa N s)
  obtain⟨o,m,g⟩:=y.shape;subst g;clear ad Y O N s z
  go_wp2_with fail
  first| (rename Mgk 0=>_z;refine(u.out _ _ _ _ _ a3 y).mono ?_)| (rename Mgk 1=>_z;refine(u.out _ _ _ _ _ a3 y).mono ?_)| (rename Mgk 2=>_z;refine(j.out _ _ _ y).mono ?_)| (refine(j.out _ _ _ a2).mono ?_)
  first| (rename Mgk 0=>_z;rintro t b6 ⟨ay,rfl,L,B⟩)| (rename Mgk 1=>_z;rintro t b6 ⟨ay,rfl,L,B⟩)| (rename Mgk 2=>_z;rintro t b5 ⟨ax,rfl,J,A⟩)| (rintro t b5 ⟨ax,rfl,J,A⟩)
  first| (rename Mgk 0=>_z;have a0:=Z.l B)| (rename Mgk 1=>_z;have a0:=Z.l B)| (rename Mgk 2=>_z;have a4:=a2.l A)| (have a4:=y.l A)
  first| (rename Mgk 0=>_z;have U:=aa R B)| (rename Mgk 1=>_z;have U:=aa R B)| (rename Mgk 2=>_z;have T:=aa Q A)| (have T:=aa Q A)
  first| (rename Mgk 0=>_z;obtain⟨H,E,g⟩:=L.shape)| (rename Mgk 1=>_z;obtain⟨H,E,g⟩:=L.shape)| (rename Mgk 2=>_z;obtain⟨go,D,g⟩:=J.shape)| (obtain⟨no,I,g⟩:=J.shape)
  subst g
  first| (rename Mgk 0=>_z;clear Z a3 y R B u)| (rename Mgk 1=>_z;clear Z a3 y R B u)| (rename Mgk 2=>_z;clear a2 y Q A j)| (clear a2 y Q A j)
  go_wp2_with fail
  first| (rename Mgk 0=>_z;refine(j.out _ _ a0).mono ?_;rintro t b8 ⟨b0,rfl,k,C⟩;have ao:=L.l C;have v:=aa U C;obtain⟨go,D,g⟩:=k.shape)| (rename Mgk 1=>_z;refine(j.out _ _ _ L).mono ?_;rintro t b8 ⟨b0,rfl,k,C⟩;have an:=a0.l C;have v:=aa U C;obtain⟨no,I,g⟩:=k.shape)| (rename Mgk 2=>_z;refine(i.out _ _ _ _ _ a4 J).mono ?_;rintro t b7 ⟨az,b3,rfl,k,ae,W⟩;have v:=aa T W;obtain⟨qo,qc,g⟩:=k.shape)| (refine(i.out _ _ _ _ _ J a4).mono ?_;rintro t b7 ⟨az,b3,rfl,k,ae,W⟩;have v:=aa T W;obtain⟨qo,qc,g⟩:=k.shape)
  subst g
  first| (rename Mgk 0=>_z;clear a0 L U C j;go_wp2_with fail;refine(i.out _ _ _ _ _ ao k).mono ?_;rintro t ba ⟨b1,b4,rfl,a1,al,X⟩;have a9:=aa v X;obtain⟨qo,qc,g⟩:=a1.shape)| (rename Mgk 1=>_z;clear a0 L U C j;go_wp2_with fail;refine(i.out _ _ _ _ k an).mono ?_;rintro t ba ⟨b1,b4,rfl,a1,al,X⟩;have a9:=aa v X;obtain⟨qo,qc,g⟩:=a1.shape)| (rename Mgk 2=>_z;obtain⟨so,sc,g⟩:=ae.shape)| (obtain⟨so,sc,g⟩:=ae.shape)
  subst g
  first| (rename Mgk 0=>_z;obtain⟨so,sc,g⟩:=al.shape;subst g;clear ao k v X i)| (rename Mgk 1=>_z;obtain⟨so,sc,g⟩:=al.shape;subst g;clear an k v X i)| (rename Mgk 2=>_z;clear a4 J T W i)| (clear a4 J T W i)
  go_wp2
  go_ret2
  first| (rename Mgk 0=>_z;exact⟨_,rfl,a1,a9⟩)| (rename Mgk 1=>_z;exact⟨_,rfl,a1,a9⟩)| (rename Mgk 2=>_z;exact⟨_,rfl,k,v⟩)| (exact⟨_,rfl,k,v⟩)
theorem refPl_nuf_mg:
  (∀(A E:Int) (t:ak) (n p q r R D L G i wy:Int) (gr Z a:Bool) (g:Option Addr) (d f:Nat) (w:World) (_:(((Dg.dg 65536 d).length:Int)==0)=false) (_:IntKind.i64.wrap (A*i)=E) (_:yJ 15 #[yi n] (.tuple #[yhV p q r R D L G gr 1,.bool Z]))
  (_:yJ 21 #[ygV R D L G gr] (yi A))
  (_: ∀u,yB w u→yC 20 #[ydV a (yS g d f) E] u (di u t)),
  yC 60 #[yi n,ypV a (yS g d f) i false false true,yi wy] w (RVG w 2 a t 3))∧
  (∀(A E:Int) (t:ak) (n p q r R D L G i wy:Int) (gr Z a:Bool) (g:Option Addr) (d f:Nat) (w:World) (_:(((Dg.dg 65536 d).length:Int)==0)=false) (_:IntKind.i64.wrap (A*i)=E) (_:yJ 15 #[yi n] (.tuple #[yhV p q r R D L G gr 1,.bool Z]))
  (_:yJ 21 #[ygV R D L G gr] (yi A))
  (_: ∀u,yB w u→yC 20 #[ydV a (yS g d f) E] u (di u t)),
  yC 60 #[yi n,ypV a (yS g d f) i true false true,yi wy] w (RVG w 2 a t 0)):=by
 refine⟨?_, ?_⟩;have _z:Mgk 0:=mgkI 0
 all_goals
  intro A E t n p q r R D L G i wy gr Z a g d f w hz hE Q T O;replace Q:Hid _:=Q;replace T:Hid _:=T;replace O:Hid _:=O
  first| (rename Mgk 0=>_z;obtain⟨W4,I,q1,q2,b3⟩:=iG w (ypL a (yS g d f) i false false true) 123 (yoL 0 false false yN 0) 30)| (obtain⟨W4,I,q1,q2,b3⟩:=iG w (ypL a (yS g d f) i true false true) 123 (yoL 0 false false yN 0) 30)
  replace I:Hid _:=I
  go_enter func60,ntmps60
  go_upto_region 1 with fail
  rw[I.out];clear I
  go_wp2_with fail
  refine(Q.out _).mono ?_;rintro zz z ⟨rfl,X⟩;have q8:=q1.l X;have q9:=q2.l X;have a3:=aa b3 X;clear q1 q2 b3 X Q;obtain⟨a2,Y,a7,U⟩:=cA z (yhL p q r R D L G gr 1) 56;replace Y:Hid _:=Y;have b8:w.heap.size≤z.heap.size:=a3.size;have b9:=q9.lt;have v:=q8.l U;have ar:=q9.l U;have ae:=aa a3 U;clear q8 q9 a3 U
  go_upto_region 2 with fail
  rw[Y.out];clear Y;have b0:=v.c 1 rfl;have b1:=v.c 3 rfl;have b2:=v.c 4 rfl;have b4:=v.c 5 rfl;have b5:=a7.c 8 rfl
  go_upto_region 24 with fail
  clear b0 b1 b2 b4 b5;have B:yB a2 a2.drew:=(Below.refl _ _).drew;have J:=v.l B;have a8:=ar.l B;have M:=a7.l B;have a4:=aa ae B;clear v ar a7 ae B
  first| (rename Mgk 0=>_z;refine wp_region_held_drew (S:=fun N=>au N w.heap.size 123 (ypL a (yS g d f) i false false true)∧au N z.heap.size 56 (yhL p q r R D L G gr 1)) (by kernel_rfl) ⟨J,M⟩ (fun b=> ?_))| (refine wp_region_held_drew (S:=fun N=>au N w.heap.size 123 (ypL a (yS g d f) i true false true)∧au N z.heap.size 56 (yhL p q r R D L G gr 1)) (by kernel_rfl) ⟨J,M⟩ (fun b=> ?_))
  generalize a2.drew=b7 at J a8 M a4 b⊢;refine tq 0 (.pointer (some ⟨w.heap.size,0,none⟩)) rfl (fun _ _=>by kernel_rfl) b ?_
  refine tq 1 (.bool a) rfl (fun _ j=>gU 4 (.tmp 94) rfl w.heap.size 0 (by kernel_rfl) _ _ underlying4 rfl (j.1.c 0 rfl)) b ?_
  refine tq 2 (.pointer (some ⟨w.heap.size,0,none⟩)) rfl (fun _ _=>by kernel_rfl) b ?_
  refine tq 3 (.bool a) rfl (fun _ j=>gU 4 (.tmp 96) rfl w.heap.size 0 (by kernel_rfl) _ _ underlying4 rfl (j.1.c 0 rfl)) b ?_
  refine tq 4 (.pointer (some ⟨w.heap.size,1,none⟩)) rfl (fun _ _=>by kernel_rfl) b ?_
  refine tq 5 (yS g d f) rfl (fun _ j=>gU 26 (.tmp 98) rfl w.heap.size 1 (by kernel_rfl) _ _ underlying26 rfl (j.1.c 1 rfl)) b ?_
  refine tq 6 (.pointer (some ⟨z.heap.size,3,none⟩)) rfl (fun _ _=>by kernel_rfl) b ?_
  refine tq 7 (ygV R D L G gr) rfl (fun _ j=>fy 54 (.tmp 100) rfl z.heap.size 3 (by kernel_rfl) _ _ (kY j.2 3 5 rfl) underlying54 rfl (by kernel_rfl)) b ?_
  refine tq 9 (.pointer (some ⟨w.heap.size,2,none⟩)) rfl (fun _ _=>by kernel_rfl) b ?_
  refine tq 10 (yi i) rfl (fun _ j=>gU 3 (.tmp 103) rfl w.heap.size 2 (by kernel_rfl) _ _ underlying3 rfl (j.1.c 2 rfl)) b ?_
  first| (rename Mgk 0=>_z;refine tk 15 (yi 3) rfl (by kernel_rfl) (fun _ _ _ h=>h) (fun _ _=>by kernel_rfl) b ?_)| (refine tk 15 (yi 0) rfl (by kernel_rfl) (fun _ _ _ h=>h) (fun _ _=>by kernel_rfl) b ?_)
  refine wpAnyH_ready (rs:=[8]) (by kernel_rfl) (by simp) ?_;refine AllReadyH.cons rfl (fun K k=> ?_) AllReadyH.nil
  go_simp
  refine(T.out _).mono ?_;rintro zz bb ⟨rfl,C⟩;have a9:=J.l C;have av:=a8.l C;have ab:=M.l C;have W:=aa a4 C;clear J a8 M a4 C T;refine k.out _ _ ⟨a9,ab⟩ (fun a5=> ?_)
  clear k K;refine tq 11 (yi E) rfl (fun _ _=>by go_simp) a5 ?_
  refine tq 12 (ydV a (yS g d f) E) rfl (fun _ _=>by kernel_rfl) a5 ?_
  refine wpAnyH_ready (rs:=[13]) (by kernel_rfl) (by simp) ?_;refine AllReadyH.cons rfl (fun K k=> ?_) AllReadyH.nil
  go_simp
  refine(O.out _ W).mono ?_;rintro zz y ⟨ba,rfl,a1,ao,F⟩;have ff:=ao.mono W.size;clear ao;have ac:=a9.l F;have a0:=av.l F;have ad:=ab.l F;have al:=aa W F;obtain⟨o,m,hv⟩:=a1.shape;subst hv;clear a9 av ab W F O;refine k.out _ _ ⟨ac,ad⟩ (fun ap=> ?_)
  clear k K;refine tq 14 (yoV 2 a t.s (yS o t.n m) t.e) rfl (fun _ _=>by kernel_rfl) ap ?_
  refine wpAnyH_ready (rs:=[16]) (by kernel_rfl) (by simp) ?_;refine AllReadyH.cons rfl (fun K k=> ?_) AllReadyH.nil
  have H:But (w.heap.size+1) y (y.setCells (w.heap.size+1) 0 (yoL 2 a t.s (yS o t.n m) t.e)):=de _ _ _ _;have aq:y.there (w.heap.size+1) 0 5:=dD a0;have aw:au (y.setCells (w.heap.size+1) 0 (yoL 2 a t.s (yS o t.n m) t.e)) (w.heap.size+1) 30 (yoL 2 a t.s (yS o t.n m) t.e):=a0.sets _ rfl;have az:=H.rd a1 (cq a1 (Dg.norm_dg _ _ (by omega)) a0 (fun x hx n hn=>by simp at hx;rcases hx with rfl|rfl|rfl|rfl|rfl<;>simp;all_goals omega))
  have ax:=H.loc ac (by omega);have ay:=H.loc ad (by omega);have an:=H.below al (by omega);rw[if_pos (by kernel_rfl)];refine wp_store_mid 30 (.tmp 6) (.tmp 108) rfl (w.heap.size+1) 0 (yoA 2 a t.s (yS o t.n m) t.e) (by kernel_rfl) (by kernel_rfl) aq (by kernel_rfl) (by simp[Value.oneCell']) ?_;refine k.out _ _ ⟨ax,ay⟩ (fun a6=> ?_)
  clear k K;clear a0 a1 ac ad al H aq
  first| (rename Mgk 0=>_z;refine tk 17 (yi 3) rfl (by kernel_rfl) (fun _ _ _ h=>h) (fun _ _=>by kernel_rfl) a6 ?_)| (refine tk 17 (yi 0) rfl (by kernel_rfl) (fun _ _ _ h=>h) (fun _ _=>by kernel_rfl) a6 ?_)
  refine wpAnyH_done (by kernel_rfl) ?_ _;clear b a5 ap a6;change Exit.then _ _ _ _ (World.setCells y (w.heap.size+1) 0 (yoL 2 a t.s (yS o t.n m) t.e));generalize World.setCells y (w.heap.size+1) 0 (yoL 2 a t.s (yS o t.n m) t.e)=b6 at ax aw ay az an⊢;simp only[Act.put,List.getElem_toArray,List.getElem_cons_succ,List.getElem_cons_zero,List.setIfInBounds_toArray,List.set_cons_zero,List.set_cons_succ];have hl:=run_loadVar_mid (P:=Tryz.prog) _ (w.heap.size+1) 0 30 (yoL 2 a t.s (yS o t.n m) t.e) _ aw.range underlying30 rfl (by kernel_rfl)
  go_wp2
  exact bodyPost_ret (aj results60 rfl rfl hl) rfl ⟨_,rfl,az,ff,an⟩
def Xn (w:World)(s9 s10:Value)(hd:Bool)(rd:Nat)(rk:Int)(wx:World):Prop:=
 ∃pb so sc,s9= .pointer (some ⟨pb,0,none⟩)∧s10= .bool hd∧w.heap.size+1+1≠pb∧w.heap.size≤pb∧au wx pb 196 [yT so rd sc,yi rk]∧Own wx w.heap.size 105 .u32 (yT so rd sc) (Dg.dg 4294967296 rd)∧au wx (w.heap.size+1+1) 196 [yN,yi 0]∧yB w wx
theorem Is {w b:World}{j:Bool}{c:Nat}{g:Int}{e:Option Addr}{d a:Nat}(m:au b (w.heap.size+1+1) 196 [yN,yi 0])(k:au b a 196 [yN,yi 0])(n:Own b w.heap.size 105 .u32 (yT e c d) (Dg.dg 4294967296 c))(l:yB w b)(h:w.heap.size+1+1≠a)(i:w.heap.size≤a):
  Xn w (.pointer (some ⟨a,0,none⟩)) (.bool j) j c g ((b.setCell ⟨a,0,none⟩ (yT e c d)).setCell ⟨a,1,none⟩ (yi g)):=by
 have f:=(ag b a 0 (yT e c d)).trans (ag _ a 1 (yi g));exact⟨a,e,d,rfl,rfl,h,i,(k.set 0 _).set 1 _,f.own n k (by decide),f.loc m h,f.below l i⟩
theorem vK (v:Value)(a:Nat)(w:World)(h:Rd w .i64 v (Dg.dg 65536 a))(b:(Dg.dg 65536 a).length≤2000000):yC 54 #[v] w (yR w (yi (bitLen a:Int))):=by
 have:=kF _ _ w h (Dg.small_dg _ _ (by omega)) (Dg.norm_dg _ _ (by omega)) (by omega);rw[Dg.vl_dg _ _ (by omega)] at this;refine this.mono ?_;rintro z w' ⟨rfl,rfl⟩;exact⟨rfl,Below.refl _ _⟩
structure EnF (w:World) (bf:Nat) (vv fl:List Value) (W:World):Prop where
 v:au W w.heap.size 39 vv
 z:au W (w.heap.size+1) 30 (yoL 0 false false yN 0)
 f:au W bf 56 fl
 b:yB w W
theorem EnF.lt {w W:World}{a:Nat}{b fl:List Value}(h:EnF w a b fl W):w.heap.size+1<W.heap.size∧a<W.heap.size:=⟨h.z.lt,h.f.lt⟩
theorem slice_at (s:ByteArray)(k:Nat)(b:UInt8)(r d:List UInt8)(h:RestAt s k (b::r)):(⟨d.toArray⟩:ByteArray)++s.extract k (k+1)=⟨(d++[b]).toArray⟩:=by
 obtain⟨-,-,-,a⟩:=rest_cons h;rw[a,str_snoc]
theorem offQ {w:World}{b n:Nat}{d:TypeId}{v:Value}(h:Rd w .i64 v (Dg.dg 65536 n))(c:au w b d (yrL false yN yN 0)):wF b v (Dg.dg 65536 n):=
 cq h (Dg.norm_dg _ _ (by omega)) c (fun x a n e=>by simp at a;rcases a with rfl|rfl|rfl|rfl<;>simp;all_goals omega)
end Go.Proofs.YtlhkndcmbpcpgaaGreatDoor
