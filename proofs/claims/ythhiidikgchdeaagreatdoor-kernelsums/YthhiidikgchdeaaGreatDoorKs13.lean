/- Texts laid together. -/
import Derived.Test.YthhiidikgchdeaaGreatDoorKs05
import Derived.Test.YthhiidikgchdeaaGreatDoorKs06
import Derived.Test.YthhiidikgchdeaaGreatDoorKs07
import Derived.Test.YthhiidikgchdeaaGreatDoorKs08
import Derived.Test.YthhiidikgchdeaaGreatDoorKs09
set_option maxRecDepth 100000
set_option maxHeartbeats 6400000
namespace Go.Proofs.YthhiidikgchdeaaGreatDoor
open _root_.Go.Proofs.Tryz
open Go.RowKit
theorem jC (v:Value)(zs:List Nat)(w:World)(h:Rd w .u32 v zs):
  yC 115 #[v] w fun e w'=>e= .returned (yi (chk zs))∧w'=w:=by
 obtain⟨n,cap,rfl,o,m,c⟩:=h;unfold maxLen at m
 by_cases l:zs.length=0
 ·have a:zs=[]:=List.eq_nil_of_length_eq_zero l
  subst a
  go_enter func115,ntmps115
  go_wp2
  go_ret
  exact⟨rfl,rfl⟩
 ·obtain⟨b,p,rfl,f⟩:=c (by omega)
  have i:=f (zs.length-1) (by omega)
  by_cases a:zs.getD (zs.length-1) 0=0
  ·have j:chk zs=1:=Oq (by omega) a
   rw[j];rw[a] at i;clear f c j a
   go_enter func115,ntmps115
   go_wp2
   go_ret
   exact⟨rfl,rfl⟩
  ·obtain⟨d,g⟩: ∃d,zs.getD (zs.length-1) 0=d:=⟨_,rfl⟩
   by_cases k:1200<zs.length
   ·rw[Ot a k]
    rw[g] at i a;clear f c g
    go_enter func115,ntmps115
    go_wp2
    go_ret
    exact⟨rfl,rfl⟩
   ·rw[ZT a k]
    rw[g] at i a;clear f c g
    go_enter func115,ntmps115
    go_wp2
    go_ret
    exact⟨rfl,rfl⟩
theorem plus_le_mg:
  (∀(n o:Value) (xs a:List Nat) (w:World) (_:Rd w .u32 n xs) (_:Rd w .u32 o a) (_:Dg.Small 4294967296 xs) (_:Dg.Small 4294967296 a) (_:xs.length≤1000000000) (_:a.length≤xs.length),
  yC 109 #[n,o] w (Num w (Dg.vl 4294967296 xs+Dg.vl 4294967296 a)))∧
  (∀(n o:Value) (xs a:List Nat) (w:World) (_:Rd w .u32 n xs) (_:Rd w .u32 o a) (_:Dg.Small 4294967296 xs) (_:Dg.Small 4294967296 a) (_:xs.length≤1000000000) (_:a.length<xs.length),
  yC 109 #[o,n] w (Num w (Dg.vl 4294967296 xs+Dg.vl 4294967296 a))):=by
 refine⟨?_, ?_⟩;have _z:Mgk 0:=mgkI 0
 all_goals
  intro n o xs a w S T Q sb a4 a5;obtain⟨i0,U,a0,a1,a2⟩:=info_parts Tryz.infoU32;obtain⟨ao,ca,rfl,-,-,s⟩:=S;obtain⟨bo,cb,rfl,-,-,z⟩:=T
  go_enter func109,ntmps109
  go_wp2_with (at_make;refine wpList_make_full _ rfl _ _ 78 rfl w.heap.size 54 i0 (.int .u32 0) 1 underlying78 U a0 a1 _ _ _ _ (xs.length+1) rfl rfl (by omega) (by omega) ?G ?b3 (Nat.le_refl _) ?_)
  case G=>rw[a2];omega
  case b3=>unfold maxLen;omega
  intro w0 K J;have O:=gL K;have H:yB w w0:=(Below.refl _ _).grown J (Nat.le_refl _) (fun k h=>by cases h)
  clear K J
  go_wp2
  go_loopw [6,23] (fun u l wr=> ∃(k c:Nat) (i:List Nat),k≤a.length∧l=yi k∧u= .int .u32 c∧Own wr w.heap.size 54 .u32 (.slice (some ⟨w.heap.size,0,none⟩) (xs.length+1) (xs.length+1)) i∧Qv xs a i k c∧yB w wr)
   (fun _ l _=>a.length-(intOf l).toNat)
  case atStart=>exact⟨0,0,_,Nat.zero_le _,rfl,rfl,O,⟨by simp,Dg.small_replicate _ _ (by omega),by omega,by simp[Dg.vl]⟩,H⟩
  case round=>
   clear O H;obtain⟨k,c,i,W,rfl,rfl,own,d,g⟩:=hrel;have L:=d.1;have t:=d.2.2.1
   by_cases Y:k<a.length
   ·obtain⟨b,a3,rfl,q⟩:=s (by omega)
    obtain⟨G,a6,rfl,I⟩:=z (by omega);have E:=cell_later g (q k (by omega));have hy:=cell_later g (I k (by omega));have C:=own.c k (by omega);have hf:=own.f k;have r:=Q k;have N:=sb k;obtain⟨x,j⟩: ∃x,xs.getD k 0=x:=⟨_,rfl⟩;obtain⟨y,v⟩: ∃y,a.getD k 0=y:=⟨_,rfl⟩;have D:=zq d (by omega) j v (by omega) (by omega);rw[j] at E r;rw[v] at hy N;clear j v q I s z
    go_wp2_with fail
    refine(ur x y c _ r N t).mono ?_;rintro e w' ⟨rfl,rfl⟩
    go_wp2
    go_roundw
    case rel=>exact⟨k+1,_,_,by omega,by go_num,rfl,own.store k _,D,g.setCell (by exact Nat.le_refl _) _⟩
    case measure=>simp[intOf];omega
   ·have B:k=a.length:=by omega
    subst B
    go_wp2
    go_loopw [6,9] (fun u l wr=> ∃(k c:Nat) (i:List Nat),a.length≤k∧k≤xs.length∧l=yi k∧u= .int .u32 c∧Own wr w.heap.size 54 .u32 (.slice (some ⟨w.heap.size,0,none⟩) (xs.length+1) (xs.length+1)) i∧Qv xs a i k c∧yB w wr)
     (fun _ l _=>xs.length-(intOf l).toNat)
    case atStart=>exact⟨a.length,c,i,Nat.le_refl _,by omega,rfl,rfl,own,d,g⟩
    case round=>
     clear own d g L t;obtain⟨k,c,i,X,W,rfl,rfl,own,d,g⟩:=hrel;have L:=d.1;have t:=d.2.2.1
     by_cases Y:k<xs.length
     ·obtain⟨b,a3,rfl,q⟩:=s (by omega)
      have E:=cell_later g (q k (by omega));have C:=own.c k (by omega);have hf:=own.f k;have r:=Q k;obtain⟨x,j⟩: ∃x,xs.getD k 0=x:=⟨_,rfl⟩;have D:=zq d (by omega) j (Dg.getD_of_le a k X) (by omega) (by omega);rw[j] at E r;clear j q s z
      go_wp2_with fail
      refine(ur x 0 c _ r (by omega) t).mono ?_;rintro e w' ⟨rfl,rfl⟩
      go_wp2
      go_roundw
      case rel=>exact⟨k+1,_,_,by omega,by omega,by go_num,rfl,own.store k _,D,g.setCell (by exact Nat.le_refl _) _⟩
      case measure=>simp[intOf];omega
     ·have B:k=xs.length:=by omega
      subst B;have C:=own.c xs.length (by omega);have hf:=own.f xs.length;have A:=Nc d (by omega);have F:=own.store xs.length c;have R:=g.setCell (p:=⟨w.heap.size,xs.length,none⟩) (by exact Nat.le_refl _) (.int .u32 c);have P:=F.rd
      go_wp2_with fail
      refine(jD _ _ _ _ _ P).mono ?_;rintro e w' ⟨m,rfl,Z,rfl⟩;have M:=jW 4294967296 (by omega) F A.2.1 Z;rw[A.2.2] at M;clear P F A C hf own
      go_wp2
      go_ret
      exact⟨_,rfl,M,R⟩
abbrev abc:=plus_le_mg.1
abbrev abd:=plus_le_mg.2
theorem rj (b c:Value)(xs a:List Nat)(w:World)(d:Rd w .u32 b xs)(e:Rd w .u32 c a)(f:Dg.Small 4294967296 xs)(g:Dg.Small 4294967296 a)(i:xs.length≤1000000000)(j:a.length≤1000000000):
  yC 109 #[b,c] w (Num w (Dg.vl 4294967296 xs+Dg.vl 4294967296 a)):=by
 by_cases h:a.length≤xs.length
 ·exact abc b c xs a w d e f g i h
 ·rw[Nat.add_comm]
  exact abd c b a xs w e d g f j (by omega)
theorem zL (N O:Value)(xs a:List Nat)(w:World)(Q:Rd w .u32 N xs)(R:Rd w .u32 O a)(M:Dg.Small 4294967296 xs)(sb:Dg.Small 4294967296 a)(a4:xs.length≤1000000000)(a5:a.length≤xs.length)(I:Dg.vl 4294967296 a≤Dg.vl 4294967296 xs):
  yC 111 #[N,O] w (Num w (Dg.vl 4294967296 xs-Dg.vl 4294967296 a)):=by
 obtain⟨i0,S,a0,a1,a2⟩:=info_parts Tryz.infoU32;obtain⟨ao,ca,rfl,-,-,p⟩:=Q;obtain⟨bo,cb,rfl,-,-,t⟩:=R;have P:Hid _:=I;clear I
 go_enter func111,ntmps111
 go_wp2_with (at_make;refine wpList_make_full _ rfl _ _ 78 rfl w.heap.size 54 i0 (.int .u32 0) 1 underlying78 S a0 a1 _ _ _ _ xs.length rfl rfl (by omega) (by omega) ?A ?b3 (Nat.le_refl _) ?_)
 case A=>rw[a2];omega
 case b3=>unfold maxLen;omega
 intro w0 F E;have K:=gL F;have B:yB w w0:=(Below.refl _ _).grown E (Nat.le_refl _) (fun k h=>by cases h)
 clear F E
 go_wp2
 go_loopw [6,15] (fun r l wr=> ∃(k c:Nat) (i:List Nat),k≤a.length∧l=yi k∧r= .int .u32 c∧Own wr w.heap.size 54 .u32 (.slice (some ⟨w.heap.size,0,none⟩) xs.length xs.length) i∧Z7 xs a i k c∧yB w wr)
  (fun _ l _=>a.length-(intOf l).toNat)
 case atStart=>exact⟨0,0,_,Nat.zero_le _,rfl,rfl,K,⟨by simp,Dg.small_replicate _ _ (by omega),by omega,by simp[Dg.vl]⟩,B⟩
 case round=>
  clear K B;obtain⟨k,c,i,T,rfl,rfl,own,d,g⟩:=hrel;have G:=d.1;have q:=d.2.2.1
  by_cases W:k<a.length
  ·obtain⟨b,a3,rfl,n⟩:=p (by omega)
   obtain⟨A,a6,rfl,C⟩:=t (by omega);have z:=cell_later g (n k (by omega));have Z:=cell_later g (C k (by omega));have Y:=own.c k (by omega);have hf:=own.f k;have o:=M k;have J:=sb k;obtain⟨x,j⟩: ∃x,xs.getD k 0=x:=⟨_,rfl⟩;obtain⟨y,s⟩: ∃y,a.getD k 0=y:=⟨_,rfl⟩;have v:=Jq d (by omega) j s (by omega) (by omega);rw[j] at z o;rw[s] at Z J;clear j s n C p t
   go_wp2_with fail
   refine(zA x y c _ o J q).mono ?_;rintro e w' ⟨rfl,rfl⟩
   go_wp2
   go_roundw
   case rel=>exact⟨k+1,_,_,by omega,by go_num,rfl,own.store k _,v,g.setCell (by exact Nat.le_refl _) _⟩
   case measure=>simp[intOf];omega
  ·have u:k=a.length:=by omega
   subst u
   go_wp2
   go_loopw [6,9] (fun r l wr=> ∃(k c:Nat) (i:List Nat),a.length≤k∧k≤xs.length∧l=yi k∧r= .int .u32 c∧Own wr w.heap.size 54 .u32 (.slice (some ⟨w.heap.size,0,none⟩) xs.length xs.length) i∧Z7 xs a i k c∧yB w wr)
    (fun _ l _=>xs.length-(intOf l).toNat)
   case atStart=>exact⟨a.length,c,i,Nat.le_refl _,by omega,rfl,rfl,own,d,g⟩
   case round=>
    clear own d g G q;obtain⟨k,c,i,U,T,rfl,rfl,own,d,g⟩:=hrel;have G:=d.1;have q:=d.2.2.1
    by_cases W:k<xs.length
    ·obtain⟨b,a3,rfl,n⟩:=p (by omega)
     have z:=cell_later g (n k (by omega));have Y:=own.c k (by omega);have hf:=own.f k;have o:=M k;obtain⟨x,j⟩: ∃x,xs.getD k 0=x:=⟨_,rfl⟩;have v:=Jq d (by omega) j (Dg.getD_of_le a k U) (by omega) (by omega);rw[j] at z o;clear j n p t
     go_wp2_with fail
     refine(zA x 0 c _ o (by omega) q).mono ?_;rintro e w' ⟨rfl,rfl⟩
     go_wp2
     go_roundw
     case rel=>exact⟨k+1,_,_,by omega,by omega,by go_num,rfl,own.store k _,v,g.setCell (by exact Nat.le_refl _) _⟩
     case measure=>simp[intOf];omega
    ·have u:k=xs.length:=by omega
     subst u;have D:=Z8 d (by omega) P.out;have L:=own.rd
     go_wp2_with fail
     refine(jD _ _ _ _ _ L).mono ?_;rintro e w' ⟨m,rfl,X,rfl⟩;have H:=jW 4294967296 (by omega) own d.2.1 X;rw[D] at H;clear L D own
     go_wp2
     go_ret
     exact⟨_,rfl,H,g⟩
theorem iK (b:Bool)(a:Option Addr)(n c:Nat)(e:Int)(w:World):yC 59 #[ydV b (.slice a n c) e] w (yR w (ydV b (.slice a n c) e)):=by
 go_enter func59,ntmps59
 go_wp2
 go_returns
 exact⟨rfl,((Below.refl _ _).alloc (Nat.le_refl _) _).alloc (by simp[World.size_alloc]) _⟩
theorem au.l {w w':World}{b:Nat}{a:TypeId}{c:List Value}(h:au w b a c)(d:yB w w'):au w' b a c:=(d.block b h.lt).trans h
theorem au.drew {w:World}{b:Nat}{a:TypeId}{c:List Value}(h:au w b a c):au w.drew b a c:=h.l (Below.refl _ _).drew
theorem au.cs2 {w:World}{b:Nat}{e:TypeId}{a d:Value}{l:List Value}(h:au w b e (a::d::l)):w.cell? ⟨b,0,none⟩=some a∧w.cell? ⟨b,1,none⟩=some d:=⟨h.c 0 rfl,h.c 1 rfl⟩
theorem au.cs3 {w:World}{b:Nat}{f:TypeId}{a d e:Value}{l:List Value}(h:au w b f (a::d::e::l)):w.cell? ⟨b,0,none⟩=some a∧w.cell? ⟨b,1,none⟩=some d∧w.cell? ⟨b,2,none⟩=some e:=⟨h.c 0 rfl,h.c 1 rfl,h.c 2 rfl⟩
theorem au.cs6 {w:World}{b:Nat}{j:TypeId}{a d e f g i:Value}{l:List Value}(h:au w b j (a::d::e::f::g::i::l)):w.cell? ⟨b,0,none⟩=some a∧w.cell? ⟨b,1,none⟩=some d∧w.cell? ⟨b,2,none⟩=some e∧w.cell? ⟨b,3,none⟩=some f∧w.cell? ⟨b,4,none⟩=some g∧w.cell? ⟨b,5,none⟩=some i:=⟨h.c 0 rfl,h.c 1 rfl,h.c 2 rfl,h.c 3 rfl,h.c 4 rfl,h.c 5 rfl⟩
theorem aX {w:World}{k:IntKind}{v:Value}{zs:List Nat}(h:Rd w k v zs){b:Nat}{q:TypeId}{i:List Value}(m:au w b q i)(p: ∀x∈i,∀n:Int,x≠ .int k n):wF b v zs:=fun f a n c o=>by
 obtain⟨r,cap,rfl,_,_,j⟩:=h;obtain⟨g,s,rfl,l⟩:=j f
 cases o
 have d:=l 0 f
 show g≠b
 intro e;subst e;unfold World.cell? at d;simp only at d;rw[m] at d;simp only[Option.isSome_none,Bool.false_eq_true,if_false,List.getElem?_toArray] at d;exact p _ (List.mem_of_getElem? d) _ rfl
theorem But.own {b:Nat}{w w':World}{base e:Nat}{k:IntKind}{v:Value}{zs:List Nat}(h:But b w w')(r:Own w base e k v zs){g:TypeId}{p:List Value}(f:au w b g p)(n:g≠e):Own w' base e k v zs:=by
 obtain⟨j,d⟩:=r;refine⟨j, ?_⟩
 rcases d with d| ⟨c,cap',i,o,l,a,r⟩
 ·exact .inl d
 ·refine .inr ⟨c,cap',i,o,l, ?_,r⟩
  have m:c≠b:=by
   intro e;subst e;unfold au at f;rw[f] at a;simp only[Option.some.injEq,Obj.cells.injEq] at a;exact n a.2.1
  rw[h.block c m];exact a
theorem aC {w w':World}{g o:Nat}{a:List Value}(h:w.rangeAt g o a)(b:yB w w'):w'.rangeAt g o a:=fun j v c=>by
 have:=h j v c;rw[←this];exact World.cell?_of_block (b.block g (World.block_lt_of_cell? w _ this))
theorem Loc.apart {w:World}{b c:Nat}{a d e:Value}(h:Loc w b a d e)(q:c≠b)(n o p:Value):
  Loc (((w.setCell ⟨c,0,none⟩ n).setCell ⟨c,1,none⟩ o).setCell ⟨c,2,none⟩ p) b a d e:=by
 obtain⟨m,⟨f,g,i⟩,j,k,l⟩:=h;refine⟨by simpa using m,⟨?_, ?_, ?_⟩,by simpa using j,by simpa using k,by simpa using l⟩
 ·rw[World.cell?_setCell_other (h:=by simp),World.cell?_setCell_other (h:=by simp),World.cell?_setCell_other (h:=by simp)];exact f
 ·rw[World.cell?_setCell_other (h:=by simp),World.cell?_setCell_other (h:=by simp),World.cell?_setCell_other (h:=by simp)];exact g
 ·rw[World.cell?_setCell_other (h:=by simp),World.cell?_setCell_other (h:=by simp),World.cell?_setCell_other (h:=by simp)];exact i
theorem Rv.l {w w':World}{v:Value}{t:ak}(h:Rv w v t)(a:yB w w'):Rv w' v t:=by
 obtain⟨s,c,b⟩:=h;exact⟨s,c,b.l a⟩
theorem ZB.l {w w':World}{b:Nat}(h:ZB w b)(a:yB w w'):ZB w' b:=by
 obtain⟨c,e,d⟩:=h;exact⟨Nat.lt_of_lt_of_le c a.size,e,(a.block b c).trans d⟩
theorem dI (w:World)(a:TypeId):ZB (w.alloc (.cells (ydA false yN 0) a)) w.heap.size:=
 ⟨by simp[World.size_alloc],a,heap_alloc_new _ _⟩
theorem gu {w:World}{b:Nat}{v:Value}{zs:List Nat}(r:Rd w .u32 v zs)(h:ZB w b)(_hn:Dg.Norm zs)(s t u:Value):
  Rd (((w.setCell ⟨b,0,none⟩ s).setCell ⟨b,1,none⟩ t).setCell ⟨b,2,none⟩ u) .u32 v zs:=by
 obtain⟨x,z,m⟩:=h;obtain⟨g,cap,rfl,j,k,l⟩:=r;refine⟨g,cap,rfl,j,k,fun q=> ?_⟩
 obtain⟨c,f,rfl,d⟩:=l q;refine⟨c,f,rfl,fun i n=> ?_⟩
 have y:c≠b:=by
  intro e;subst e;have a:=d (zs.length-1) (by omega);unfold World.cell? at a;simp only[m] at a;obtain⟨o,p⟩: ∃o,f+(zs.length-1)=o:=⟨_,rfl⟩;rw[p] at a
  match o,a with
  |0,a=>simp at a
  |1,a=>simp at a
  |2,a=>simp at a
  |o+3,a=>simp at a
 rw[World.cell?_setCell_other (h:=by simp),World.cell?_setCell_other (h:=by simp),World.cell?_setCell_other (h:=by simp)];exact d i n
theorem cA (w:World)(a:List Value)(b:TypeId): ∃W,w.alloc (.cells a.toArray b)=W∧au W w.heap.size b a∧yB w W:=
 ⟨_,rfl,ah w a b,af w _⟩
theorem iG (w:World)(a:List Value)(b:TypeId)(c:List Value)(d:TypeId): ∃W,(w.alloc (.cells a.toArray b)).alloc (.cells c.toArray d)=W∧au W w.heap.size b a∧au W (w.heap.size+1) d c∧yB w W:=by
 obtain⟨W,rfl,h,g⟩:=cA w a b;have f:=ah (w.alloc (.cells a.toArray b)) c d;have e:=af (w.alloc (.cells a.toArray b)) (.cells c.toArray d);rw[World.size_alloc] at f;exact⟨_,rfl,h.l e,f,aa g e⟩
theorem lG (w:World)(a:List Value)(c:TypeId)(b:List Value)(d:TypeId)(e:List Value)(f:TypeId): ∃W,((w.alloc (.cells a.toArray c)).alloc (.cells b.toArray d)).alloc (.cells e.toArray f)=W∧au W w.heap.size c a∧au W (w.heap.size+1) d b∧au W (w.heap.size+1+1) f e∧yB w W:=by
 obtain⟨W,rfl,j,k,i⟩:=iG w a c b d;have h:=ah ((w.alloc (.cells a.toArray c)).alloc (.cells b.toArray d)) e f;have g:=af ((w.alloc (.cells a.toArray c)).alloc (.cells b.toArray d)) (.cells e.toArray f);rw[World.size_alloc,World.size_alloc] at h;exact⟨_,rfl,j.l g,k.l g,h,aa i g⟩
theorem pi (w:World)(a:List Value)(d:TypeId)(b:List Value)(e:TypeId)(c:List Value)(f:TypeId)(h:List Value)(i:TypeId): ∃W,(((w.alloc (.cells a.toArray d)).alloc (.cells b.toArray e)).alloc (.cells c.toArray f)).alloc (.cells h.toArray i)=W∧au W w.heap.size d a∧au W (w.heap.size+1) e b∧au W (w.heap.size+1+1) f c∧au W (w.heap.size+1+1+1) i h∧yB w W:=by
 obtain⟨W,rfl,m,n,o,k⟩:=lG w a d b e c f;have j:=ah (((w.alloc (.cells a.toArray d)).alloc (.cells b.toArray e)).alloc (.cells c.toArray f)) h i;have g:=af (((w.alloc (.cells a.toArray d)).alloc (.cells b.toArray e)).alloc (.cells c.toArray f)) (.cells h.toArray i);rw[World.size_alloc,World.size_alloc,World.size_alloc] at j;exact⟨_,rfl,m.l g,n.l g,o.l g,j,aa k g⟩
theorem afy {P:Program}{i w:World}{n b:Nat}{f:TypeId}{q r s:Value}{d:TypeDesc}(h:au w b f [q,r,s])(k:Below n i w)(o:n≤b)(p:P.underlying f=some d)(l:d.isRow=true)(m:(P.info? f).map (·.size)=some 3)(a c e:Value):
  (loadVar f ⟨b,0,none⟩).run P (((w.setCell ⟨b,0,none⟩ a).setCell ⟨b,1,none⟩ c).setCell ⟨b,2,none⟩ e)= .ok (.agg #[a,c,e]) (((w.setCell ⟨b,0,none⟩ a).setCell ⟨b,1,none⟩ c).setCell ⟨b,2,none⟩ e)∧Below n i (((w.setCell ⟨b,0,none⟩ a).setCell ⟨b,1,none⟩ c).setCell ⟨b,2,none⟩ e)∧But b w (((w.setCell ⟨b,0,none⟩ a).setCell ⟨b,1,none⟩ c).setCell ⟨b,2,none⟩ e):=by
 have j:au (((w.setCell ⟨b,0,none⟩ a).setCell ⟨b,1,none⟩ c).setCell ⟨b,2,none⟩ e) b f [a,c,e]:=(((h.set 0 a).set 1 c).set 2 e);have g:=((ag w b 0 a).trans (ag _ b 1 c)).trans (ag _ b 2 e);exact⟨run_loadVar_mid (P:=P) _ b 0 f [a,c,e] _ j.range p l m,g.below k o,g⟩
theorem afA {w:World}{b:Nat}{g:TypeId}{a d e:Value}(h:au w b g [a,d,e]):(w.cell? ⟨b,0,none⟩=some a∧w.cell? ⟨b,1,none⟩=some d∧w.cell? ⟨b,2,none⟩=some e)∧w.frozen? ⟨b,0,none⟩=false∧w.frozen? ⟨b,1,none⟩=false∧w.frozen? ⟨b,2,none⟩=false:=
 ⟨⟨h.c 0 rfl,h.c 1 rfl,h.c 2 rfl⟩,h.f 0,h.f 1,h.f 2⟩
theorem kY {w:World}{b:Nat}{g:TypeId}{f d:List Value}(h:au w b g f)(o n:Nat)(e:(f.drop o).take n=d):w.rangeAt b o d:=fun j v a=>by
 subst e;refine h.c (o+j) ?_;rw[List.getElem?_take] at a
 split at a
 ·rw[List.getElem?_drop] at a
  exact a
 ·cases a
theorem dZ {w w':World}{b g o:Nat}{a:List Value}(d:But b w w')(h:w.rangeAt g o a)(e:g≠b):w'.rangeAt g o a:=fun j v f=>by rw[d.c (by exact e)];exact h j v f
theorem ik.l {w w':World}{g:Nat}{zs:List Nat}(h:ik w g zs)(a:yB w w'):ik w' g zs:=
 ⟨fun i b=>cell_later a (h.c i b),fun i b=>(Eu (a.block g h.lt)).trans (h.f i b),Nat.lt_of_lt_of_le h.lt a.size⟩
theorem ik.drew {w:World}{g:Nat}{zs:List Nat}(h:ik w g zs):ik w.drew g zs:=h.l (Below.refl _ _).drew
def jp (w:World)(base:Nat)(v:Value)(bs:List Bool):Prop:=w.ownsRow base 4 1 v bs.length (bs.map Value.bool)
theorem Tryz.infoB:(Tryz.prog.info? 4).map (fun i=>(i.zero,i.size,i.bytes))=some (some (.bool false),1,1):=by kernel_rfl
theorem jp.l {w w':World}{base:Nat}{v:Value}{c:List Bool}(h:jp w base v c)(e:yB w w'):jp w' base v c:=by
 obtain⟨i,a⟩:=h;refine⟨i, ?_⟩
 rcases a with a| ⟨g,cap,d,j,f,b,r⟩
 ·exact .inl a
 ·refine .inr ⟨g,cap,d,j,f, ?_,r⟩
  rw[e.block g ?_]
  ·exact b
  ·rw[Array.getElem?_eq_some_iff] at b
   exact b.1
theorem len_zero (n:Nat):(((Dg.dg 65536 n).length:Int)==0)=decide (n=0):=by
 have a:=Dg.dg_nil_iff 65536 n (by omega)
 by_cases h:n=0
 ·rw[decide_eq_true h,a.2 h];rfl
 ·rw[decide_eq_false h];simp;exact fun e=>h (a.1 e)
def mL (w:World)(b:Nat)(v0 v1 v2 v3 v4 v5:Value):Prop:=
 b<w.heap.size∧(w.cell? ⟨b,0,none⟩=some v0∧w.cell? ⟨b,1,none⟩=some v1∧w.cell? ⟨b,2,none⟩=some v2∧w.cell? ⟨b,3,none⟩=some v3∧w.cell? ⟨b,4,none⟩=some v4∧w.cell? ⟨b,5,none⟩=some v5)∧
  (w.frozen? ⟨b,0,none⟩=false∧w.frozen? ⟨b,1,none⟩=false∧w.frozen? ⟨b,2,none⟩=false∧w.frozen? ⟨b,3,none⟩=false∧w.frozen? ⟨b,4,none⟩=false∧w.frozen? ⟨b,5,none⟩=false)
theorem mL.l {w w':World}{b:Nat}{d e f g i j:Value}(h:mL w b d e f g i j)(a:yB w w'):mL w' b d e f g i j:=by
 obtain⟨c,⟨k,m,n,o,p,q⟩,r,s,t,u,v,x⟩:=h;refine⟨Nat.lt_of_lt_of_le c a.size,⟨cell_later a k,cell_later a m,cell_later a n,cell_later a o,cell_later a p,cell_later a q⟩, ?_, ?_, ?_, ?_, ?_, ?_⟩
 all_goals rw[a.frozen (by exact c)];assumption
theorem aJ (w:World)(a b c d e f:Value)(g:TypeId):mL (w.alloc (.cells #[a,b,c,d,e,f] g)) w.heap.size a b c d e f:=by
 refine⟨by simp[World.size_alloc],⟨?_, ?_, ?_, ?_, ?_, ?_⟩, ?_, ?_, ?_, ?_, ?_, ?_⟩
 all_goals first| (rw[World.cell?_alloc_at _ _ _ _ rfl];rfl)|simp
theorem bP {w:World}{b:Nat}{g i j l m n:Value}(h:mL w b g i j l m n)(a c d e f o:Value):
  mL ((((((w.setCell ⟨b,0,none⟩ a).setCell ⟨b,1,none⟩ c).setCell ⟨b,2,none⟩ d).setCell ⟨b,3,none⟩ e).setCell ⟨b,4,none⟩ f).setCell ⟨b,5,none⟩ o) b a c d e f o:=by
 obtain⟨C,⟨p,q,r,s,t,u⟩,v,x,y,z,A,B⟩:=h;refine⟨by simpa using C,⟨?_, ?_, ?_, ?_, ?_, ?_⟩,by simpa using v,by simpa using x,by simpa using y,by simpa using z,by simpa using A,by simpa using B⟩
 ·have k:w.cell? ⟨b,0,none⟩=some g:=by exact p
  rw[World.cell?_setCell_other (h:=by simp),World.cell?_setCell_other (h:=by simp),World.cell?_setCell_other (h:=by simp),World.cell?_setCell_other (h:=by simp),World.cell?_setCell_other (h:=by simp)];exact World.cell?_setCell_same _ _ _ k
 ·have k:(w.setCell ⟨b,0,none⟩ a).cell? ⟨b,1,none⟩=some i:=by rw[World.cell?_setCell_other (h:=by simp)];exact q
  rw[World.cell?_setCell_other (h:=by simp),World.cell?_setCell_other (h:=by simp),World.cell?_setCell_other (h:=by simp),World.cell?_setCell_other (h:=by simp)];exact World.cell?_setCell_same _ _ _ k
 ·have k:((w.setCell ⟨b,0,none⟩ a).setCell ⟨b,1,none⟩ c).cell? ⟨b,2,none⟩=some j:=by rw[World.cell?_setCell_other (h:=by simp),World.cell?_setCell_other (h:=by simp)];exact r
  rw[World.cell?_setCell_other (h:=by simp),World.cell?_setCell_other (h:=by simp),World.cell?_setCell_other (h:=by simp)];exact World.cell?_setCell_same _ _ _ k
 ·have k:(((w.setCell ⟨b,0,none⟩ a).setCell ⟨b,1,none⟩ c).setCell ⟨b,2,none⟩ d).cell? ⟨b,3,none⟩=some l:=by rw[World.cell?_setCell_other (h:=by simp),World.cell?_setCell_other (h:=by simp),World.cell?_setCell_other (h:=by simp)];exact s
  rw[World.cell?_setCell_other (h:=by simp),World.cell?_setCell_other (h:=by simp)];exact World.cell?_setCell_same _ _ _ k
 ·have k:((((w.setCell ⟨b,0,none⟩ a).setCell ⟨b,1,none⟩ c).setCell ⟨b,2,none⟩ d).setCell ⟨b,3,none⟩ e).cell? ⟨b,4,none⟩=some m:=by rw[World.cell?_setCell_other (h:=by simp),World.cell?_setCell_other (h:=by simp),World.cell?_setCell_other (h:=by simp),World.cell?_setCell_other (h:=by simp)];exact t
  rw[World.cell?_setCell_other (h:=by simp)];exact World.cell?_setCell_same _ _ _ k
 ·have k:(((((w.setCell ⟨b,0,none⟩ a).setCell ⟨b,1,none⟩ c).setCell ⟨b,2,none⟩ d).setCell ⟨b,3,none⟩ e).setCell ⟨b,4,none⟩ f).cell? ⟨b,5,none⟩=some n:=by rw[World.cell?_setCell_other (h:=by simp),World.cell?_setCell_other (h:=by simp),World.cell?_setCell_other (h:=by simp),World.cell?_setCell_other (h:=by simp),World.cell?_setCell_other (h:=by simp)];exact u
  exact World.cell?_setCell_same _ _ _ k
theorem Own.apart6 {w:World}{base e b:Nat}{k:IntKind}{v:Value}{zs:List Nat}(h:Own w base e k v zs)(a:b<base)(c d f g i j:Value):
  Own ((((((w.setCell ⟨b,0,none⟩ c).setCell ⟨b,1,none⟩ d).setCell ⟨b,2,none⟩ f).setCell ⟨b,3,none⟩ g).setCell ⟨b,4,none⟩ i).setCell ⟨b,5,none⟩ j) base e k v zs:=
 (((((h.apart (bI w b 0 c) a).apart (bI _ b 1 d) a).apart (bI _ b 2 f) a).apart (bI _ b 3 g) a).apart (bI _ b 4 i) a).apart (bI _ b 5 j) a
def jE (w:World)(r:ak×ak×Int)(e:Ending)(w':World):Prop:=
 ∃p q,e= .returned (.tuple #[.agg #[.bool r.1.s,p,yi r.1.e,.bool r.2.1.s,q,yi r.2.1.e],yi r.2.2])∧Own w' w.heap.size 54 .u32 p (Dg.dg 4294967296 r.1.n)∧Own w' w.heap.size 54 .u32 q (Dg.dg 4294967296 r.2.1.n)∧yB w w'
theorem mL.apart3 {w:World}{b c:Nat}{a d e f g i:Value}(h:mL w b a d e f g i)(A:c≠b)(q r s:Value):
  mL (((w.setCell ⟨c,0,none⟩ q).setCell ⟨c,1,none⟩ r).setCell ⟨c,2,none⟩ s) b a d e f g i:=by
 obtain⟨p,⟨t,u,v,x,y,z⟩,j,k,l,m,n,o⟩:=h;refine⟨by simpa using p,⟨?_, ?_, ?_, ?_, ?_, ?_⟩,by simpa using j,by simpa using k,by simpa using l,by simpa using m,by simpa using n,by simpa using o⟩
 all_goals (rw[World.cell?_setCell_other (h:=by simp),World.cell?_setCell_other (h:=by simp),World.cell?_setCell_other (h:=by simp)];assumption)
theorem mL.apart3h {w:World}{b c:Nat}{a d e f g i:Value}(h:mL w b a d e f g i)(A:c≠b)(q r s:Value):
  mL (((w.setCell ⟨c,3,none⟩ q).setCell ⟨c,4,none⟩ r).setCell ⟨c,5,none⟩ s) b a d e f g i:=by
 obtain⟨p,⟨t,u,v,x,y,z⟩,j,k,l,m,n,o⟩:=h;refine⟨by simpa using p,⟨?_, ?_, ?_, ?_, ?_, ?_⟩,by simpa using j,by simpa using k,by simpa using l,by simpa using m,by simpa using n,by simpa using o⟩
 all_goals (rw[World.cell?_setCell_other (h:=by simp),World.cell?_setCell_other (h:=by simp),World.cell?_setCell_other (h:=by simp)];assumption)
theorem Loc.apart3h {w:World}{b c:Nat}{a d e:Value}(h:Loc w b a d e)(_hne:c≠b)(k l m:Value):
  Loc (((w.setCell ⟨c,3,none⟩ k).setCell ⟨c,4,none⟩ l).setCell ⟨c,5,none⟩ m) b a d e:=by
 obtain⟨j,⟨n,o,p⟩,f,g,i⟩:=h;refine⟨by simpa using j,⟨?_, ?_, ?_⟩,by simpa using f,by simpa using g,by simpa using i⟩
 all_goals (rw[World.cell?_setCell_other (h:=by simp),World.cell?_setCell_other (h:=by simp),World.cell?_setCell_other (h:=by simp)];assumption)
theorem abg {w:World}{b:Nat}{v d e f g i:Value}(h:mL w b v d e f g i)(a c j:Value):
  mL (((w.setCell ⟨b,0,none⟩ a).setCell ⟨b,1,none⟩ c).setCell ⟨b,2,none⟩ j) b a c j f g i:=by
 obtain⟨u,⟨l,m,n,x,y,z⟩,o,p,q,r,s,t⟩:=h;refine⟨by simpa using u,⟨?_, ?_, ?_, ?_, ?_, ?_⟩,by simpa using o,by simpa using p,by simpa using q,by simpa using r,by simpa using s,by simpa using t⟩
 ·rw[World.cell?_setCell_other (h:=by simp),World.cell?_setCell_other (h:=by simp)]
  exact World.cell?_setCell_same _ _ _ l
 ·have k:(w.setCell ⟨b,0,none⟩ a).cell? ⟨b,1,none⟩=some d:=by rw[World.cell?_setCell_other (h:=by simp)];exact m
  rw[World.cell?_setCell_other (h:=by simp)];exact World.cell?_setCell_same _ _ _ k
 ·have k:((w.setCell ⟨b,0,none⟩ a).setCell ⟨b,1,none⟩ c).cell? ⟨b,2,none⟩=some e:=by rw[World.cell?_setCell_other (h:=by simp),World.cell?_setCell_other (h:=by simp)];exact n
  exact World.cell?_setCell_same _ _ _ k
 all_goals (rw[World.cell?_setCell_other (h:=by simp),World.cell?_setCell_other (h:=by simp),World.cell?_setCell_other (h:=by simp)];assumption)
theorem Sy {w:World}{b:Nat}{d e f z g i:Value}(h:mL w b d e f z g i)(a c j:Value):
  mL (((w.setCell ⟨b,3,none⟩ a).setCell ⟨b,4,none⟩ c).setCell ⟨b,5,none⟩ j) b d e f a c j:=by
 obtain⟨y,⟨l,m,n,o,p,q⟩,r,s,t,u,v,x⟩:=h;refine⟨by simpa using y,⟨?_, ?_, ?_, ?_, ?_, ?_⟩,by simpa using r,by simpa using s,by simpa using t,by simpa using u,by simpa using v,by simpa using x⟩
 ·rw[World.cell?_setCell_other (h:=by simp),World.cell?_setCell_other (h:=by simp),World.cell?_setCell_other (h:=by simp)];exact l
 ·rw[World.cell?_setCell_other (h:=by simp),World.cell?_setCell_other (h:=by simp),World.cell?_setCell_other (h:=by simp)];exact m
 ·rw[World.cell?_setCell_other (h:=by simp),World.cell?_setCell_other (h:=by simp),World.cell?_setCell_other (h:=by simp)];exact n
 ·rw[World.cell?_setCell_other (h:=by simp),World.cell?_setCell_other (h:=by simp)]
  exact World.cell?_setCell_same _ _ _ o
 ·have k:(w.setCell ⟨b,3,none⟩ a).cell? ⟨b,4,none⟩=some g:=by rw[World.cell?_setCell_other (h:=by simp)];exact p
  rw[World.cell?_setCell_other (h:=by simp)];exact World.cell?_setCell_same _ _ _ k
 ·have k:((w.setCell ⟨b,3,none⟩ a).setCell ⟨b,4,none⟩ c).cell? ⟨b,5,none⟩=some i:=by rw[World.cell?_setCell_other (h:=by simp),World.cell?_setCell_other (h:=by simp)];exact q
  exact World.cell?_setCell_same _ _ _ k
def Yu (wr:World)(p:Nat)(x:Nat→ak)(ao:Nat→Option Addr)(ca:Nat→Nat)(l h:Nat):Prop:=
 mL wr p (.bool (x l).s) (.slice (ao l) (Dg.dg 4294967296 (x l).n).length (ca l)) (yi (x l).e) (.bool (x h).s) (.slice (ao h) (Dg.dg 4294967296 (x h).n).length (ca h)) (yi (x h).e)
def Sz (w:World)(m:Nat)(x:Nat→ak)(ao:Nat→Option Addr)(ca:Nat→Nat)(p:Nat)(iv:Value)(wr:World):Prop:=
 ∃i:Nat,i+1≤m∧iv=yi i∧yB w wr∧Yu wr p x ao ca (loI x i) (hiI x i)∧
  mL wr w.heap.size (.bool false) yN (yi 0) (.bool false) yN (yi 0)
theorem fin6 {P:Program}{l w:World}{n b:Nat}{j:TypeId}{t u v x y z:Value}{d:TypeDesc}(h:au w b j [t,u,v,x,y,z])(o:Below n l w)(r:n≤b)(s:P.underlying j=some d)(p:d.isRow=true)(q:(P.info? j).map (·.size)=some 6)(a c e f g i:Value):
  (loadVar j ⟨b,0,none⟩).run P ((((((w.setCell ⟨b,0,none⟩ a).setCell ⟨b,1,none⟩ c).setCell ⟨b,2,none⟩ e).setCell ⟨b,3,none⟩ f).setCell ⟨b,4,none⟩ g).setCell ⟨b,5,none⟩ i)= .ok (.agg #[a,c,e,f,g,i]) ((((((w.setCell ⟨b,0,none⟩ a).setCell ⟨b,1,none⟩ c).setCell ⟨b,2,none⟩ e).setCell ⟨b,3,none⟩ f).setCell ⟨b,4,none⟩ g).setCell ⟨b,5,none⟩ i)∧Below n l ((((((w.setCell ⟨b,0,none⟩ a).setCell ⟨b,1,none⟩ c).setCell ⟨b,2,none⟩ e).setCell ⟨b,3,none⟩ f).setCell ⟨b,4,none⟩ g).setCell ⟨b,5,none⟩ i)∧But b w ((((((w.setCell ⟨b,0,none⟩ a).setCell ⟨b,1,none⟩ c).setCell ⟨b,2,none⟩ e).setCell ⟨b,3,none⟩ f).setCell ⟨b,4,none⟩ g).setCell ⟨b,5,none⟩ i):=by
 have m:au ((((((w.setCell ⟨b,0,none⟩ a).setCell ⟨b,1,none⟩ c).setCell ⟨b,2,none⟩ e).setCell ⟨b,3,none⟩ f).setCell ⟨b,4,none⟩ g).setCell ⟨b,5,none⟩ i) b j [a,c,e,f,g,i]:=((((((h.set 0 a).set 1 c).set 2 e).set 3 f).set 4 g).set 5 i);have k:=(((((ag w b 0 a).trans (ag _ b 1 c)).trans (ag _ b 2 e)).trans (ag _ b 3 f)).trans (ag _ b 4 g)).trans (ag _ b 5 i);exact⟨run_loadVar_mid (P:=P) _ b 0 j [a,c,e,f,g,i] _ m.range s p q,k.below o r,k⟩
theorem csf6 {w:World}{b:Nat}{k:TypeId}{a d e g i j:Value}(h:au w b k [a,d,e,g,i,j]):(w.cell? ⟨b,0,none⟩=some a∧w.cell? ⟨b,1,none⟩=some d∧w.cell? ⟨b,2,none⟩=some e∧w.cell? ⟨b,3,none⟩=some g∧w.cell? ⟨b,4,none⟩=some i∧w.cell? ⟨b,5,none⟩=some j)∧w.frozen? ⟨b,0,none⟩=false∧w.frozen? ⟨b,1,none⟩=false∧w.frozen? ⟨b,2,none⟩=false∧w.frozen? ⟨b,3,none⟩=false∧w.frozen? ⟨b,4,none⟩=false∧w.frozen? ⟨b,5,none⟩=false:=
 ⟨⟨h.c 0 rfl,h.c 1 rfl,h.c 2 rfl,h.c 3 rfl,h.c 4 rfl,h.c 5 rfl⟩,h.f 0,h.f 1,h.f 2,h.f 3,h.f 4,h.f 5⟩
theorem dscaled_W (g:Bool)(a:Option Addr)(d b:Nat)(e n m:Int)(w:World)(B:IntKind.i64.wrap (e+n)=m):
  yC 99 #[ydV g (.slice a d b) e,yi n] w (yR w (ydV g (.slice a d b) m)):=by
 obtain⟨j,h,q1,q2,p⟩:=iG w (ydL g (.slice a d b) e) 41 (ydL false yN 0) 41;replace h:Hid _:=h
 go_enter func99,ntmps99
 go_upto_region 1 with fail
 rw[h.out];clear h;have s:=q1.c 2 rfl;have l:=ag j w.heap.size 2 (yi m);have o:au (j.setCell ⟨w.heap.size,2,none⟩ (yi m)) w.heap.size 41 (ydL g (.slice a d b) m):=(q1.set 2 (yi m));have t:=q1.c 2 rfl;have v:=q1.f 2;have i:=l.loc q2 (by omega);have k:=l.below p (by omega);clear l
 go_upto_region 2 with fail
 generalize j.setCell ⟨w.heap.size,2,none⟩ (yi m)=x at o i k⊢;clear q1 q2 p s t v;obtain⟨y,z,A⟩:=o.cs3;have hf:=afy (P:=Tryz.prog) i k (by omega) underlying41 rfl (by kernel_rfl) (.bool g) (.slice a d b) (yi m);have q:Hid (_∧_):=⟨hf.1,hf.2.1⟩;obtain⟨⟨F,G,H⟩,C,D,E⟩:=afA i;clear hf o i k
 go_wp2
 obtain⟨u,r⟩:=q.out;exact bodyPost_ret (br results99 rfl u) rfl ⟨rfl,r⟩
theorem t9 {w:World}{k:IntKind}{v:Value}{zs:List Nat}(h:Rd w k v zs){b:Nat}(j:w.heap.size≤b):wF b v zs:=fun f a n c m=>by
 obtain⟨o,cap,rfl,_,_,i⟩:=h;obtain⟨g,p,rfl,l⟩:=i f
 cases m
 have d:=l 0 f
 show g≠b
 intro e;subst e;unfold World.cell? at d;simp only at d;rw[Array.getElem?_eq_none j] at d
 cases d
theorem results_tc {P:Program}{d:Func}{a t:Nat}{g:TypeId}{c:Array Value}{w:World}{b:Nat}{v u:Value}(i:d.results= #[.tmp t,.cell a g])(f:c.getD t undef=u)(e:c.getD a undef= .pointer (some ⟨b,0,none⟩))(h:(loadVar g ⟨b,0,none⟩).run P w= .ok v w):(results d c).run P w= .ok (.tuple #[u,v]) w:=by
 rw[Array.getD_eq_getD_getElem?] at e f;unfold results;simp[i,e,f,asAddr,h]
def V4 (W:World)(base:Nat)(v:Value):Prop:= ∃p,v= .pointer (some ⟨p,0,none⟩)∧base≤p∧Loc W p (.bool false) yN (yi 0)∧ZB W p
def InvR (w:World)(n k tn:Nat)(R:Nat×Nat×Nat)(bb ab:Nat)(pv wv iv:Value)(wr:World):Prop:=
 ∃(f i t s r wg:Nat) (so:Option Addr) (sc:Nat) (ro:Option Addr) (rc:Nat),wv=yi wg∧iv=yi i∧Rd wr .u32 pv (Dg.dg 4294967296 t)∧au wr bb 54 [.int .u32 n]∧
  au wr ab 157 [yT so s sc,yT ro r rc]∧Rd wr .u32 (yT so s sc) (Dg.dg 4294967296 s)∧Rd wr .u32 (yT ro r rc) (Dg.dg 4294967296 r)∧
  au wr w.heap.size 49 [.bool false,yN,yi 0,.bool false,yN,yi 0]∧yB w wr∧w.heap.size<bb∧bb<ab∧Hid (InvN n k tn R f i t s r∧wg=3+3*i)
theorem rd_cell1 {w:World}{q d:Nat}(h:au w q 54 [.int .u32 d]):Rd w .u32 (.slice (some ⟨q,0,none⟩) 1 1) [d]:=⟨_,_,rfl,by simp,by unfold maxLen;simp,fun _=>⟨_,0,rfl,fun i a=>by
 obtain rfl:i=0:=by simpa using a
 exact h.c 0 rfl⟩⟩
theorem CxN.pw_real (u:Rat): ∀k,pwE ⟨u,0⟩ k=⟨rp u k,0⟩
 |0=>rfl
 |k+1=>by
  rw[pwE,pw_real u k];apply ext'<;>simp only[mul,rp]<;>grind
theorem CxN.pw_two (k:Nat):pwE ⟨2,0⟩ k=⟨rp 2 k,0⟩:=pw_real 2 k
theorem CxN.exp_take {l:Nat→Rat}{B:Rat}(g:Has (fun n=>⟨l n,0⟩) ⟨2,0⟩)(c: ∀n,nm ⟨l n,0⟩≤B)(k:Nat)(x:Rat):NrN (er x) (fun n=>rp 2 k*er (x-(k:Rat)*l n) n):=by
 have t:=Has.times c g k;have z: ∀n,nm ⟨x-(k:Rat)*l n,0⟩≤nm ⟨x,0⟩+(k:Rat)*B:=fun n=>by
  have a:=nm_sb ⟨x,0⟩ (sc (k:Rat) ⟨l n,0⟩);have b:=nm_natsc k _ (c n);have e:sb ⟨x,0⟩ (sc (k:Rat) ⟨l n,0⟩)=⟨x-(k:Rat)*l n,0⟩:=by apply ext'<;>simp only[sb,add,sc]<;>grind
  rw[e] at a
  grind
 have s:=(has_shift (fun n=>nm_natsc k _ (c n)) z t).re
 have d:(fun n=>(ez (add (sc (k:Rat) ⟨l n,0⟩) ⟨x-(k:Rat)*l n,0⟩) n).re)=er x:=by
  funext n
  have:add (sc (k:Rat) ⟨l n,0⟩) ⟨x-(k:Rat)*l n,0⟩=⟨x,0⟩:=by apply ext'<;>simp only[add,sc]<;>grind
  rw[this,ez_real]
 have f:(fun n=>(mul (pwE ⟨2,0⟩ k) (ez ⟨x-(k:Rat)*l n,0⟩ n)).re)=fun n=>rp 2 k*er (x-(k:Rat)*l n) n:=by
  funext n
  rw[ez_real,pw_two];simp only[mul]
  grind
 rw[d,f] at s;exact s
theorem er_tm (u:Rat)(n:Nat):er u n=rs (tmS u cExp) n:=by
 unfold er;exact rs_congr fun j _=>tm_exp u j
def fourO (a b p q:ak)(B:Nat):Nat→ak
 |0=>cK a p B
 |1=>cK a q B
 |2=>cK b p B
 |_=>cK b q B
theorem XF (p:Value)(xs:List Nat)(w:World)(s:Rd w .u32 p xs)(o:Dg.Small 4294967296 xs)(G:xs.length≤2):
  yC 78 #[p] w fun z w'=>z= .returned (.int .u64 ((Dg.vl 4294967296 xs:Nat):Int))∧w'=w:=by
 obtain⟨y,A,rfl,-,-,l⟩:=s
 go_enter func78,ntmps78
 go_wp2
 go_loop [3,4] (fun v g=> ∃j x:Nat,j≤xs.length∧g=yi ((j:Int)-1)∧v= .int .u64 (x:Int)∧Hid (x=Dg.vl 4294967296 (xs.drop j))) (fun _ g=>(intOf g+1).toNat)
 case atStart=>exact⟨xs.length,0,Nat.le_refl _,by go_num,rfl,by rw[List.drop_of_length_le (Nat.le_refl _)];rfl⟩
 case round=>
  obtain⟨j,x,F,rfl,rfl,d⟩:=hrel
  by_cases B:0<j
  ·obtain⟨i,rfl⟩: ∃i,j=i+1:=⟨j-1,by omega⟩
   rw[show((i+1:Nat):Int)-1=(i:Int) from by omega]
   obtain⟨b,H,rfl,m⟩:=l (by omega);have t:=m i (by omega);have n:=o i;have f:=d.out;have u:x<4294967296:=by
    have e:=Dg.vl_lt 4294967296 (xs.drop (i+1)) (fun k=>by
     rw[List.getD_eq_getElem?_getD,List.getElem?_drop,←List.getD_eq_getElem?_getD];exact o _)
    rw[←f,List.length_drop] at e;have C:(4294967296:Nat)^ (xs.length-(i+1))≤4294967296^1:=Nat.pow_le_pow_right (by omega) (by omega);omega
   have c:Dg.vl 4294967296 (xs.drop i)=xs.getD i 0+4294967296*x:=by
    rw[f,List.drop_eq_getElem_cons (show i<xs.length by omega),Dg.vl]
    simp[List.getD_eq_getElem?_getD,show i<xs.length by omega]
   obtain⟨a,h⟩: ∃a,xs.getD i 0=a:=⟨_,rfl⟩;rw[h] at t n c;have E:i<xs.length:=by omega
   have r:Hid _:=c;clear h c f m l d
   go_wp2
   have c:=r.out;refine⟨⟨i,a+4294967296*x,by omega,rfl, ?_,c.symm⟩, ?_⟩
   ·rw[TZ x a u n]
   ·simp only[intOf]
    omega
  ·have D: ¬((0:Int)≤(j:Int)-1):=by omega
   have q:Hid (j=0):=(by omega:j=0)
   go_wp2
   go_ret
   have e:=q.out;subst e;have:=d.out;rw[List.drop_zero] at this;rw[←this];exact⟨rfl,rfl⟩
def PwR (w:World)(I:Nat→ak×ak→ak×ak→Prop)(a b x y:ak)(f:Int)(ao bo xo yo:Option Addr)(ac bc xc yc:Nat)(b7 b8 b9:Nat)(kv:Value)(wr:World):Prop:=
 ∃(k j:Nat) (s r h v:ak) (so ro ho vo:Option Addr) (sc rc hc vc:Nat),kv=yi j∧Hid (j=k+1∧I k (s,r) (h,v))∧
  au wr w.heap.size 49 [.bool a.s,yT ao a.n ac,yi a.e,.bool b.s,yT bo b.n bc,yi b.e]∧au wr (w.heap.size+1) 49 [.bool false,yN,yi 0,.bool false,yN,yi 0]∧au wr b7 49 [.bool x.s,yT xo x.n xc,yi f,.bool y.s,yT yo y.n yc,yi y.e]∧au wr b8 49 [.bool s.s,yT so s.n sc,yi s.e,.bool r.s,yT ro r.n rc,yi r.e]∧au wr b9 49 [.bool h.s,yT ho h.n hc,yi h.e,.bool v.s,yT vo v.n vc,yi v.e]∧
  Rd wr .u32 (yT ao a.n ac) (Dg.dg 4294967296 a.n)∧Rd wr .u32 (yT bo b.n bc) (Dg.dg 4294967296 b.n)∧Rd wr .u32 (yT xo x.n xc) (Dg.dg 4294967296 x.n)∧Rd wr .u32 (yT yo y.n yc) (Dg.dg 4294967296 y.n)∧Rd wr .u32 (yT so s.n sc) (Dg.dg 4294967296 s.n)∧Rd wr .u32 (yT ro r.n rc) (Dg.dg 4294967296 r.n)∧Rd wr .u32 (yT ho h.n hc) (Dg.dg 4294967296 h.n)∧Rd wr .u32 (yT vo v.n vc) (Dg.dg 4294967296 v.n)∧yB w wr
end Go.Proofs.YthhiidikgchdeaaGreatDoor
