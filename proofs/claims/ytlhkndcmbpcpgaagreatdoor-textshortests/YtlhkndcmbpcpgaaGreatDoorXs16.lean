/- Texts laid together. -/
import Derived.Test.YtlhkndcmbpcpgaaGreatDoorXs07
import Derived.Test.YtlhkndcmbpcpgaaGreatDoorXs08
import Derived.Test.YtlhkndcmbpcpgaaGreatDoorXs10
import Derived.Test.YtlhkndcmbpcpgaaGreatDoorXs11
import Derived.Test.YtlhkndcmbpcpgaaGreatDoorXs12
set_option maxRecDepth 100000
set_option maxHeartbeats 12800000
namespace Go.Proofs.YtlhkndcmbpcpgaaGreatDoor
open _root_.Go.Proofs.Tryz
open Go.RowKit
theorem kI (b c:Value)(xs a:List Nat)(w:World)(g:Rd w .i64 b xs)(h:Rd w .i64 c a)(l:Dg.Small 65536 xs)(m:Dg.Small 65536 a)(i:xs.length≤2000000)(j:a.length≤xs.length)(k:Dg.vl 65536 a≤Dg.vl 65536 xs):
  yC 100 #[b,c] w (cG w (Dg.vl 65536 xs-Dg.vl 65536 a)):=
 (Lt b c xs a w g h l m i j k).mono fun _ _ ⟨v,d,e,_,f⟩=>⟨v,d,e,f⟩
theorem Tr {zs b:List Nat}{a d k c x:Nat}(h:LI zs b a d k c)(l:k<zs.length)(o:zs.getD k 0=x)(p:x<4294967296)(m:a<4294967296):
  LI zs (b.set k ((c+x*a) % 4294967296)) a d (k+1) ((c+x*a)/4294967296):=by
 obtain⟨f,g,s,i,u⟩:=h;have v:=uf p m;refine⟨by simpa using f,Dg.small_set g _ _ (Nat.mod_lt _ (by omega)),by omega,fun j w=> ?_, ?_⟩
 ·rw[Dg.getD_set _ _ _ _ (by omega),if_neg (by omega)];exact i j (by omega)
 ·rw[sQ _ _ _ (by omega),Dg.vl_take_succ _ _ _ l,o,Nat.add_mul]
  generalize n:c+x*a=t;have e:4294967296^ (k+1)*(t/4294967296)=4294967296^k*(4294967296*(t/4294967296)):=by rw[Nat.pow_succ,Nat.mul_assoc]
  have q:4294967296^k*t=4294967296^k*(t % 4294967296)+4294967296^k*(4294967296*(t/4294967296)):=by rw[←Nat.mul_add,Nat.mod_add_div]
  have r:4294967296^k*t=4294967296^k*c+4294967296^k*x*a:=by rw[←n,Nat.mul_add,Nat.mul_assoc]
  rw[e];omega
theorem Xe {zs a:List Nat}{d j c m:Nat}(h:LI zs a d j zs.length c)(i:zs=Dg.dg 4294967296 m)(s:1≤d)(r:c=0∨0<c):
  (if c=0 then a else a++[c])=Dg.dg 4294967296 (m*d+j):=by
 obtain⟨b,f,k,p,g⟩:=h;rw[List.take_of_length_le (by omega),List.take_of_length_le (Nat.le_refl _)] at g;have l:Dg.vl 4294967296 zs=m:=by rw[i,Dg.vl_dg _ _ (by omega)]
 rw[l] at g
 by_cases e:c=0
 ·subst e
  rw[if_pos rfl];refine Dg.eq_dg 4294967296 (by omega) _ _ f (Dg.norm_of_ge 4294967296 a f (fun n=> ?_)) (by omega)
  have o:zs≠[]:=by intro e;rw[e] at b;exact n (List.eq_nil_of_length_eq_zero b)
  have:=Dg.vl_ge 4294967296 zs o (by rw[i];exact Dg.norm_dg _ _ (by omega));rw[b];have q:m≤m*d:=Nat.le_mul_of_pos_right _ (by omega);omega
 ·rw[if_neg e]
  refine Dg.eq_dg 4294967296 (by omega) _ _ (qP f k) (fun _=> ?_) ?_
  ·simp[List.getD_eq_getElem?_getD];exact e
  ·rw[Dg.vl_append,b]
   simp only[Dg.vl,Nat.mul_zero,Nat.add_zero];omega
theorem Ts {a wr c:World}{e x:Nat}{k:IntKind}{b:List Nat}{d f:Value}(g:yB a wr)(j:Own wr a.heap.size e k d b)
  (i:c.ownsRow a.heap.size e 1 f (b.length+1) ((b.map (fun n:Nat=>Value.int k (n:Int)))++[.int k x]))
  (h:(wr.alloc (.cells #[.int k x] e)).grownBy c d.ownBlock):
  Own c a.heap.size e k f (b++[x])∧yB a c:=iW g j i h
theorem Xf (I:Value)(m b j:Nat)(i w:World)(q:Own w i.heap.size 105 .u32 I (Dg.dg 4294967296 m))(y:yB i w)(W:1≤b)(C:b<4294967296)(U:j<4294967296)(S:(Dg.dg 4294967296 m).length≤1000000):
  yC 168 #[I,.int .u32 b,.int .u32 j] w fun e w'=> ∃v,e= .returned v∧Own w' i.heap.size 105 .u32 v (Dg.dg 4294967296 (m*b+j))∧yB i w':=by
 obtain⟨i0,P,Y,Z,a0⟩:=info_parts Tryz.infoU32;obtain⟨zs,o⟩: ∃zs,Dg.dg 4294967296 m=zs:=⟨_,rfl⟩;have D:Dg.Small 4294967296 zs:=by rw[←o];exact Dg.small_dg _ _ (by omega)
 rw[o] at q S;have HZ:Hid _:=o.symm;have a:=fun d c (h:LI zs d b j zs.length c)=>Xe h o.symm W (by omega)
 have K:Hid _:=a;clear o a;obtain⟨L,M,rfl⟩:=q.rd.shape
 go_enter func168,ntmps168
 go_wp2
 go_loopw [7,14] (fun N t wr=> ∃(k c:Nat) (d:List Nat),k≤zs.length∧t=yi k∧N= .int .u64 c∧Own wr i.heap.size 105 .u32 (.slice L zs.length M) d∧LI zs d b j k c∧yB i wr) (fun _ t _=>zs.length-(intOf t).toNat)
 case atStart=>exact⟨0,j,zs,Nat.zero_le _,rfl,rfl,q,⟨rfl,D,U,fun _ _=>rfl,by simp[Dg.vl]⟩,y⟩
 case round=>
  clear q y;obtain⟨k,c,d,hk,rfl,rfl,own,l,p⟩:=hrel;have n:=l.1;have a2:=l.2.2.1
  by_cases T:k<zs.length
  ·obtain⟨g,cap,F,O,a5⟩:=own.shapeOf (by intro e;rw[e] at n;simp at n;omega)
   simp only[Value.slice.injEq] at F;obtain⟨rfl,-,rfl⟩:=F;have G:=own.c k (by omega);have hf:=own.f k;rw[l.2.2.2.1 k (Nat.le_refl _)] at G;have s:=D k;obtain⟨x,r⟩: ∃x,zs.getD k 0=x:=⟨_,rfl⟩;rw[r] at G s;have X:=Tr l T r s C;have a6:=uf s C;have a8:(x:Int)*(b:Int)≤18446744065119617025:=by rw[←Int.natCast_mul];omega
   have a7:0≤(x:Int)*(b:Int):=by rw[←Int.natCast_mul];omega
   clear r n
   go_wp2
   go_roundw
   case rel=>
    rw[Sd,Se];exact⟨k+1,_,_,by omega,by go_num,rfl,own.store k _,X,p.setCell O _⟩
   case measure=>simp[intOf];omega
  ·have Q:k=zs.length:=by omega
   subst Q;have a:=K.out d c l;have a4:d.length≤1000000:=by omega
   have a1:=p.size
   by_cases z:c=0
   ·subst z
    rw[if_pos rfl] at a;have H:=own;rw[a] at H;clear a n
    go_wp2
    go_ret
    exact⟨_,rfl,H,p⟩
   ·rw[if_neg z] at a
    have J:Hid _:=a;have a3:(0:Int)< (c:Int):=by omega
    clear a n
    go_wp2_with (at_builtin;refine wpList_append_own _ rfl _ _ 47 rfl i.heap.size 105 i0 (.int .u32 0) 1 4 underlying47 P Y Z a0 rfl (by decide) _ _ _ rfl (World.ownsRow.alloc own _) ⟨wr.heap.size,0,none⟩ 1 1 [.int .u32 c] rfl rfl ?c1 ?c2 ?c3 ?c4 ?c5 ?_)
    case c1=>exact cell_one_new _ _ _
    case c2=>intro u E;simp at E;subst E;rfl
    case c3=>unfold maxLen;omega
    case c4=>omega
    case c5=>simp;omega
    intro v w3 B A _;have R:=Ts p own B A;clear B A own;rw[J.out] at R
    go_wp2
    go_ret
    exact⟨_,rfl,R.1,R.2⟩
theorem gcheck2_any_mg:
  (∀(D L G:Int) (gr:Bool) (w:World),
  yC 116 #[ygV 2 D L G gr] w (yR w (yi (bk 2 D L G))))∧
  (∀(D L G:Int) (gr:Bool) (w:World),
  yC 116 #[ygV 16 D L G gr] w (yR w (yi (bk 16 D L G)))):=by
 refine⟨?_, ?_⟩;have _z:Mgk 0:=mgkI 0
 all_goals
  intro D L G gr w
  first| (rename Mgk 0=>_z;have e:=af w (.cells (ygA 2 D L G gr) 54))| (have e:=af w (.cells (ygA 16 D L G gr) 54))
  first| (rename Mgk 0=>_z;have k:=ah w (ygL 2 D L G gr) 54)| (have k:=ah w (ygL 16 D L G gr) 54)
  have u:=k.c 1 rfl;have v:=k.c 2 rfl;have x:=k.c 3 rfl
  first| (rename Mgk 0=>_z;obtain⟨C,f⟩: ∃C,bk 2 D L G=C:=⟨_,rfl⟩)| (obtain⟨C,f⟩: ∃C,bk 16 D L G=C:=⟨_,rfl⟩)
  first| (rename Mgk 0=>_z;have d:Hid (D<1∨120<D∨eJ 17000 L=true∨eJ 17000 G=true∨G<L→3=C):=fun h=>by rw[←f];exact(zp (R:=2) (by omega) h).symm)| (have d:Hid (D<1∨120<D∨eJ 4000 L=true∨eJ 4000 G=true∨G<L→3=C):=fun h=>by rw[←f];exact(zp (R:=16) (by omega) h).symm)
  first| (rename Mgk 0=>_z;have j:Hid (¬(D<1∨120<D∨eJ 17000 L=true∨eJ 17000 G=true∨G<L)→0=C):=fun h=>by rw[←f];exact(Bm (R:=2) (by omega) h).symm)| (have j:Hid (¬(D<1∨120<D∨eJ 4000 L=true∨eJ 4000 G=true∨G<L)→0=C):=fun h=>by rw[←f];exact(Bm (R:=16) (by omega) h).symm)
  rw[f]
  first| (rename Mgk 0=>_z;have g:Hid (∀a,yC 117 #[yi L,yi 17000] a fun z w'=>z= .returned (.bool (eJ 17000 L))∧w'=a):=fun a=>nK L 17000 a (by omega) (by omega))| (have g:Hid (∀a,yC 117 #[yi L,yi 4000] a fun z w'=>z= .returned (.bool (eJ 4000 L))∧w'=a):=fun a=>nK L 4000 a (by omega) (by omega))
  first| (rename Mgk 0=>_z;have i:Hid (∀a,yC 117 #[yi G,yi 17000] a fun z w'=>z= .returned (.bool (eJ 17000 G))∧w'=a):=fun a=>nK G 17000 a (by omega) (by omega))| (have i:Hid (∀a,yC 117 #[yi G,yi 4000] a fun z w'=>z= .returned (.bool (eJ 4000 G))∧w'=a):=fun a=>nK G 4000 a (by omega) (by omega))
  first| (rename Mgk 0=>_z;obtain⟨p,m⟩: ∃b,eJ 17000 L=b:=⟨_,rfl⟩)| (obtain⟨p,m⟩: ∃b,eJ 4000 L=b:=⟨_,rfl⟩)
  first| (rename Mgk 0=>_z;obtain⟨o,l⟩: ∃b,eJ 17000 G=b:=⟨_,rfl⟩)| (obtain⟨o,l⟩: ∃b,eJ 4000 G=b:=⟨_,rfl⟩)
  rw[m] at g d j;rw[l] at i d j;clear f m l
  by_cases q:D<1
  ·obtain rfl:=d.out (.inl q)
   go_enter func116,ntmps116
   go_wp2
   go_ret
   exact⟨rfl,e⟩
  ·by_cases r:120<D
   ·obtain rfl:=d.out (.inr (.inl r))
    go_enter func116,ntmps116
    go_wp2
    go_ret
    exact⟨rfl,e⟩
   ·cases p
    ·cases o
     ·by_cases s:G<L
      ·obtain rfl:=d.out (.inr (.inr (.inr (.inr s))))
       go_enter func116,ntmps116
       go_wp2_with fail
       refine(g.out _).mono ?_;rintro z n ⟨rfl,rfl⟩
       go_wp2_with fail
       refine(i.out _).mono ?_;rintro z t ⟨rfl,rfl⟩
       go_wp2
       go_ret
       exact⟨rfl,e⟩
      ·obtain rfl:=j.out (by simp[q,r,s])
       go_enter func116,ntmps116
       go_wp2_with fail
       refine(g.out _).mono ?_;rintro z n ⟨rfl,rfl⟩
       go_wp2_with fail
       refine(i.out _).mono ?_;rintro z t ⟨rfl,rfl⟩
       go_wp2
       go_ret
       exact⟨rfl,e⟩
     ·obtain rfl:=d.out (.inr (.inr (.inr (.inl rfl))))
      go_enter func116,ntmps116
      go_wp2_with fail
      refine(g.out _).mono ?_;rintro z n ⟨rfl,rfl⟩
      go_wp2_with fail
      refine(i.out _).mono ?_;rintro z t ⟨rfl,rfl⟩
      go_wp2
      go_ret
      exact⟨rfl,e⟩
    ·obtain rfl:=d.out (.inr (.inr (.inl rfl)))
     go_enter func116,ntmps116
     go_wp2_with fail
     refine(g.out _).mono ?_;rintro z n ⟨rfl,rfl⟩
     go_wp2
     go_ret
     exact⟨rfl,e⟩
theorem Tj (va K:Value)(xs o:List Nat)(w:World)(ha:Rd w .i64 va xs)(hb:Rd w .i64 K o)(sa:Dg.Small 65536 xs)(X:Dg.Small 65536 o)(nb:Dg.Norm o)(ej:xs.length≤900000)(ek:o.length≤900000)(ap:2≤o.length):
  yC 59 #[va,K] w fun e w'=> ∃vq vr,e= .returned (.tuple #[vq,vr])∧Rd w' .i64 vq (Dg.dg 65536 (Dg.vl 65536 xs/Dg.vl 65536 o))∧Rd w' .i64 vr (Dg.dg 65536 (Dg.vl 65536 xs % Dg.vl 65536 o))∧yB w w':=by
 obtain⟨i0,hi,co,cp,cs⟩:=info_parts Tryz.infoI64;have db:o≠[]:=by intro e;rw[e] at ap;simp at ap
 have a7:0<Dg.vl 65536 o:=Nat.pos_of_ne_zero (Dg.vl_ne_zero 65536 (by omega) o db nb);have HB:Hid (Rd w .i64 K o):=hb;have a8:Hid (∀v u x y s,Rd s .i64 v (Dg.dg 65536 x)→Rd s .i64 u (Dg.dg 65536 y)→yC 23 #[v,u] s (yR s (yi (dm x y)))):=fun v u x y s r q=>by
  have:=fm v u _ _ s r q (Dg.small_dg _ _ (by omega)) (Dg.small_dg _ _ (by omega)) (Dg.norm_dg _ _ (by omega)) (Dg.norm_dg _ _ (by omega))
  rwa [Dg.vl_dg _ _ (by omega),Dg.vl_dg _ _ (by omega)] at this
 have c0:=Dg.eq_dg 65536 (by omega) o _ X nb rfl;have ba:Hid (∀v x s,yB w s→Rd s .i64 v (Dg.dg 65536 x)→yC 23 #[v,K] s (yR s (yi (dm x (Dg.vl 65536 o))))):=fun v x s b r=>
  a8.out v K x _ s r (by rw[←c0];exact hb.l b)
 have bi:Hid (∀v d s,d<65536→yB w s→Rd s .i64 v (Dg.dg 65536 d)→yC 52 #[K,v] s (cG s (Dg.vl 65536 o*d))):=fun v d s hd b r=>by
  have hl:(Dg.dg 65536 d).length≤1:=Dg.dg_len_le 65536 d 1 (by omega) (by omega);have:=fN K v o _ s (hb.l b) r X (Dg.small_dg _ _ (by omega)) (by omega) (by omega)
  rwa [Dg.vl_dg _ _ (by omega)] at this
 have d2:Hid (∀v u x y s,(Dg.dg 65536 x).length≤1000000→y≤x→Rd s .i64 v (Dg.dg 65536 x)→Rd s .i64 u (Dg.dg 65536 y)→yC 100 #[v,u] s (Si s (x-y))):=fun v u x y s hl cn r q=>by
  have h5:=Dg.vl_lt 65536 _ (Dg.small_dg 65536 x (by omega));rw[Dg.vl_dg _ _ (by omega)] at h5;have:=Lt v u _ _ s r q (Dg.small_dg _ _ (by omega)) (Dg.small_dg _ _ (by omega)) (by omega) (Dg.dg_len_le 65536 y _ (by omega) (Nat.lt_of_le_of_lt cn h5)) (by rw[Dg.vl_dg _ _ (by omega),Dg.vl_dg _ _ (by omega)];exact cn)
  rwa [Dg.vl_dg _ _ (by omega),Dg.vl_dg _ _ (by omega)] at this
 clear c0;obtain⟨ao,ca,rfl,-,-,dc⟩:=ha;obtain⟨bo,cb,rfl,-,-,eb⟩:=hb;have eh:((o.length:Int)==1)=false:=by simp;omega
 go_enter func59,ntmps59
 go_wp2_with (at_make;refine wpList_make_full _ rfl _ _ 26 rfl w.heap.size 3 i0 (yi 0) 1 underlying26 hi co cp _ _ _ _ xs.length rfl rfl (by omega) (by omega) ?C ?b3 (Nat.le_refl _) ?_)
 case C=>rw[cs];omega
 case b3=>unfold maxLen;omega
 intro w0 cc c6;have ct:=gL cc;have bm:yB w w0:=(Below.refl _ _).grown c6 (Nat.le_refl _) (fun k h=>by cases h)
 clear cc c6
 go_wp2
 go_loopw [10,11] (fun rv iv wr=> ∃(k R:Nat) (E:List Nat),k≤xs.length∧iv=yi ((k:Int)-1)∧aeu w xs (Dg.vl 65536 o) k R E rv wr)
  (fun _ iv _=>(intOf iv+1).toNat)
 case atStart=>exact⟨xs.length,0,_,Nat.le_refl _,rfl,ct,(aQ _ 0 0 .i64).rd,NF xs _ a7,bm⟩
 case round=>
  clear ct bm;obtain⟨k,R,E,hk,rfl,own,hR,F,t⟩:=hrel
  by_cases dt:k=0
  ·subst dt
   obtain⟨e1,e2⟩:=Vo F;have dd:E.length≤1000000:=by have:=F.1;omega
   have dn:=F.2.1;have cx:Hid (Dg.vl 65536 xs/Dg.vl 65536 o=Dg.vl 65536 E):=e1;have cy:Hid (Dg.vl 65536 xs % Dg.vl 65536 o=R):=e2;clear e1 e2 F
   go_wp2_with fail
   refine(i9 _ _ _ E _ own.rd).mono ?_;rintro e w' ⟨m,rfl,hm,rfl⟩;have rq:=xh own dn hm (by omega)
   go_wp2
   go_ret2
   exact⟨_,_,rfl,by rw[cx.out];exact rq,by rw[cy.out];exact hR,t⟩
  ·obtain⟨m,rfl⟩: ∃m,k=m+1:=⟨k-1,by omega⟩
   obtain⟨ab,e9,rfl,c3⟩:=dc (by omega);have hx:=cell_later t (c3 m (by omega));have ax:=sa m;obtain⟨N,hN⟩: ∃N,N=xs.getD m 0+65536*R:=⟨_,rfl⟩;obtain⟨bw,ck⟩:=Vn F (by omega) hN a7 ax;have cl:=fun h:N<Dg.vl 65536 o=>QV F (by omega) hN h
   have bx:=F.2.2.2.1;have dd:=F.1;obtain⟨x,ex⟩: ∃x,xs.getD m 0=x:=⟨_,rfl⟩;rw[ex] at hx ax hN;have a1:yB wr (wr.alloc (.cells #[yi (x:Int)] 3)):=(Below.refl _ _).alloc (Nat.le_refl _) _;have cv:=aaD wr wr.heap.size 3 x (Nat.le_refl _);have da:(Dg.dg 65536 R).length≤o.length:=Dg.dg_len_le 65536 R o.length (by omega) (Nat.lt_trans bx (Dg.vl_lt 65536 o X));obtain⟨v1,s,ci,ay,gr⟩:=Ho (P:=Tryz.prog) 26 26 i0 8 underlying26 hi co cp cs (Nat.le_refl _) cv (hR.l a1) (by simp only[List.length_cons,List.length_nil];omega) (by simp);have b1:yB wr s:=a1.grown gr a1.size (fun k hk=>by cases hk;exact Nat.le_refl _)
   have cj:Dg.Small 65536 ([x]++Dg.dg 65536 R):=Dg.small_cons.2 ⟨ax,Dg.small_dg _ _ (by omega)⟩;have cm:Dg.vl 65536 ([x]++Dg.dg 65536 R)=N:=by rw[List.singleton_append];simp only[Dg.vl];rw[Dg.vl_dg _ _ (by omega),hN]
   obtain⟨g1,c1,rfl,-,-⟩:=World.ownsRow.form ay (by simp);have B:=ay.rd;have ei:([x]++Dg.dg 65536 R).length≤1000000:=by simp only[List.length_append,List.length_cons,List.length_nil];omega
   have own:=own.l b1;have t:=aa t b1;have d3:Hid (BI xs (E.set m (N/Dg.vl 65536 o)) (Dg.vl 65536 o) m (N % Dg.vl 65536 o)):=ck;have d4:Hid (N<Dg.vl 65536 o→BI xs E (Dg.vl 65536 o) m N):=cl;have bg:Hid (N<65536*Dg.vl 65536 o):=bw;have bl:Hid (Dg.vl 65536 ([x]++Dg.dg 65536 R)=N):=cm;have bh:Hid (Dg.Small 65536 ([x]++Dg.dg 65536 R)):=cj;clear ck cl bw cm cj ay gr a1 cv hR F ex hN c3 bx da b1
   go_wp2_with (at_builtin;refine kq (by rfl) _ _ 26 (by rfl) _ _ _ s (by rfl) (by rfl) ci ?_)
   go_wp2_with fail
   refine(i9 _ _ _ _ _ B).mono ?_;rintro e w' ⟨S,rfl,aw,rfl⟩;have el:=aw.1;have U:=uE (cap':=S) 65536 (by omega) B bh.out aw (Nat.le_refl _) (by unfold maxLen;omega);rw[bl.out] at U;clear aw B bh bl ci;have ac:Hid (S=(Dg.dg 65536 N).length):=wn U
   by_cases dy:N<Dg.vl 65536 o
   ·have d7:=d4.out dy
    go_wp2_with fail
    refine(ba.out _ N _ t U).mono ?_;rintro e w2 ⟨rfl,C⟩;rw[gX (by omega)];have own:=own.l C;have B:=U.l C;have t:=aa t C
    go_wp2
    go_roundw
    case rel=>exact⟨m,N,E,by omega,by go_num,own,B,d7,t⟩
    case measure=>simp[intOf]
   ·have hd:=Ti (a:=(N:Int)) (b:=(Dg.vl 65536 o:Int)) (by omega)
    obtain⟨cr,ar⟩: ∃cr,dm (N:Int) (Dg.vl 65536 o:Int)=cr:=⟨_,rfl⟩;rw[ar] at hd;have bc:Hid (dm (N:Int) (Dg.vl 65536 o:Int)=cr):=ar;clear ar
    go_wp2_with fail
    refine(ba.out _ N _ t U).mono ?_;rintro e w2 ⟨rfl,C⟩;rw[bc.out];have own:=own.l C;have B:=U.l C;have t:=aa t C;obtain⟨-,-,c2⟩:=iQ (HB.out.l t);obtain⟨bb,ea,rfl,aq⟩:=c2 (by omega);have e1:=aq (o.length-1) (by omega);have e0:=aq (o.length-2) (by omega);have dq:=X (o.length-1);have dp:=X (o.length-2);obtain⟨A,al⟩: ∃A,o.getD (o.length-1) 0=A:=⟨_,rfl⟩;obtain⟨z,ae⟩: ∃z,o.getD (o.length-2) 0=z:=⟨_,rfl⟩;have c7:=Zu (Dg.dg 65536 N) o o.length N (Dg.vl 65536 o) (sJ (Dg.dg 65536 N) o.length 3) (A*65536+z) ap rfl (Dg.small_dg _ _ (by omega)) nb (Dg.vl_dg _ _ (by omega)) rfl (Dg.dg_len_le 65536 N _ (by omega) (by
     have h5:=Dg.vl_lt 65536 o X;have h6:=bg.out;rw[Nat.pow_succ];omega)) bg.out (by simp[sJ]) (by rw[al,ae])
    rw[al] at e1 dq;rw[ae] at e0 dp;have en:((o.length:Int)-1)=((o.length-1:Nat):Int):=by omega
    have eo:((o.length:Int)-2)=((o.length-2:Nat):Int):=by omega
    have ef:((o.length-1:Nat):Int)< (o.length:Int):=by omega
    have eg:((o.length-2:Nat):Int)< (o.length:Int):=by omega
    have a4:Hid _:=c7;clear c7 al ae aq c2 bc
    go_wp2
    go_quiet (fail)
    go_wp2
    have bq:yB w2 (w2.drewN nq):=aL (Below.refl _ _) nq;have own:=own.l bq;have B:=B.l bq;have t:=aa t bq;obtain⟨W3,a6⟩: ∃W3,w2.drewN nq=W3:=⟨_,rfl⟩;rw[a6] at own B t;have e8:Hid (w2.drewN nq=W3):=a6;rw[a6];clear a6 bq C
    go_loopw [12,14] (fun tv jv wq=>wq=W3∧ ∃j:Nat,j≤3∧jv=yi j∧tv=yi (sJ (Dg.dg 65536 N) o.length j)) (fun _ jv _=>3-(intOf jv).toNat)
    case atStart=>exact⟨rfl,0,by omega,rfl,rfl⟩
    case round=>
     obtain⟨e5,j,hj,rfl,rfl⟩:=hrel;subst e5;have hT:=Wm (Dg.small_dg 65536 N (by omega)) o.length j;have an:j<3→sJ (Dg.dg 65536 N) o.length j<4294967296:=fun h=>Nat.lt_of_lt_of_le hT (Nat.pow_le_pow_right (n:=65536) (by omega) (show j≤2 by omega))
     have a3:sJ (Dg.dg 65536 N) o.length (j+1)=65536*sJ (Dg.dg 65536 N) o.length j+(Dg.dg 65536 N).getD (o.length-j) 0:=rfl;have bv:=Dg.small_dg 65536 N (by omega) (o.length-j);have L: ¬o.length-j<S→(Dg.dg 65536 N).getD (o.length-j) 0=0:=fun h=>Dg.getD_of_le _ _ (by rw[←ac.out];omega)
     have M:o.length-j<S→wr.cell? ⟨g1,o.length-j,none⟩=some (yi (((Dg.dg 65536 N).getD (o.length-j) 0:Nat):Int)):=fun h=>Wo B _ (by rw[←ac.out];exact h)
     by_cases c9:j<3
     ·have a5:=an c9
      obtain⟨T,a2⟩: ∃T,sJ (Dg.dg 65536 N) o.length j=T:=⟨_,rfl⟩;obtain⟨D,bu⟩: ∃D,(Dg.dg 65536 N).getD (o.length-j) 0=D:=⟨_,rfl⟩;rw[a2] at a3 a5⊢;rw[bu] at a3 bv L M;obtain⟨i,c8⟩: ∃i,o.length-j=i:=⟨_,rfl⟩;have hiI:((o.length:Int)-(j:Int))=(i:Int):=by omega
      rw[c8] at L M;have bj:Hid (sJ (Dg.dg 65536 N) o.length (j+1)=65536*T+D):=a3;clear hT an a3 a2 bu c8
      by_cases bz:i<S
      ·have M:=M bz
       clear L
       go_wp2
       go_roundw
       case rel=>exact⟨trivial,j+1,by omega,by go_num,by rw[bj.out];go_num⟩
       case measure=>simp[intOf];omega
      ·have hD:=L bz
       subst hD;clear M L
       go_wp2
       go_roundw
       case rel=>exact⟨trivial,j+1,by omega,by go_num,by rw[bj.out];go_num⟩
       case measure=>simp[intOf];omega
     ·have ds:j=3:=by omega
      subst ds;clear an a3 bv L M hj c9;have a5:sJ (Dg.dg 65536 N) o.length 3<281474976710656:=Nat.lt_of_lt_of_le hT (by decide);clear hT;obtain⟨T,a2⟩: ∃T,sJ (Dg.dg 65536 N) o.length 3=T:=⟨_,rfl⟩;rw[a2] at a4 a5⊢;clear a2;have cd:(T:Int).tdiv ((A:Int)*65536+(z:Int)+1)=((T/(A*65536+z+1):Nat):Int):=by
       rw[Int.tdiv_eq_ediv_of_nonneg (by omega)];exact(Int.natCast_ediv T (A*65536+z+1)).symm
      have ce:(T:Int)/((A:Int)*65536+(z:Int)+1)=((T/(A*65536+z+1):Nat):Int):=(Int.natCast_ediv T (A*65536+z+1)).symm;have ch:T/(A*65536+z+1)≤T:=Nat.div_le_self _ _;obtain⟨q,cg⟩: ∃q,T/(A*65536+z+1)=q:=⟨_,rfl⟩;rw[cg] at a4 cd ce ch;have e3:(((A:Int)*65536+(z:Int)+1)==0)=false:=by simp;omega
      clear cg
      go_wp2
      obtain⟨D,hD⟩: ∃D:Nat,min (65535:Int) (max 0 ((q:Int)-1)+4)=(D:Int):=⟨(min (65535:Int) (max 0 ((q:Int)-1)+4)).toNat,by omega⟩;have a9:Hid (N/Dg.vl 65536 o≤D∧D≤65535):=⟨by have:=a4.out;omega,by omega⟩;have bd:Hid (min (65535:Int) (max 0 ((q:Int)-1)+4)=(D:Int)):=hD;clear hD a4 cd ce ch e3 a5;obtain⟨W5,rfl⟩: ∃W5,W5=wr:=⟨_,rfl⟩
      go_loopw [10,17] (fun rv dv wq=>aev W5 g1 S (N/Dg.vl 65536 o) rv dv wq) (fun _ dv _=>(intOf dv).toNat)
      case atStart=>exact⟨rfl,D,a9.out.1,a9.out.2,by rw[bd.out],Below.refl _ _⟩
      case round=>
       obtain⟨rfl,d,c5,ee,rfl,b5⟩:=hrel;have az:=own.l b5;have r5:=B.l b5;have ad:=aa t b5;have d9:(Dg.dg 65536 N).length≤1000000:=by rw[←ac.out];omega
       clear a9 bd
       by_cases Q:Dg.vl 65536 o*d≤N
       ·have c4:=NG c5 Q a7
        have dl:=Wn (a:=((Dg.vl 65536 o*d:Nat):Int)) (b:=(N:Int)) (Int.ofNat_le.2 Q);obtain⟨cz,O⟩: ∃cz,dm ((Dg.vl 65536 o*d:Nat):Int) (N:Int)=cz:=⟨_,rfl⟩;rw[O] at dl;have Y:Hid (dm ((Dg.vl 65536 o*d:Nat):Int) (N:Int)=cz):=O;have bf:Hid (Dg.vl 65536 o*d≤N):=Q;have be:Hid (d=N/Dg.vl 65536 o):=c4;clear O Q c4
        go_wp2_with fail
        refine(Bj d _ (by omega)).mono ?_;rintro e w6 ⟨v6,rfl,r6,I⟩;have a0:=aa ad I
        go_wp2_with fail
        refine(bi.out _ d _ (by omega) a0 r6).mono ?_;rintro e w7 ⟨v7,rfl,H,Z⟩;have G:=aa I Z;have bn:=aa ad G;have W:=r5.l G;clear a0 r6 I Z
        go_wp2_with fail
        refine(a8.out _ _ _ _ _ H W).mono ?_;rintro e w8 ⟨rfl,J⟩;rw[Y.out];have H:=H.l J;have cw:=W.l J;have bp:=aa bn J;have b0:=(az.l G).l J;clear W bn G Y az
        go_wp2_with fail
        refine(d2.out _ _ _ _ _ d9 bf.out cw H).mono ?_;rintro e w9 ⟨v9,rfl,r9,f9,b9⟩;have b4:=b0.l b9;have bt:=aa bp b9;have em:=b4.c m (by omega);have ed:=b4.f m;have e4:w.heap.size<w8.heap.size:=by have:=b0.block;omega
        have e6:=b4.store m d;have e7:=r9.set_far (g:=w.heap.size) (j:=m) f9 e4 (yi (d:Int));have d6:=bt.setCell (p:=⟨w.heap.size,m,none⟩) (Nat.le_refl _) (yi (d:Int));have HN:Hid (N-Dg.vl 65536 o*d=N % Dg.vl 65536 o):=by
         rw[be.out];have:=Nat.div_add_mod N (Dg.vl 65536 o);unfold Hid;omega
        clear cw H bp b0 J b9 bf f9 r9 bt
        go_wp2
        go_roundw
        case rel=>exact⟨m,N % Dg.vl 65536 o,E.set m (N/Dg.vl 65536 o),by omega,by go_num,by rw[←be.out];exact e6,by rw[←HN.out];exact e7,d3.out,d6⟩
        case measure=>simp[intOf]
       ·have av:=QW c5 Q a7
        have O:=sO (a:=((Dg.vl 65536 o*d:Nat):Int)) (b:=(N:Int)) (by omega);have Y:Hid (dm ((Dg.vl 65536 o*d:Nat):Int) (N:Int)=1):=O;have HG:Hid (N/Dg.vl 65536 o≤d-1):=Nat.le_sub_of_add_le av;have ec:0<d:=Nat.lt_of_lt_of_le (Nat.succ_pos _) av;clear O Q av
        go_wp2_with fail
        refine(Bj d _ (by omega)).mono ?_;rintro e w6 ⟨v6,rfl,r6,I⟩;have a0:=aa ad I
        go_wp2_with fail
        refine(bi.out _ d _ (by omega) a0 r6).mono ?_;rintro e w7 ⟨v7,rfl,H,Z⟩;have G:=aa I Z;have W:=r5.l G;clear a0 r6 I Z
        go_wp2_with fail
        refine(a8.out _ _ _ _ _ H W).mono ?_;rintro e w8 ⟨rfl,J⟩;rw[Y.out];have d5:=aa (aa b5 G) J;clear W G Y az H
        go_wp2
        go_roundw
        case rel=>
         refine⟨_,_,_,_,_,_,_,_,_,_,_,_,_,_,_,_,_,_,_,_,⟨rfl,d-1,HG.out,by omega, ?_,d5⟩,rfl⟩
         go_num
        case measure=>simp[intOf];omega
theorem qM (c e:Value)(a b:Nat)(w:World)(f:Rd w .i64 c (Dg.dg 65536 a))(g:Rd w .i64 e (Dg.dg 65536 b))(n:(Dg.dg 65536 a).length≤900000)(o:(Dg.dg 65536 b).length≤900000)(l:0<b):
  yC 59 #[c,e] w (JI w (a/b) (a % b)):=by
 have p: ¬(Dg.dg 65536 b).length=0:=by rw[List.length_eq_zero_iff,Dg.dg_nil_iff _ _ (by omega)];omega
 by_cases k:(Dg.dg 65536 b).length=1
 ·obtain⟨d,h⟩: ∃d,Dg.dg 65536 b=[d]:=List.length_eq_one_iff.1 k
  have i:=Dg.small_dg 65536 b (by omega);have j:=Dg.vl_dg 65536 b (by omega);rw[h] at i j;have m:d=b:=by simpa[Dg.vl] using j
  subst m;have:=IU c _ e d w f (by rw[←h];exact g) (Dg.small_dg _ _ (by omega)) (by omega) l (Dg.small_cons.1 i).1;rw[Dg.vl_dg _ _ (by omega)] at this;exact this
 ·have:=Tj c e _ _ w f g (Dg.small_dg _ _ (by omega)) (Dg.small_dg _ _ (by omega)) (Dg.norm_dg _ _ (by omega)) n o (by omega)
  rw[Dg.vl_dg _ _ (by omega),Dg.vl_dg _ _ (by omega)] at this;exact this
theorem L6 (R D L G sz b c f:Int)(gr:Bool)(F:Nat)(w:World)(j:f<D)
  (d:yJ 129 #[ylV R D L G gr sz b c F] (yi f)):
  yC 126 #[ylV R D L G gr sz b c F] w (yR w (.int .u64 0)):=by
 have k:=cD;replace d:Hid _:=d;have g:=ah w (ylL R D L G gr sz b c F) 93;have h:=af w (.cells (ylA R D L G gr sz b c F) 93);obtain⟨n,o,p,q,r,s,t,u,v⟩:=g.cs9
 go_enter func126,ntmps126
 go_wp2_with fail
 go_region_held3 (fun a=>a.cell? ⟨w.heap.size,0,none⟩=some (yi R)∧a.cell? ⟨w.heap.size,1,none⟩=some (yi D)∧a.cell? ⟨w.heap.size,2,none⟩=some (yi L)∧a.cell? ⟨w.heap.size,3,none⟩=some (yi G)∧a.cell? ⟨w.heap.size,4,none⟩=some (.bool gr)∧a.cell? ⟨w.heap.size,5,none⟩=some (yi sz)∧a.cell? ⟨w.heap.size,6,none⟩=some (yi b)∧a.cell? ⟨w.heap.size,7,none⟩=some (yi c)∧a.cell? ⟨w.heap.size,8,none⟩=some (.func (.func F) #[] #[])) (go_keep) (first
  | (go_at_call 129;refine(d.out _).mono ?_;rintro z m ⟨rfl,e⟩;have i:=g.drew.l e;obtain⟨x,y,A,B,C,E,H,I,J⟩:=i.cs9))
 all_goals go_wp2
 all_goals go_ret
 all_goals exact⟨rfl,aa h.drew e⟩
theorem L7 (R D L G sz b c g i:Int)(gr:Bool)(F:Nat)(w:World)(n: ¬g<D)
  (d:yJ 129 #[ylV R D L G gr sz b c F] (yi g))
  (e:yJ 127 #[ylV R D L G gr sz b c F] (.int .u64 i)):
  yC 126 #[ylV R D L G gr sz b c F] w (yR w (.int .u64 i)):=by
 have o:=cD;replace d:Hid _:=d;replace e:Hid _:=e;have h:=ah w (ylL R D L G gr sz b c F) 93;have j:=af w (.cells (ylA R D L G gr sz b c F) 93);obtain⟨r,s,t,u,v,x,y,A,B⟩:=h.cs9
 go_enter func126,ntmps126
 go_wp2_with fail
 go_region_held3 (fun a=>a.cell? ⟨w.heap.size,0,none⟩=some (yi R)∧a.cell? ⟨w.heap.size,1,none⟩=some (yi D)∧a.cell? ⟨w.heap.size,2,none⟩=some (yi L)∧a.cell? ⟨w.heap.size,3,none⟩=some (yi G)∧a.cell? ⟨w.heap.size,4,none⟩=some (.bool gr)∧a.cell? ⟨w.heap.size,5,none⟩=some (yi sz)∧a.cell? ⟨w.heap.size,6,none⟩=some (yi b)∧a.cell? ⟨w.heap.size,7,none⟩=some (yi c)∧a.cell? ⟨w.heap.size,8,none⟩=some (.func (.func F) #[] #[])) (go_keep) (first
  | (go_at_call 129;refine(d.out _).mono ?_;rintro z p ⟨rfl,f⟩;have m:=h.drew.l f;obtain⟨C,E,H,I,J,K,M,N,O⟩:=m.cs9))
 all_goals go_wp2_with fail
 all_goals (refine(e.out _).mono ?_;rintro z q ⟨rfl,k⟩;go_wp2;go_ret;exact⟨rfl,aa (aa j.drew f) k⟩)
theorem Uz {P:Program}(W:World)(f c e:TypeId)(s:ByteArray)(j:P.underlying f=some .string)(g:P.underlying c=some (.slice e))(h:P.underlying e=some (.int .u8)):
  ∃b cap,(convert f c (.string s)).run P W= .ok (.slice (some ⟨W.heap.size,0,none⟩) s.size cap) b∧ik b W.heap.size (jr s)∧yB W b:=by
 refine⟨_,_,run_bytes_of_string W f c e s j g h, ?_, ?_⟩
 ·refine⟨fun i a=> ?_,fun i a=> ?_, ?_⟩
  ·have d:i<s.data.size:=by rw[oV] at a;exact a
   rw[show W.heap.size=W.drew.heap.size from rfl,World.cell?_alloc_mark,bytesRow_at s _ i d,jr,List.getD_eq_getElem?_getD,List.getElem?_map,Array.getElem?_toList,Array.getElem?_eq_getElem d]
   rfl
  ·have d:i<s.data.size:=by rw[oV] at a;exact a
   rw[show W.heap.size=W.drew.heap.size from rfl,World.frozen?_alloc_mark]
   have: ¬((bytesRow s (grownCap W s.size 0 e)).size≤i):=by
    unfold bytesRow;rw[Array.size_append,Array.size_map];omega
   simp[this]
  ·show W.heap.size< (W.drew.alloc _).heap.size
   rw[World.size_alloc];exact Nat.lt_succ_self _
 ·exact((Below.refl _ _).drew).alloc (Nat.le_refl _) _
theorem acf (R D L G i:Int)(gr:Bool)(sz a j:Nat)(F:Nat)(s:ByteArray)(d:List Nat)(w:World)(hs:s.size=sz)(o:d.length=sz)(O:Dg.Small 256 d)(C:1+a+j=8*sz)(ab:a≤15)(ap:sz≤10)(al:j≤64)
  (HT: ∀g cap b,ik b g (jr s)→yC F #[.slice (some ⟨g,0,none⟩) sz cap] b fun z w'=>z= .returned (.tuple #[])∧ik w' g d∧b.grownBy w' (some g))
  (a0:yJ 129 #[ylV R D L G gr sz a i F] (yi j))
  (HE: ∀a1 W,Sem.run Tryz.prog (callFunc F a1) W= .ok (.enter F a1) W):
  yC 112 #[ylV R D L G gr sz a i F,.string s] w (yR w (yfV (decide (eH d 0 1=1)) ((eH d 1 a:Nat):Int) ((eH d (1+a) j:Nat):Int))):=by
 have ao:=cD;have l0:=(ah w (ylL R D L G gr sz a i F) 93).l (af _ (.cells (yfA false 0 0) 134));have T:=ah (w.alloc (.cells (ylA R D L G gr sz a i F) 93)) (yfL false 0 0) 134;have b0:=aa (af w (.cells (ylA R D L G gr sz a i F) 93)) (af _ (.cells (yfA false 0 0) 134));rw[World.size_alloc] at T;have U:((w.alloc (.cells (ylA R D L G gr sz a i F) 93)).alloc (.cells (yfA false 0 0) 134)).heap.size=w.heap.size+2:=by rw[World.size_alloc,World.size_alloc]
 obtain⟨W1,cap,I,H,B⟩:=Uz (P:=Tryz.prog) ((w.alloc (.cells (ylA R D L G gr sz a i F) 93)).alloc (.cells (yfA false 0 0) 134)) 9 153 5 s underlying9 underlying153 underlying5;have Q:=l0.l B;have m1:=T.l B;have K:=aa b0 B;rw[U] at I H;rw[hs] at I;obtain⟨g,N⟩: ∃g,w.heap.size+2=g:=⟨_,rfl⟩;rw[N] at I H;have x8:=Q.c 8 rfl;have a7:Hid _:=HT;have a5:Hid _:=a0;have a6:Hid _:=N;have HL:Hid (_∧_):=⟨o,C⟩;obtain⟨J,p⟩: ∃n,eH d 0 1=n:=⟨_,rfl⟩;obtain⟨m,r⟩: ∃n,eH d 1 a=n:=⟨_,rfl⟩;obtain⟨v,t⟩: ∃n,eH d (1+a) j=n:=⟨_,rfl⟩;rw[p,r,t];have HN:Hid (_∧_∧_):=⟨p,r,t⟩;have a9:((J:Int)==1)=decide (J=1):=by
  by_cases h:J=1
  ·subst h;rfl
  ·rw[decide_eq_false h];simp;omega
 obtain⟨x,a4⟩: ∃q,decide (J=1)=q:=⟨_,rfl⟩;rw[a4] at a9⊢;clear HT a0 N o C p r t a4
 go_enter func112,ntmps112
 go_wp2_with fail
 refine(a7.out _ _ _ H).mono ?_;rintro z w2 ⟨rfl,r2,M⟩;have ac:=a6.out;have S:=(Q.grown M (by omega)).drew;have m2:=(m1.grown M (by omega)).drew;have b2:=(K.grown M K.size (fun k h=>by cases h;omega)).drew
 have ad:=r2.drew;obtain⟨o,C⟩:=HL.out;have X:Hid (∀b,ik b g d→yC 150 #[.slice (some ⟨g,0,none⟩) sz cap,yi 0,yi 1] b fun z w'=>z= .returned (.int .u64 ((eH d 0 1:Nat):Int))∧b=w'):=fun b h=>by
  have:=Cr g cap d 0 1 b h O (by omega) (by omega) (by omega);rw[o] at this;exact this.mono (fun _ _ h=>⟨h.1,h.2.symm⟩)
 have Y:Hid (∀b,ik b g d→yC 150 #[.slice (some ⟨g,0,none⟩) sz cap,yi 1,yi a] b fun z w'=>z= .returned (.int .u64 ((eH d 1 a:Nat):Int))∧b=w'):=fun b h=>by
  have:=Cr g cap d 1 a b h O (by omega) (by omega) (by omega);rw[o] at this;exact this.mono (fun _ _ h=>⟨h.1,h.2.symm⟩)
 have Z:Hid (∀b,ik b g d→yC 150 #[.slice (some ⟨g,0,none⟩) sz cap,yi (1+(a:Int)),yi j] b fun z w'=>z= .returned (.int .u64 ((eH d (1+a) j:Nat):Int))∧b=w'):=fun b h=>by
  have:=Cr g cap d (1+a) j b h O (by omega) (by omega) (by omega);rw[o,show(((1+a:Nat):Nat):Int)=1+(a:Int) from by omega] at this
  exact this.mono (fun _ _ h=>⟨h.1,h.2.symm⟩)
 have a3:=gh d 1 a;have a8:(2:Nat)^a≤2^15:=Nat.pow_le_pow_right (by omega) ab;obtain⟨p,r,t⟩:=HN.out;rw[p] at X;rw[r] at Y a3;rw[t] at Z;have an:m<32768:=by omega
 clear p r t a3 a8 o C l0 Q T m1 b0 K r2 H I B x8 U ac;have ae:(a:Int)≤15:=by omega
 have ar:IntKind.i64.wrap (1+(a:Int))=1+(a:Int):=IntWalk.i64_in _ ⟨by omega,by omega⟩;have aq:IntKind.i64.wrap (m:Int)=(m:Int):=IntWalk.i64_in _ ⟨by omega,by omega⟩;obtain⟨x0,x1,x2,x3,x4,x5,x6,x7,x8⟩:=S.cs9
 go_wp2_with fail
 go_region_held3 (fun e=>e.cell? ⟨w.heap.size,0,none⟩=some (yi R)∧e.cell? ⟨w.heap.size,1,none⟩=some (yi D)∧e.cell? ⟨w.heap.size,2,none⟩=some (yi L)∧e.cell? ⟨w.heap.size,3,none⟩=some (yi G)∧e.cell? ⟨w.heap.size,4,none⟩=some (.bool gr)∧e.cell? ⟨w.heap.size,5,none⟩=some (yi sz)∧e.cell? ⟨w.heap.size,6,none⟩=some (yi a)∧e.cell? ⟨w.heap.size,7,none⟩=some (yi i)∧e.cell? ⟨w.heap.size,8,none⟩=some (.func (.func F) #[] #[])) (go_keep) (first
  | (go_at_call 129;refine(a5.out _).mono ?_;rintro z w5 ⟨rfl,y⟩;have l5:=S.l y;have u:=m2.l y;have a2:=aa b2 y;have r5:=ad.l y;obtain⟨y0,y1,y2,y3,y4,y5,y6,y7,y8⟩:=l5.cs9;obtain⟨u0,u1,u2⟩:=u.cs3;have f0:=u.f 0;have f1:=u.f 1;have f2:=u.f 2)
  | (go_at_call 150;(with_reducible (refine(X.out _ (by assumption)).mono ?_));rintro z wv ⟨rfl,rfl⟩)
  | (go_at_call 150;(with_reducible (refine(Y.out _ (by assumption)).mono ?_));rintro z wv ⟨rfl,rfl⟩)
  | (go_at_call 150;(with_reducible (refine(Z.out _ (by assumption)).mono ?_));rintro z wv ⟨rfl,rfl⟩))
 have cR:au (((w5.setCell ⟨w.heap.size+1,0,none⟩ (.bool x)).setCell ⟨w.heap.size+1,1,none⟩ (yi (m:Int))).setCell ⟨w.heap.size+1,2,none⟩ (.int .u64 (v:Int))) (w.heap.size+1) 134 (yfL x (m:Int) (v:Int)):=((u.set 0 (.bool x)).set 1 (yi (m:Int))).set 2 (.int .u64 (v:Int));have A:=(((ag w5 (w.heap.size+1) 0 (.bool x)).trans (ag _ (w.heap.size+1) 1 (yi (m:Int)))).trans (ag _ (w.heap.size+1) 2 (.int .u64 (v:Int)))).below a2 (by omega);have E:=run_loadVar_mid (P:=Tryz.prog) _ (w.heap.size+1) 0 134 (yfL x (m:Int) (v:Int)) _ cR.range underlying134 rfl (by kernel_rfl);have HH:Hid (_∧_):=⟨E,A⟩;clear E A cR S m2 b2 l5 u a2
 go_wp2
 obtain⟨E,A⟩:=HH.out;exact bodyPost_ret (br results112 rfl E) rfl ⟨rfl,A⟩
abbrev tscaled_ud:=tscaled_ud_mg.1
abbrev tscaled_uu:=tscaled_ud_mg.2.1
abbrev tscaled_dd:=tscaled_ud_mg.2.2.1
abbrev tscaled_du:=tscaled_ud_mg.2.2.2
theorem We (R sz k:Nat)(D L G o:Int)(gr:Bool)(F:Nat)(ng:Bool)(e f d:Nat)(p:Int)(w:World)(hR:2≤R)(bh:R≤16)(bb:0<d)(hd:d<18446744073709551616)(bj: -100000≤p)(bm:p≤100000)
  (HC:yJ 113 #[ylV R D L G gr sz k o F,yfV ng e f] (yi 2))
  (HP:yJ 114 #[ylV R D L G gr sz k o F,yfV ng e f] (.tuple #[.int .u64 d,yi p])):
  yC 68 #[ylV R D L G gr sz k o F,yfV ng e f] w (iT w 2 ng (lJ R 64 d p).1 (lJ R 64 d p).2):=by
 have bs:=cD;have bl:=af w (.cells (ylA R D L G gr sz k o F) 93);have bf:=af (w.alloc (.cells (ylA R D L G gr sz k o F) 93)) (.cells (yfA ng e f) 134);have X:=af ((w.alloc (.cells (ylA R D L G gr sz k o F) 93)).alloc (.cells (yfA ng e f) 134)) (.cells (yvA 0 false yN 0) 39);have l0:=((ah w (ylL R D L G gr sz k o F) 93).l bf).l X;have m0:=(ah (w.alloc (.cells (ylA R D L G gr sz k o F) 93)) (yfL ng e f) 134).l X;have v0:=ah ((w.alloc (.cells (ylA R D L G gr sz k o F) 93)).alloc (.cells (yfA ng e f) 134)) (yvL 0 false yN 0) 39;have b0:=aa (aa bl bf) X;rw[World.size_alloc] at m0;rw[World.size_alloc,World.size_alloc] at v0;clear bl bf X;have b8:Hid _:=HC;have ba:Hid _:=HP;obtain⟨m,hm⟩: ∃m,(lJ R 64 d p).1=m:=⟨_,rfl⟩;obtain⟨pw,a7⟩: ∃m,(lJ R 64 d p).2=m:=⟨_,rfl⟩;have HS:Hid (lJ R 64 d p=(m,pw)):=Prod.ext hm a7;rw[hm,a7];clear hm a7 HC HP
 go_enter func68,ntmps68
 go_wp2_with fail
 refine(b8.out _).mono ?_;rintro z j ⟨rfl,H⟩;have O:=af j (.cells (yvA 2 false yN 0) 39);have l1:=(l0.l H).l O;have m1:=(m0.l H).l O;have v1:=(v0.l H).l O;have q1:=ah j (yvL 2 false yN 0) 39;have ao:=aa (aa b0 H) O;have bn:w.heap.size+3≤j.heap.size:=(v0.l H).lt;obtain⟨x0,x1,x2,x3,x4,x5,x6,x7,x8⟩:=l1.cs9;obtain⟨y0,y1,y2⟩:=m1.cs3;clear l0 m0 v0 b0 H O
 go_wp2_with fail
 refine(ba.out _).mono ?_;rintro z w2 ⟨rfl,I⟩;have l2:=l1.l I;have m2:=m1.l I;have v2:=v1.l I;have K:=q1.l I;have ap:=aa ao I;clear l1 m1 v1 q1 ao I x0 x1 x2 x3 x4 x5 x6 x7 x8 y0 y1 y2;generalize j.heap.size=q at*;have x0:=l2.c 0 rfl;have bw:IntKind.u64.wrap R=(R:Int):=IntWalk.u64_in _ ⟨by omega,by omega⟩;have bi:((R:Int) != 0)=true:=by rw[bne_iff_ne];omega
 go_wp2
 go_loop [6,7] (fun dv pv=> ∃(n y:Nat) (r:Int),Hid (lJ R n y r=(m,pw)∧y<2^n)∧n≤64∧0<y∧y<18446744073709551616∧r+n≤p+64∧p≤r∧dv= .int .u64 y∧pv=yi r) (fun dv _=>(intOf dv).toNat)
 case atStart=>exact⟨64,d,p,⟨HS.out,hd⟩,by omega,bb,hd,by omega,by omega,rfl,rfl⟩
 case round=>
  obtain⟨n,y,r,HY,hn,aw,hy,bo,bp,rfl,rfl⟩:=hrel;obtain⟨t,A⟩: ∃t,y % R=t:=⟨_,rfl⟩;obtain⟨u,s⟩: ∃u,y/R=u:=⟨_,rfl⟩;have bu:(y:Int) % (R:Int)=(t:Int):=by rw[←A];exact(Int.natCast_emod y R).symm
  have be:(y:Int)/(R:Int)=(u:Int):=by rw[←s];exact(Int.natCast_ediv y R).symm
  by_cases bc:t=0
  ·subst bc
   have bv:u<y:=by rw[←s];exact Nat.div_lt_self aw hR
   have bd:0<u:=by
    rw[←s];exact Nat.div_pos (Nat.le_of_dvd aw (Nat.dvd_of_mod_eq_zero A)) (by omega)
   have N:Hid (_∧_):=⟨A,s⟩;clear A s
   go_wp2
   obtain⟨A,s⟩:=N.out;obtain⟨S,T⟩:=HY.out;obtain⟨i,rfl⟩: ∃i,n=i+1:=by
    cases n with
    |zero=>simp at T;omega
    |succ i=>exact⟨i,rfl⟩
   rw[lJ,if_pos A,s] at S;refine⟨⟨i,u,r+1,⟨S, ?_⟩,by omega,bd,by omega,by omega,by omega,rfl,rfl⟩, ?_⟩
   ·rw[Nat.pow_succ] at T
    have h2:y/R≤y/2:=Nat.div_le_div_left hR (by omega);omega
   ·simp only[intOf]
    omega
  ·have bt:((t:Int)==0)=false:=by simp;omega
   have N:Hid (_∧_):=⟨A,s⟩;obtain⟨S,T⟩:=HY.out;obtain⟨i,rfl⟩: ∃i,n=i+1:=by
    cases n with
    |zero=>simp at T;omega
    |succ i=>exact⟨i,rfl⟩
   rw[lJ,if_neg (by omega),Prod.mk.injEq] at S;obtain⟨rfl,rfl⟩:=S;clear A s be T HY N HS;obtain⟨y0,y1,y2⟩:=m2.cs3;obtain⟨u0,u1,u2,u3⟩:=K.cs4;have k1:=K.f 1;have k2:=K.f 2;have k3:=K.f 3;have a1:=K.drew;have ad:=a1.set 1 (.bool ng);have ae:=a1.set 3 (yi r);have b4:=ad.set 3 (yi r);have b5:=ae.set 1 (.bool ng);have Z:q≠w.heap.size+1:=by omega
   have C:q≠w.heap.size+1+1:=by omega
   have a0:=m2.drew;have a8:=a0.off Z 1 (.bool ng);have a9:=a0.off Z 3 (yi r);have ax:=a8.off Z 3 (yi r);have ay:=a9.off Z 1 (.bool ng);have a2:=v2.drew;have al:=a2.off C 1 (.bool ng);have an:=a2.off C 3 (yi r);have b6:=al.off C 3 (yi r);have b7:=an.off C 1 (.bool ng);have Q:w.heap.size≤q:=by omega
   have U:=ap.drew;have a3:=(ag _ q 1 (.bool ng)).below U Q;have a4:=(ag _ q 3 (yi r)).below U Q;have ar:=(ag _ q 3 (yi r)).below a3 Q;have av:=(ag _ q 1 (.bool ng)).below a4 Q;have b9:Hid (∀j,yC 115 #[.int .u64 y] j fun z w'=> ∃v,z= .returned v∧Own w' j.heap.size 105 .u32 v (Dg.dg 4294967296 y)∧yB j w'):=fun j=>KH y hy j
   go_wp2_with fail
   go_region_held3 (fun wq=>wq.cell? ⟨w.heap.size+1,0,none⟩=some (.bool ng)∧wq.cell? ⟨w.heap.size+1,1,none⟩=some (yi e)∧wq.cell? ⟨w.heap.size+1,2,none⟩=some (.int .u64 f)) (go_keep) (first
    | (go_at_call 115;refine(b9.out _).mono ?_;rintro z w3 ⟨v,rfl,ab,a⟩;obtain⟨h,g,bg⟩:=ab.rd.shape;subst bg;(first| (have b:=a1.l a;have J:=a0.l a;have M:=a2.l a;have E:=aa U a)| (have b:=ad.l a;have J:=a8.l a;have M:=al.l a;have E:=aa a3 a)| (have b:=ae.l a;have J:=a9.l a;have M:=an.l a;have E:=aa a4 a)| (have b:=b4.l a;have J:=ax.l a;have M:=b6.l a;have E:=aa ar a)| (have b:=b5.l a;have J:=ay.l a;have M:=b7.l a;have E:=aa av a));obtain⟨t0,t1,t2⟩:=J.cs3;obtain⟨s0,s1,s2,s3⟩:=b.cs4;have j1:=b.f 1;have j2:=b.f 2;have j3:=b.f 3))
   have a5:=((ag w3 q 1 (.bool ng)).trans (ag _ q 2 (yT h y g))).trans (ag _ q 3 (yi r));have q4:au (((w3.setCell ⟨q,1,none⟩ (.bool ng)).setCell ⟨q,2,none⟩ (yT h y g)).setCell ⟨q,3,none⟩ (yi r)) q 39 (yvL 2 ng (yT h y g) r):=((b.set 1 (.bool ng)).set 2 (yT h y g)).set 3 (yi r);have B:=((M.off C 1 (.bool ng)).off C 2 (yT h y g)).off C 3 (yi r);have aq:=a5.below E Q;have ac:=(a5.own ab b (by decide)).rd;have az:=cq ac (Dg.norm_dg _ _ (by omega)) B (fun x hx n hn=>by simp at hx;rcases hx with rfl|rfl|rfl|rfl<;>simp)
   generalize(((w3.setCell ⟨q,1,none⟩ (.bool ng)).setCell ⟨q,2,none⟩ (yT h y g)).setCell ⟨q,3,none⟩ (yi r))=w4 at*;clear a b J M ab a5 t0 t1 t2 s0 s1 s2 s3 j1 j2 j3 u0 u1 u2 u3 k1 k2 k3 y0 y1 y2 x0 a1 ad ae b4 b5 a0 a8 a9 ax ay a2 al an b6 b7 U a3 a4 ar av K m2 v2 l2 ap E;obtain⟨s0,s1,s2,s3⟩:=q4.cs4;obtain⟨t0,t1,t2,t3⟩:=B.cs4;have j0:=B.f 0;have j1:=B.f 1;have j2:=B.f 2;have j3:=B.f 3;have a6:=(((ag w4 (w.heap.size+1+1) 0 (yi 2)).trans (ag _ (w.heap.size+1+1) 1 (.bool ng))).trans (ag _ (w.heap.size+1+1) 2 (yT h y g))).trans (ag _ (w.heap.size+1+1) 3 (yi r));have cR:au ((((w4.setCell ⟨w.heap.size+1+1,0,none⟩ (yi 2)).setCell ⟨w.heap.size+1+1,1,none⟩ (.bool ng)).setCell ⟨w.heap.size+1+1,2,none⟩ (yT h y g)).setCell ⟨w.heap.size+1+1,3,none⟩ (yi r)) (w.heap.size+1+1) 39 (yvL 2 ng (yT h y g) r):=(((B.set 0 (yi 2)).set 1 (.bool ng)).set 2 (yT h y g)).set 3 (yi r);have W:=a6.below aq (by omega);have rR:=a6.rd ac az;have Y:=run_loadVar_mid (P:=Tryz.prog) _ (w.heap.size+1+1) 0 39 (yvL 2 ng (yT h y g) r) _ cR.range underlying39 rfl (by kernel_rfl);have N:Hid (_∧_∧_):=⟨Y,rR,W⟩;clear Y rR W cR a6 ac az aq q4 B
   go_wp2
   obtain⟨Y,rR,W⟩:=N.out;exact bodyPost_ret (br results68 rfl Y) rfl ⟨_,rfl,rR,W⟩
theorem aeI (wd E:Int)(t:ak)(n Z f1 f2 R D L G y o wy:Int)(gr ok a:Bool)(m:Option Addr)(i k:Nat)(w:World)(h1:(y==1)=false)(h2:1<y)(h3: ¬o<L)(hz:(((Dg.dg 65536 i).length:Int)==0)=false)(hE:IntKind.i64.wrap (wd*o)=E)(B:yJ 15 #[yi n] (.tuple #[yhV Z f1 f2 R D L G gr y,.bool ok]))
  (C:yJ 21 #[ygV R D L G gr] (yi wd))
  (A: ∀w1,yB w w1→yC 20 #[ydV a (yS m i k) E] w1 (di w1 t)):
  yC 60 #[yi n,ypV a (yS m i k) o false false true,yi wy] w (RVG w 2 a t 3):=by
 replace B:Hid _:=B;replace C:Hid _:=C;replace A:Hid _:=A;obtain⟨W4,M,q1,q2,b3⟩:=iG w (ypL a (yS m i k) o false false true) 123 (yoL 0 false false yN 0) 30;replace M:Hid _:=M
 go_enter func60,ntmps60
 go_upto_region 1 with fail
 rw[M.out];clear M
 go_wp2_with fail
 refine(B.out _).mono ?_;rintro zz z ⟨rfl,I⟩;have q8:=q1.l I;have q9:=q2.l I;have X:=aa b3 I;clear q1 q2 b3 I B;obtain⟨W,J,N,F⟩:=cA z (yhL Z f1 f2 R D L G gr y) 56;replace J:Hid _:=J;have b4:w.heap.size≤z.heap.size:=X.size;have b5:=q9.lt;have j:=q8.l F;have ae:=q9.l F;have a6:=aa X F;clear q8 q9 X F
 go_upto_region 2 with fail
 rw[J.out];clear J;have ar:=j.c 1 rfl;have av:=j.c 2 rfl;have aw:=j.c 3 rfl;have ax:=j.c 4 rfl;have ay:=j.c 5 rfl;have az:=N.c 5 rfl;have b0:=N.c 8 rfl
 go_upto_region 24 with fail
 clear ar av aw ax ay az b0;have q:yB W W.drew:=(Below.refl _ _).drew;have O:=j.l q;have a1:=ae.l q;have Q:=N.l q;have Y:=aa a6 q;clear j ae N a6 q;refine wp_region_held_drew (S:=fun wq=>au wq w.heap.size 123 (ypL a (yS m i k) o false false true)∧au wq z.heap.size 56 (yhL Z f1 f2 R D L G gr y)) (by kernel_rfl) ⟨O,Q⟩ (fun b=> ?_)
 generalize W.drew=b2 at O a1 Q Y b⊢;refine tq 0 (.pointer (some ⟨w.heap.size,0,none⟩)) rfl (fun _ _=>by kernel_rfl) b ?_
 refine tq 1 (.bool a) rfl (fun _ d=>gU 4 (.tmp 94) rfl w.heap.size 0 (by kernel_rfl) _ _ underlying4 rfl (d.1.c 0 rfl)) b ?_
 refine tq 2 (.pointer (some ⟨w.heap.size,0,none⟩)) rfl (fun _ _=>by kernel_rfl) b ?_
 refine tq 3 (.bool a) rfl (fun _ d=>gU 4 (.tmp 96) rfl w.heap.size 0 (by kernel_rfl) _ _ underlying4 rfl (d.1.c 0 rfl)) b ?_
 refine tq 4 (.pointer (some ⟨w.heap.size,1,none⟩)) rfl (fun _ _=>by kernel_rfl) b ?_
 refine tq 5 (yS m i k) rfl (fun _ d=>gU 26 (.tmp 98) rfl w.heap.size 1 (by kernel_rfl) _ _ underlying26 rfl (d.1.c 1 rfl)) b ?_
 refine tq 6 (.pointer (some ⟨z.heap.size,3,none⟩)) rfl (fun _ _=>by kernel_rfl) b ?_
 refine tq 7 (ygV R D L G gr) rfl (fun _ d=>fy 54 (.tmp 100) rfl z.heap.size 3 (by kernel_rfl) _ _ (kY d.2 3 5 rfl) underlying54 rfl (by kernel_rfl)) b ?_
 refine tq 9 (.pointer (some ⟨w.heap.size,2,none⟩)) rfl (fun _ _=>by kernel_rfl) b ?_
 refine tq 10 (yi o) rfl (fun _ d=>gU 3 (.tmp 103) rfl w.heap.size 2 (by kernel_rfl) _ _ underlying3 rfl (d.1.c 2 rfl)) b ?_
 refine tq 15 (yi 3) rfl (fun _ _=>by kernel_rfl) b ?_
 refine wpAnyH_ready (rs:=[8]) (by kernel_rfl) (by simp) ?_;refine AllReadyH.cons rfl (fun K f=> ?_) AllReadyH.nil
 go_simp
 refine(C.out _).mono ?_;rintro zz b7 ⟨rfl,r⟩;have a2:=O.l r;have al:=a1.l r;have a3:=Q.l r;have H:=aa Y r;clear O a1 Q Y r C;refine f.out _ _ ⟨a2,a3⟩ (fun a0=> ?_)
 clear f K;refine tq 11 (yi E) rfl (fun _ _=>by go_simp) a0 ?_
 refine tq 12 (ydV a (yS m i k) E) rfl (fun _ _=>by kernel_rfl) a0 ?_
 refine wpAnyH_ready (rs:=[13]) (by kernel_rfl) (by simp) ?_;refine AllReadyH.cons rfl (fun K f=> ?_) AllReadyH.nil
 go_simp
 refine(A.out _ H).mono ?_;rintro zz p ⟨b6,rfl,U,a9,u⟩;have ff:=a9.mono H.size;clear a9;have a4:=a2.l u;have T:=al.l u;have a5:=a3.l u;have a7:=aa H u;obtain⟨h,g,hv⟩:=U.shape;subst hv;clear a2 al a3 H u A;refine f.out _ _ ⟨a4,a5⟩ (fun ab=> ?_)
 clear f K;refine tq 14 (yoV 2 a t.s (yS h t.n g) t.e) rfl (fun _ _=>by kernel_rfl) ab ?_
 refine wpAnyH_ready (rs:=[16]) (by kernel_rfl) (by simp) ?_;refine AllReadyH.cons rfl (fun K f=> ?_) AllReadyH.nil
 have v:But (w.heap.size+1) p (p.setCells (w.heap.size+1) 0 (yoL 2 a t.s (yS h t.n g) t.e)):=de _ _ _ _;have ad:p.there (w.heap.size+1) 0 5:=dD T;have an:au (p.setCells (w.heap.size+1) 0 (yoL 2 a t.s (yS h t.n g) t.e)) (w.heap.size+1) 30 (yoL 2 a t.s (yS h t.n g) t.e):=T.sets _ rfl;have aq:=v.rd U (cq U (Dg.norm_dg _ _ (by omega)) T (fun x hx n hn=>by simp at hx;rcases hx with rfl|rfl|rfl|rfl|rfl<;>simp;all_goals omega))
 have ao:=v.loc a4 (by omega);have ap:=v.loc a5 (by omega);have a8:=v.below a7 (by omega);rw[if_pos (by kernel_rfl)];refine wp_store_mid 30 (.tmp 6) (.tmp 108) rfl (w.heap.size+1) 0 (yoA 2 a t.s (yS h t.n g) t.e) (by kernel_rfl) (by kernel_rfl) ad (by kernel_rfl) (by simp[Value.oneCell']) ?_;refine f.out _ _ ⟨ao,ap⟩ (fun ac=> ?_)
 clear f K;clear T U a4 a5 a7 v ad;refine tq 17 (yi 3) rfl (fun _ _=>by kernel_rfl) ac ?_
 refine wpAnyH_done (by kernel_rfl) ?_ _;clear b a0 ab ac;change Exit.then _ _ _ _ (World.setCells p (w.heap.size+1) 0 (yoL 2 a t.s (yS h t.n g) t.e));generalize World.setCells p (w.heap.size+1) 0 (yoL 2 a t.s (yS h t.n g) t.e)=b1 at ao an ap aq a8⊢;simp only[Act.put,List.getElem_toArray,List.getElem_cons_succ,List.getElem_cons_zero,List.setIfInBounds_toArray,List.set_cons_zero,List.set_cons_succ];have hl:=run_loadVar_mid (P:=Tryz.prog) _ (w.heap.size+1) 0 30 (yoL 2 a t.s (yS h t.n g) t.e) _ an.range underlying30 rfl (by kernel_rfl)
 go_wp2
 exact bodyPost_ret (aj results60 rfl rfl hl) rfl ⟨_,rfl,aq,ff,a8⟩
theorem Ni {d j:Nat}(h:d<2^ (j+1)):d&&& 2^j≠0↔bitLen d=j+1:=by
 have l:=bF d (j+1) h;rw[SK];have f:0<2^j:=Nat.pow_pos (by omega)
 by_cases e:2^j≤d
 ·have b:bitLen d=j+1:=by
   have:=(pP d j).1;have g: ¬bitLen d<j+1:=fun c=>this c e
   omega
  have a:d.testBit j=true:=by
   rw[Nat.testBit_eq_decide_div_mod_eq];have:d/2^j=1:=by
    rw[Nat.pow_succ] at h;have i:1≤d/2^j:=(Nat.le_div_iff_mul_le f).2 (by omega);have k:d/2^j<2:=(Nat.div_lt_iff_lt_mul f).2 (by omega);omega
   rw[this];rfl
  rw[if_pos a];exact⟨fun _=>b,fun _=>by omega⟩
 ·have b:bitLen d<j+1:=(pP d j).2 e
  have a:d.testBit j=false:=by
   rw[Nat.testBit_eq_decide_div_mod_eq,Nat.div_eq_of_lt (by omega)];rfl
  rw[if_neg (by rw[a];simp)];exact⟨fun c=>absurd rfl c,fun c=>by omega⟩
theorem ZB6.rd {w:World}{b:Nat}{v:Value}{zs:List Nat}(h:ZB6 w b)(t:Rd w .i64 v zs)(r:Dg.Norm zs)(u x y z A B:Value):
  Rd ((((((w.setCell ⟨b,0,none⟩ u).setCell ⟨b,1,none⟩ x).setCell ⟨b,2,none⟩ y).setCell ⟨b,3,none⟩ z).setCell ⟨b,4,none⟩ A).setCell ⟨b,5,none⟩ B) .i64 v zs:=by
 obtain⟨C,F,p⟩:=h;obtain⟨k,cap,rfl,l,m,n⟩:=t;refine⟨k,cap,rfl,l,m,fun g=> ?_⟩
 obtain⟨c,j,rfl,f⟩:=n g;refine⟨c,j,rfl,fun i q=> ?_⟩
 have D:c≠b:=by
  intro e;subst e;have a:=f (zs.length-1) (by omega);have E:=r (List.length_pos_iff.1 g);unfold World.cell? at a;simp only[p] at a;obtain⟨o,s⟩: ∃o,j+(zs.length-1)=o:=⟨_,rfl⟩;rw[s] at a;generalize zs.getD (zs.length-1) 0=d at*
  match o,a with
  |0,a=>simp at a
  |1,a=>simp at a
  |2,a=>simp at a;omega
  |3,a=>simp at a
  |4,a=>simp at a
  |5,a=>simp at a;omega
  |o+6,a=>simp at a
 rw[World.cell?_setCell_other (h:=by simp),World.cell?_setCell_other (h:=by simp),World.cell?_setCell_other (h:=by simp),World.cell?_setCell_other (h:=by simp),World.cell?_setCell_other (h:=by simp),World.cell?_setCell_other (h:=by simp)];exact f i q
theorem num_nmR {w:World}{n:Nat}{z:Ending}{w':World}(h:Num w n z w'):NmR w n z w':=by
 obtain⟨v,a,b,c⟩:=h;exact⟨v,a,b.rd,c⟩
theorem two_tw {w:World}{a b:Nat}{z:Ending}{w':World}(h:Two w a b z w'):TwR w a b z w':=by
 obtain⟨v,u,c,d,e,f⟩:=h;exact⟨v,u,c,d.rd,e.rd,f⟩
end Go.Proofs.YtlhkndcmbpcpgaaGreatDoor
