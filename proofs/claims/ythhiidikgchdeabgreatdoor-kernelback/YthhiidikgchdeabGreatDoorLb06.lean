/- Texts laid together. -/
import Derived.Laws.CopyOwn
import Derived.BigRegion
import Derived.Deep.LoopGhost
import Derived.Deep.RegionLaw
import Derived.WalkSmall
import Derived.OpenShut
import Derived.Laws.MathBits
import Derived.Lib.BitFns
import Derived.Lib.Walk
import Derived.Lib.Small
import Derived.Lib.TrailingZeros
import Derived.Shelf.Spec.TrailingZeros
import Derived.Deep.RegionHeld3
import Derived.Deep.MidRow
import Derived.Laws.ResultCell
import Derived.Laws.IdiomStrings
import Derived.Test.YthhiidikgchdeabGreatDoorLb01
set_option maxRecDepth 100000
set_option maxHeartbeats 1600000
namespace Go.Proofs.YthhiidikgchdeabGreatDoor
open _root_.Go.Proofs.Tryz
open Go.RowKit
theorem Rd.l {w w':World}{k:IntKind}{v:Value}{zs:List Nat}(h:Rd w k v zs)(g:Below w.heap.size w w'):Rd w' k v zs:=by
 obtain⟨a,cap,o,c,d,e⟩:=h;refine⟨a,cap,o,c,d,fun n=> ?_⟩
 obtain⟨b,p,f,j⟩:=e n;exact⟨b,p,f,fun i m=>cell_later g (j i m)⟩
theorem Rd.shape {w:World}{k:IntKind}{v:Value}{zs:List Nat}(h:Rd w k v zs): ∃a cap,v= .slice a zs.length cap:=by
 obtain⟨a,cap,b,_⟩:=h;exact⟨a,cap,b⟩
theorem Own.l {w w':World}{base e:Nat}{k:IntKind}{v:Value}{zs:List Nat}(h:Own w base e k v zs)(d:Below w.heap.size w w'):Own w' base e k v zs:=by
 obtain⟨i,a⟩:=h;refine⟨i, ?_⟩
 rcases a with a| ⟨g,cap,c,j,f,b,r⟩
 ·exact .inl a
 ·refine .inr ⟨g,cap,c,j,f, ?_,r⟩
  rw[d.block g ?_]
  ·exact b
  ·rw[Array.getElem?_eq_some_iff] at b
   exact b.1
theorem Own.f {w:World}{base e:Nat}{k:IntKind}{g n cap:Nat}{zs:List Nat}(h:Own w base e k (.slice (some ⟨g,0,none⟩) n cap) zs)(j:Nat):w.frozen? ⟨g,j,none⟩=false:=by
 have a:=h.len;subst a;exact World.ownsRow.frozenAt h j
theorem Own.block {w:World}{base e:Nat}{k:IntKind}{g n cap:Nat}{zs:List Nat}(h:Own w base e k (.slice (some ⟨g,0,none⟩) n cap) zs):base≤g∧g<w.heap.size:=by
 have a:=h.len;subst a;exact World.ownsRow.lt h g rfl
theorem Own.store {w:World}{base e:Nat}{k:IntKind}{g n cap:Nat}{zs:List Nat}(h:Own w base e k (.slice (some ⟨g,0,none⟩) n cap) zs)(j x:Nat):
  Own (w.setCell ⟨g,j,none⟩ (.int k x)) base e k (.slice (some ⟨g,0,none⟩) n cap) (zs.set j x):=by
 have a:=h.len;subst a;have:=(World.ownsRow.stored h j (.int k x)).1;unfold Own;rw[List.length_set,List.map_set];exact this
theorem Own.take {w:World}{base e:Nat}{k:IntKind}{g n cap:Nat}{zs:List Nat}(h:Own w base e k (.slice (some ⟨g,0,none⟩) n cap) zs)(m:Nat)(l:m≤zs.length):
  Own w base e k (.slice (some ⟨g,0,none⟩) m cap) (zs.take m):=by
 have o:=h.len;subst o;obtain⟨r,c⟩:=h;refine⟨by simp, ?_⟩
 rcases c with⟨a,_⟩| ⟨q,cap',b,a,d,j,s,f,i,p⟩
 ·simp at a
 ·simp only[Value.slice.injEq,Option.some.injEq,Addr.mk.injEq,and_true,true_and] at a
  obtain⟨rfl,rfl⟩:=a;refine .inr ⟨g,cap,b, ?_,d,j,by simp;omega,f,i, ?_⟩
  ·simp[Nat.min_eq_left l]
  ·rw[List.map_take,←p]
   simp only[Nat.mul_one,List.length_take,List.take_take]
theorem Own.lower {w:World}{base b e:Nat}{k:IntKind}{v:Value}{zs:List Nat}(h:Own w base e k v zs)(i:b≤base):Own w b e k v zs:=by
 obtain⟨d,a⟩:=h;refine⟨d, ?_⟩
 rcases a with a| ⟨g,cap,c,f,j,r⟩
 ·exact .inl a
 ·exact .inr ⟨g,cap,c,f,by omega,r⟩
theorem aQ (w:World)(base e:Nat)(k:IntKind):Own w base e k yN []:=World.ownsRow_nil w base e 1
theorem gL {w:World}{base e:Nat}{k:IntKind}{v:Value}{n:Nat}(h:w.ownsRow base e 1 v n (madeCells #[Value.int k 0] n).toList):Own w base e k v (List.replicate n 0):=by
 rw[toList_madeCells_one] at h
 simpa[Own] using h
theorem Tryz.infoU32:(Tryz.prog.info? 36).map (fun i=>(i.zero,i.size,i.bytes))=some (some (.int .u32 0),1,4):=by kernel_rfl
def abn (xs ys ps:List Nat)(i:Nat):Prop:=
 ps.length=xs.length+ys.length∧Dg.Small 4294967296 ps∧(∀j,i+ys.length≤j→ps.getD j 0=0)∧Dg.vl 4294967296 ps=Dg.vl 4294967296 (xs.take i)*Dg.vl 4294967296 ys
def YE (xs ys ps:List Nat)(i j c:Nat):Prop:=
 ps.length=xs.length+ys.length∧Dg.Small 4294967296 ps∧c<4294967296∧(∀j,i+ys.length≤j→ps.getD j 0=0)∧
  Dg.vl 4294967296 ps+4294967296^ (i+j)*c=Dg.vl 4294967296 (xs.take i)*Dg.vl 4294967296 ys+4294967296^i*(xs.getD i 0*Dg.vl 4294967296 (ys.take j))
theorem QF (xs a:List Nat):abn xs a (List.replicate (xs.length+a.length) 0) 0:=by
 refine⟨by simp,Dg.small_replicate _ _ (by omega),fun j _=> ?_, ?_⟩
 ·by_cases h:j<xs.length+a.length<;>simp[List.getD_eq_getElem?_getD,h]
 ·simp[Dg.vl_replicate_zero,Dg.vl]
theorem QG {xs b a:List Nat}{i:Nat}(h:abn xs b a i):YE xs b a i 0 0:=
 ⟨h.1,h.2.1,by omega,h.2.2.1,by rw[h.2.2.2];simp[Dg.vl]⟩
theorem UO {xs a b:List Nat}{i j c:Nat}(h:YE xs a b i j c)(u:i<xs.length)(m:j<a.length)(t:Nat)(p:t=c+(xs.getD i 0*a.getD j 0+b.getD (i+j) 0))(v:t<18446744073709551616):
  YE xs a (b.set (i+j) (t % 4294967296)) i (j+1) (t/4294967296):=by
 obtain⟨e,f,q,g,r⟩:=h;have d:i+j<b.length:=by omega
 refine⟨by simpa using e,Dg.small_set f _ _ (Nat.mod_lt _ (by omega)),by omega,fun k n=> ?_, ?_⟩
 ·rw[Dg.getD_set _ _ _ _ d,if_neg (by omega)];exact g k n
 ·have x:=Dg.vl_set 4294967296 b (i+j) (t % 4294967296) d
  rw[Dg.vl_take_succ _ _ _ m];have o:4294967296^ (i+(j+1))*(t/4294967296)=4294967296^ (i+j)*(4294967296*(t/4294967296)):=by
   rw[show i+(j+1)=(i+j)+1 from by omega,Nat.pow_succ,Nat.mul_assoc]
  have w:4294967296^ (i+j)*t=4294967296^ (i+j)*(t % 4294967296)+4294967296^ (i+j)*(4294967296*(t/4294967296)):=by
   rw[←Nat.mul_add,Nat.mod_add_div]
  have s:4294967296^ (i+j)*t=4294967296^ (i+j)*c+4294967296^ (i+j)*(xs.getD i 0*a.getD j 0)+4294967296^ (i+j)*b.getD (i+j) 0:=by
   rw[p,Nat.mul_add,Nat.mul_add,Nat.add_assoc]
  have l:4294967296^i*(xs.getD i 0*(Dg.vl 4294967296 (a.take j)+4294967296^j*a.getD j 0))=4294967296^i*(xs.getD i 0*Dg.vl 4294967296 (a.take j))+4294967296^ (i+j)*(xs.getD i 0*a.getD j 0):=by
   rw[Nat.mul_add,Nat.mul_add,Nat.pow_add]
   congr 1
   rw[Nat.mul_assoc,Nat.mul_left_comm (xs.getD i 0)]
  rw[o,l];omega
theorem UP {xs a b:List Nat}{i c:Nat}(h:YE xs a b i a.length c)(m:i<xs.length):abn xs a (b.set (i+a.length) c) (i+1):=by
 obtain⟨f,g,j,d,l⟩:=h;have e:i+a.length<b.length:=by omega
 refine⟨by simpa using f,Dg.small_set g _ _ j,fun k o=> ?_, ?_⟩
 ·rw[Dg.getD_set _ _ _ _ e,if_neg (by omega)];exact d k (by omega)
 ·have n:=Dg.vl_set 4294967296 b (i+a.length) c e
  rw[d _ (Nat.le_refl _)] at n;rw[Dg.vl_take_succ _ _ _ m,Nat.add_mul,Nat.mul_assoc];rw[List.take_of_length_le (Nat.le_refl _)] at l;omega
theorem uf {x y:Nat}(a:x<4294967296)(b:y<4294967296):x*y≤18446744065119617025:=by
 have:=Nat.mul_le_mul (Nat.le_sub_one_of_lt a) (Nat.le_sub_one_of_lt b)
 simpa using this
theorem YF (c x y p:Nat):((c:Int)+((x:Int)*(y:Int)+(p:Int))) % 4294967296=(((c+(x*y+p)) % 4294967296:Nat):Int):=by
 rw[←Int.natCast_mul];omega
theorem YG (c x y p:Nat):((c:Int)+((x:Int)*(y:Int)+(p:Int)))/4294967296=(((c+(x*y+p))/4294967296:Nat):Int):=by
 rw[←Int.natCast_mul];omega
theorem jW {w:World}{base e:Nat}{k:IntKind}{g n cap m:Nat}{zs:List Nat}(B:Nat)(b:2≤B)(h:Own w base e k (.slice (some ⟨g,0,none⟩) n cap) zs)(c:Dg.Small B zs)(a:Ou zs m):
  Own w base e k (.slice (some ⟨g,0,none⟩) m cap) (Dg.dg B (Dg.vl B zs)):=by
 rw[←Dg.trim_eq B b zs m c a.1 a.2.1 a.2.2];exact h.take m a.1
theorem qC (N O:Value)(xs a:List Nat)(w:World)(T:Rd w .u32 N xs)(U:Rd w .u32 O a)(sa:Dg.Small 4294967296 xs)(sb:Dg.Small 4294967296 a)(a8:xs.length≤1000000000)(a9:a.length≤1000000000):
  yC 66 #[N,O] w fun e w'=>
   ∃v,e= .returned v∧Own w' w.heap.size 36 .u32 v (Dg.dg 4294967296 (Dg.vl 4294967296 xs*Dg.vl 4294967296 a))∧yB w w':=by
 obtain⟨i0,X,a2,a3,a4⟩:=info_parts Tryz.infoU32;obtain⟨ao,ca,rfl,-,-,B⟩:=T;obtain⟨bo,cb,rfl,-,-,C⟩:=U
 go_enter func66,ntmps66
 go_wp2_with (at_make;refine wpList_make_full _ rfl _ _ 89 rfl w.heap.size 36 i0 (.int .u32 0) 1 underlying89 X a2 a3 _ _ _ _ (xs.length+a.length) rfl rfl (by omega) (by omega) ?z ?b3 (Nat.le_refl _) ?_)
 case z=>rw[a4];omega
 case b3=>unfold maxLen;omega
 intro w0 H F;have M:=gL H;have A:yB w w0:=(Below.refl _ _).grown F (Nat.le_refl _) (fun k h=>by cases h)
 clear H F
 go_wp2
 go_loopw [19] (fun t wr=> ∃(i:Nat) (d:List Nat),i≤xs.length∧t=yi i∧Own wr w.heap.size 36 .u32 (.slice (some ⟨w.heap.size,0,none⟩) (xs.length+a.length) (xs.length+a.length)) d∧abn xs a d i∧yB w wr)
  (fun t _=>xs.length-(intOf t).toNat)
 case atStart=>exact⟨0,_,Nat.zero_le _,rfl,M,QF xs a,A⟩
 case round=>
  obtain⟨i,d,a6,rfl,own,n,g⟩:=hrel
  by_cases s:i<xs.length
  ·obtain⟨b,al,rfl,D⟩:=B (by omega)
   have J:=cell_later g (D i s);have K:=sa i;obtain⟨x,q⟩: ∃x,xs.getD i 0=x:=⟨_,rfl⟩;rw[q] at J K;have Q:Hid _:=q;clear q D B M A
   go_wp2
   go_loopw [8,26] (fun S u wr=> ∃(j c:Nat) (d:List Nat),j≤a.length∧u=yi j∧S= .int .u64 c∧Own wr w.heap.size 36 .u32 (.slice (some ⟨w.heap.size,0,none⟩) (xs.length+a.length) (xs.length+a.length)) d∧YE xs a d i j c∧yB w wr)
    (fun _ u _=>a.length-(intOf u).toNat)
   case atStart=>exact⟨0,0,d,Nat.zero_le _,rfl,rfl,own,QG n,g⟩
   case round=>
    clear own n g d J;obtain⟨j,c,d,a7,rfl,rfl,own,l,g⟩:=hrel;have a0:=l.1;have a5:=l.2.2.1
    by_cases G:j<a.length
    ·obtain⟨z,an,rfl,E⟩:=C (by omega)
     have hy:=cell_later g (E j G);have L:=sb j;have I:=own.c (i+j) (by omega);have a1:=l.2.1 (i+j);have W:=own.f (i+j);obtain⟨y,r⟩: ∃y,a.getD j 0=y:=⟨_,rfl⟩;obtain⟨p,o⟩: ∃p,d.getD (i+j) 0=p:=⟨_,rfl⟩;rw[r] at hy L;rw[o] at I a1;have R:Hid _:=r;have P:Hid _:=o;have ac:=uf K L;have ae:(x:Int)*(y:Int)≤18446744065119617025:=by rw[←Int.natCast_mul];omega
     have ad:0≤(x:Int)*(y:Int):=by rw[←Int.natCast_mul];omega
     clear r o E C
     go_wp2
     go_roundw
     case rel=>
      rw[YF,YG];exact⟨j+1,(c+(x*y+p))/4294967296,_,by omega,by go_num,rfl,own.store (i+j) _,UO l s G _ (by rw[Q.out,R.out,P.out]) (by omega),g.setCell (by exact Nat.le_refl _) _⟩
     case measure=>simp[intOf];omega
    ·have Z:j=a.length:=by omega
     subst Z;have I:=own.c (i+a.length) (by omega);have W:=own.f (i+a.length)
     go_wp2
     go_roundw
     case rel=>exact⟨i+1,_,by omega,by go_num,own.store (i+a.length) c,UP l s,g.setCell (by exact Nat.le_refl _) _⟩
     case measure=>simp[intOf];omega
  ·have Y:i=xs.length:=by omega
   subst Y;have a0:=n.1;have rd:=own.rd
   go_wp2_with fail
   refine(jD _ _ _ d _ rd).mono ?_;rintro e w' ⟨m,rfl,hm,rfl⟩
   go_wp2
   go_ret
   refine⟨_,rfl, ?_,g⟩;have:=jW 4294967296 (by omega) own n.2.1 hm;rw[n.2.2.2,List.take_of_length_le (Nat.le_refl _)] at this;exact this
def Num (w:World)(n:Nat)(e:Ending)(w':World):Prop:=
 ∃v,e= .returned v∧Own w' w.heap.size 36 .u32 v (Dg.dg 4294967296 n)∧yB w w'
theorem Own.heap {w:World}{base e:Nat}{k:IntKind}{g n:Nat}{zs:List Nat}(h:Own w base e k (.slice (some ⟨g,0,none⟩) n n) zs):
  w.heap[g]? =some (.cells (zs.map (fun n:Nat=>Value.int k n)).toArray e (0,0)):=by
 have d:=h.len;subst d
 rcases h.2 with⟨a,_⟩| ⟨j,cap',i,a,l,c,o,m,b,f⟩
 ·simp at a
 ·simp only[Value.slice.injEq,Option.some.injEq,Addr.mk.injEq,and_true,true_and] at a
  obtain⟨rfl,rfl⟩:=a;rw[c,←f,List.take_of_length_le (by rw[Array.length_toList,b];omega)]
theorem Own.cap {w:World}{base e:Nat}{k:IntKind}{g n cap:Nat}{zs:List Nat}(h:Own w base e k (.slice (some ⟨g,0,none⟩) n cap) zs):n≤cap∧cap≤9223372036854775807:=by
 have c:=h.len;subst c
 rcases h.2 with⟨a,_⟩| ⟨i,cap',f,a,j,m,d,b,l,o⟩
 ·simp at a
 ·simp only[Value.slice.injEq,Option.some.injEq,Addr.mk.injEq,and_true,true_and] at a
  obtain⟨rfl,rfl⟩:=a;exact⟨d,by unfold maxLen at b;exact b⟩
theorem ur (x y c:Nat)(w:World)(b:x<4294967296)(d:y<4294967296)(a:c≤1):
  yC 103 #[.int .u32 x,.int .u32 y,.int .u32 c] w fun e w'=>e= .returned (.tuple #[.int .u32 ((x+y+c) % 4294967296:Nat),.int .u32 ((x+y+c)/4294967296:Nat)])∧w'=w:=by
 go_enter func103,ntmps103
 go_wp2
 go_ret2
 exact⟨by go_num,rfl⟩
def Qv (xs ys ps:List Nat)(k c:Nat):Prop:=
 ps.length=xs.length+1∧Dg.Small 4294967296 ps∧c≤1∧Dg.vl 4294967296 (ps.take k)+4294967296^k*c=Dg.vl 4294967296 (xs.take k)+Dg.vl 4294967296 (ys.take k)
theorem sQ (l:List Nat)(k x:Nat)(h:k<l.length):Dg.vl 4294967296 ((l.set k x).take (k+1))=Dg.vl 4294967296 (l.take k)+4294967296^k*x:=by
 rw[Dg.vl_take_succ _ _ _ (by simpa using h),Dg.getD_set _ _ _ _ h,if_pos rfl,List.take_set_of_le (Nat.le_refl _)]
theorem pO (l:List Nat)(k:Nat):Dg.vl 4294967296 (l.take (k+1))=Dg.vl 4294967296 (l.take k)+4294967296^k*l.getD k 0:=by
 by_cases h:k<l.length
 ·exact Dg.vl_take_succ _ _ _ h
 ·rw[List.take_of_length_le (by omega),List.take_of_length_le (by omega),Dg.getD_of_le _ _ (by omega)];omega
theorem zq {xs a b:List Nat}{k c x y:Nat}(h:Qv xs a b k c)(o:k<xs.length)(g:xs.getD k 0=x)(i:a.getD k 0=y)(p:x<4294967296)(q:y<4294967296):
  Qv xs a (b.set k ((x+y+c) % 4294967296)) (k+1) ((x+y+c)/4294967296):=by
 obtain⟨d,f,m,n⟩:=h;refine⟨by simpa using d,Dg.small_set f _ _ (Nat.mod_lt _ (by omega)),by omega, ?_⟩;rw[sQ _ _ _ (by omega),pO xs,pO a,g,i];have e:4294967296^ (k+1)*((x+y+c)/4294967296)=4294967296^k*(4294967296*((x+y+c)/4294967296)):=by rw[Nat.pow_succ,Nat.mul_assoc]
 have j:4294967296^k*(x+y+c)=4294967296^k*((x+y+c) % 4294967296)+4294967296^k*(4294967296*((x+y+c)/4294967296)):=by
  rw[←Nat.mul_add,Nat.mod_add_div]
 have l:4294967296^k*(x+y+c)=4294967296^k*x+4294967296^k*y+4294967296^k*c:=by rw[Nat.mul_add,Nat.mul_add]
 rw[e];omega
theorem Nc {xs b a:List Nat}{c:Nat}(h:Qv xs b a xs.length c)(g:b.length≤xs.length):(a.set xs.length c).length=xs.length+1∧Dg.Small 4294967296 (a.set xs.length c)∧Dg.vl 4294967296 (a.set xs.length c)=Dg.vl 4294967296 xs+Dg.vl 4294967296 b:=by
 obtain⟨d,e,i,f⟩:=h;refine⟨by simpa using d,Dg.small_set e _ _ (by omega), ?_⟩;have:=sQ a xs.length c (by omega);rw[List.take_of_length_le (by simp;omega)] at this;rw[this];rw[List.take_of_length_le (Nat.le_refl xs.length),List.take_of_length_le g] at f;omega
def Z7 (xs ys ps:List Nat)(k c:Nat):Prop:=
 ps.length=xs.length∧Dg.Small 4294967296 ps∧c≤1∧Dg.vl 4294967296 (xs.take k)+4294967296^k*c=Dg.vl 4294967296 (ps.take k)+Dg.vl 4294967296 (ys.take k)
theorem Z8 {xs a b:List Nat}{c:Nat}(h:Z7 xs a b xs.length c)(j:a.length≤xs.length)(m:Dg.vl 4294967296 a≤Dg.vl 4294967296 xs):Dg.vl 4294967296 b=Dg.vl 4294967296 xs-Dg.vl 4294967296 a:=by
 obtain⟨d,f,l,g⟩:=h;rw[List.take_of_length_le (Nat.le_refl xs.length),List.take_of_length_le j,List.take_of_length_le (by omega)] at g;have k:=Dg.vl_lt 4294967296 b f;rw[d] at k;have i:c=0:=by
  rcases Nat.eq_zero_or_pos c with e|e
  ·exact e
  ·have:c=1:=by omega
   subst this;omega
 subst i;omega
theorem aH (B n m:Nat)(a:2≤B)(h:n≤m):(Dg.dg B n).length≤(Dg.dg B m).length:=by
 refine Dg.dg_len_le B n _ a ?_;have:=Dg.vl_lt B (Dg.dg B m) (Dg.small_dg B m a);rw[Dg.vl_dg B m a] at this;omega
def KM (xs ups:List Nat)(wh P k:Nat):Prop:=
 ups.length=xs.length+wh+1∧Dg.Small 4294967296 ups∧(∀j,wh+k<j→ups.getD j 0=0)∧ups.getD (wh+k) 0<P∧Dg.vl 4294967296 ups=4294967296^wh*(Dg.vl 4294967296 (xs.take k)*P)
theorem Nz (xs:List Nat)(a P:Nat)(c:0<P):KM xs (List.replicate (xs.length+a+1) 0) a P 0:=by
 have b: ∀j,(List.replicate (xs.length+a+1) 0).getD j 0=0:=fun j=>by
  by_cases h:j<xs.length+a+1<;>simp[List.getD_eq_getElem?_getD,h]
 exact⟨by simp,Dg.small_replicate _ _ (by omega),fun j _=>b j,by rw[b];exact c,by simp[Dg.vl_replicate_zero,Dg.vl]⟩
theorem QJ {xs b:List Nat}{a P k x:Nat}(h:KM xs b a P k)(v:k<xs.length)(w:xs.getD k 0=x)(y:x<4294967296)(s: ∃Q,P*Q=4294967296)(r:0<P):
  KM xs ((b.set (a+k) (b.getD (a+k) 0+x*P % 4294967296)).set (a+k+1) (x*P/4294967296)) a P (k+1):=by
 obtain⟨o,p,i,C,q⟩:=h;obtain⟨Q,c⟩:=s;have u:x*P/4294967296<P:=by
  rw[Nat.div_lt_iff_lt_mul (by omega),Nat.mul_comm P];exact Nat.mul_lt_mul_of_pos_right y r
 have D:P≤4294967296:=by
  rw[←c];exact Nat.le_mul_of_pos_right _ (by
   rcases Nat.eq_zero_or_pos Q with e|e
   ·subst e;simp at c
   ·exact e)
 have F:x*P % 4294967296+P≤4294967296:=by
  have e:x*P % 4294967296=P*(x % Q):=by rw[←c,Nat.mul_comm x P,Nat.mul_mod_mul_left]
  have t:0<Q:=by
   rcases Nat.eq_zero_or_pos Q with e|e
   ·subst e;simp at c
   ·exact e
  have d:P*(x % Q+1)≤P*Q:=Nat.mul_le_mul_left _ (Nat.mod_lt _ t);rw[Nat.mul_add,Nat.mul_one] at d;rw[e];omega
 have f:a+k<b.length:=by omega
 have g:a+k+1< (b.set (a+k) (b.getD (a+k) 0+x*P % 4294967296)).length:=by simp;omega
 refine⟨by simpa using o,Dg.small_set (Dg.small_set p _ _ (by omega)) _ _ (by omega),fun j E=> ?_, ?_, ?_⟩
 ·rw[Dg.getD_set _ _ _ _ g,if_neg (by omega),Dg.getD_set _ _ _ _ f,if_neg (by omega)];exact i j (by omega)
 ·rw[show a+(k+1)=a+k+1 from by omega,Dg.getD_set _ _ _ _ g,if_pos rfl];exact u
 ·have z:=Dg.vl_set 4294967296 b (a+k) (b.getD (a+k) 0+x*P % 4294967296) f
  have l:=Dg.vl_set 4294967296 (b.set (a+k) (b.getD (a+k) 0+x*P % 4294967296)) (a+k+1) (x*P/4294967296) g;have A:=i (a+k+1) (by omega);have B:(b.set (a+k) (b.getD (a+k) 0+x*P % 4294967296)).getD (a+k+1) 0=0:=by rw[Dg.getD_set _ _ _ _ f,if_neg (by omega)];exact A
  rw[B] at l;rw[Dg.vl_take_succ _ _ _ v,w,Nat.add_mul,Nat.mul_add,←q];have m:4294967296^ (a+k+1)*(x*P/4294967296)=4294967296^ (a+k)*(4294967296*(x*P/4294967296)):=by rw[Nat.pow_succ,Nat.mul_assoc]
  have d:4294967296^a*(4294967296^k*x*P)=4294967296^ (a+k)*(x*P):=by rw[Nat.pow_add,Nat.mul_assoc,Nat.mul_assoc]
  have n:4294967296^ (a+k)*(x*P)=4294967296^ (a+k)*(x*P % 4294967296)+4294967296^ (a+k)*(4294967296*(x*P/4294967296)):=by
   rw[←Nat.mul_add,Nat.mod_add_div]
  rw[Nat.mul_add] at z;rw[d,n];rw[m] at l;omega
theorem Vh (P Q:Nat)(l:List Nat):l.headD 0 % P=Dg.vl (P*Q) l % P:=by
 cases l with
 |nil=>simp[Dg.vl]
 |cons y l=>simp only[List.headD_cons,Dg.vl];rw[Nat.mul_assoc,Nat.add_mul_mod_self_left]
def Tab (w:World):Prop:= ∀j,j<32→w.cell? ⟨0,j,none⟩=some (.int .u8 ((Lib.deBruijn32tab.getD j 0:Nat):Int))
theorem Tab.l {w w':World}(h:Tab w)(a:yB w w'):Tab w':=fun j b=>cell_later a (h j b)
def Loc (w:World)(b:Nat)(v0 v1 v2:Value):Prop:=
 b<w.heap.size∧(w.cell? ⟨b,0,none⟩=some v0∧w.cell? ⟨b,1,none⟩=some v1∧w.cell? ⟨b,2,none⟩=some v2)∧w.frozen? ⟨b,0,none⟩=false∧w.frozen? ⟨b,1,none⟩=false∧w.frozen? ⟨b,2,none⟩=false
theorem aA (w:World)(a b c:Value)(d:TypeId):Loc (w.alloc (.cells #[a,b,c] d)) w.heap.size a b c:=by
 refine⟨by simp[World.size_alloc],⟨?_, ?_, ?_⟩, ?_, ?_, ?_⟩
 ·rw[World.cell?_alloc_at _ _ _ _ rfl];rfl
 ·rw[World.cell?_alloc_at _ _ _ _ rfl];rfl
 ·rw[World.cell?_alloc_at _ _ _ _ rfl];rfl
 ·exact World.frozen?_alloc_at _ _ _ _ rfl
 ·exact World.frozen?_alloc_at _ _ _ _ rfl
 ·exact World.frozen?_alloc_at _ _ _ _ rfl
theorem aD {w:World}{b:Nat}{q d e:Value}(h:Loc w b q d e)(a c f:Value):
  Loc (((w.setCell ⟨b,0,none⟩ a).setCell ⟨b,1,none⟩ c).setCell ⟨b,2,none⟩ f) b a c f:=by
 obtain⟨n,⟨g,i,j⟩,k,l,m⟩:=h;refine⟨by simpa using n,⟨?_, ?_, ?_⟩, ?_, ?_, ?_⟩
 ·rw[World.cell?_setCell_other (h:=by simp),World.cell?_setCell_other (h:=by simp)]
  exact World.cell?_setCell_same _ _ _ g
 ·have o:(w.setCell ⟨b,0,none⟩ a).cell? ⟨b,1,none⟩=some d:=by rw[World.cell?_setCell_other (h:=by simp)];exact i
  rw[World.cell?_setCell_other (h:=by simp)];exact World.cell?_setCell_same _ _ _ o
 ·have p:((w.setCell ⟨b,0,none⟩ a).setCell ⟨b,1,none⟩ c).cell? ⟨b,2,none⟩=some e:=by rw[World.cell?_setCell_other (h:=by simp),World.cell?_setCell_other (h:=by simp)];exact j
  exact World.cell?_setCell_same _ _ _ p
 ·simpa using k
 ·simpa using l
 ·simpa using m
theorem Own.apart {w w':World}{base e b:Nat}{k:IntKind}{v:Value}{zs:List Nat}(h:Own w base e k v zs)(i:w.grownBy w' (some b))(n:b<base):Own w' base e k v zs:=by
 obtain⟨j,c⟩:=h;refine⟨j, ?_⟩
 rcases c with c| ⟨a,cap',f,m,g,d,r⟩
 ·exact .inl c
 ·refine .inr ⟨a,cap',f,m,g, ?_,r⟩
  have l:a<w.heap.size:=by
   rw[Array.getElem?_eq_some_iff] at d;exact d.1
  rw[i.block a l (by intro e;cases e;omega)]
  exact d
theorem af (w:World)(o:Obj):yB w (w.alloc o):=(Below.refl _ _).alloc (Nat.le_refl _) _
theorem cN (b:Bool)(a:Option Addr)(n c:Nat)(e:Int)(w:World):yC 65 #[ydV b (.slice a n c) e] w (yR w (.slice a n c)):=by
 have d:yB w (w.alloc (.cells (ydA b (.slice a n c) e) 48)):=(Below.refl _ _).alloc (Nat.le_refl _) _
 go_enter func65,ntmps65
 go_wp2
 go_ret
 exact⟨rfl,d⟩
theorem l9 (b:Bool)(a:Option Addr)(n c:Nat)(e:Int)(w:World):yC 64 (ydA b (.slice a n c) e) w (yR w (ydV b (.slice a n c) e)):=by
 go_enter func64,ntmps64
 go_wp2
 go_returns
 exact⟨rfl,(Below.refl _ _).alloc (Nat.le_refl _) _⟩
def au (w:World)(b:Nat)(ty:TypeId)(vs:List Value):Prop:=w.heap[b]? =some (.cells vs.toArray ty (0,0))
theorem au.lt {w:World}{b:Nat}{a:TypeId}{c:List Value}(h:au w b a c):b<w.heap.size:=(Array.getElem?_eq_some_iff.1 h).1
theorem ah (w:World)(b:List Value)(a:TypeId):au (w.alloc (.cells b.toArray a)) w.heap.size a b:=heap_alloc_new _ _
theorem au.c {w:World}{b:Nat}{e:TypeId}{a:List Value}(h:au w b e a)(i:Nat){v:Value}(d:a[i]? =some v):w.cell? ⟨b,i,none⟩=some v:=by
 unfold World.cell?;simp only;rw[h]
 simpa using d
theorem au.f {w:World}{b:Nat}{a:TypeId}{c:List Value}(h:au w b a c)(i:Nat):w.frozen? ⟨b,i,none⟩=false:=by
 unfold World.frozen?;simp only;rw[h];simp
theorem au.set {w:World}{b:Nat}{a:TypeId}{c:List Value}(h:au w b a c)(i:Nat)(x:Value):au (w.setCell ⟨b,i,none⟩ x) b a (c.set i x):=by
 have d:=h.lt;have e:w.heap[b]= .cells c.toArray a (0,0):=by simpa[au,Array.getElem?_eq_getElem d] using h
 show(w.heap.modify b _)[b]? =_
 rw[Array.getElem?_eq_getElem (by simpa using d),Array.getElem_modify_self,e];simp
theorem au.off {w:World}{b c:Nat}{a:TypeId}{d:List Value}(h:au w b a d)(f:c≠b)(i:Nat)(x:Value):au (w.setCell ⟨c,i,none⟩ x) b a d:=by
 unfold au;rw[Below.heap_setCell _ _ _ _ (fun e=>f e.symm)]
 exact h
def wF (b:Nat)(v:Value)(zs:List Nat):Prop:=0<zs.length→ ∀a n c,v= .slice (some a) n c→a.block≠b
structure But (b:Nat) (w w':World):Prop where
 os:w'.os=w.os
 tape:w'.tape=w.tape
 output:w'.output=w.output
 size:w'.heap.size=w.heap.size
 block: ∀k,k≠b→w'.heap[k]? =w.heap[k]?
theorem But.trans {b:Nat}{w c d:World}(h:But b w c)(k:But b c d):But b w d:=
 ⟨k.os.trans h.os,k.tape.trans h.tape,k.output.trans h.output,k.size.trans h.size,fun i a=>(k.block i a).trans (h.block i a)⟩
theorem But.c {b:Nat}{w w':World}(h:But b w w'){a:Addr}(d:a.block≠b):w'.cell? a=w.cell? a:=by
 unfold World.cell?;rw[h.block a.block d]
theorem CF (n k L j:Nat)(h:(Dg.dg 4294967296 n).length≤L)(l:k≤32*j):(Dg.dg 4294967296 (n*2^k)).length≤L+j:=by
 apply Dg.dg_len_le 4294967296 _ _ (by omega);have a:=Dg.vl_lt 4294967296 (Dg.dg 4294967296 n) (Dg.small_dg _ _ (by omega));rw[Dg.vl_dg _ _ (by omega)] at a;have f:4294967296^ (Dg.dg 4294967296 n).length≤4294967296^L:=Nat.pow_le_pow_right (by omega) h;have b:2^k≤4294967296^j:=by
  rw[show(4294967296:Nat)=2^32 from rfl,←Nat.pow_mul]
  exact Nat.pow_le_pow_right (by omega) (by omega)
 rw[Nat.pow_add];have e:0<4294967296^j:=Nat.pow_pos (by omega);generalize 4294967296^j=c at*;generalize 4294967296^L=d at*;have g:n*2^k≤n*c:=Nat.mul_le_mul_left _ b;have i:n*c<d*c:=Nat.mul_lt_mul_of_pos_right (by omega) e;omega
def ZB (w:World)(b:Nat):Prop:=b<w.heap.size∧ ∃ty,w.heap[b]? =some (.cells (ydA false yN 0) ty (0,0))
theorem ZB.rd {w:World}{b:Nat}{v:Value}{zs:List Nat}(h:ZB w b)(t:Rd w .i64 v zs)(r:Dg.Norm zs)(u x y:Value):
  Rd (((w.setCell ⟨b,0,none⟩ u).setCell ⟨b,1,none⟩ x).setCell ⟨b,2,none⟩ y) .i64 v zs:=by
 obtain⟨z,C,p⟩:=h;obtain⟨k,cap,rfl,l,m,n⟩:=t;refine⟨k,cap,rfl,l,m,fun g=> ?_⟩
 obtain⟨c,j,rfl,f⟩:=n g;refine⟨c,j,rfl,fun i q=> ?_⟩
 have A:c≠b:=by
  intro e;subst e;have a:=f (zs.length-1) (by omega);have B:=r (List.length_pos_iff.1 g);unfold World.cell? at a;simp only[p] at a;obtain⟨o,s⟩: ∃o,j+(zs.length-1)=o:=⟨_,rfl⟩;rw[s] at a;generalize zs.getD (zs.length-1) 0=d at*
  match o,a with
  |0,a=>simp at a
  |1,a=>simp at a
  |2,a=>simp at a;omega
  |o+3,a=>simp at a
 rw[World.cell?_setCell_other (h:=by simp),World.cell?_setCell_other (h:=by simp),World.cell?_setCell_other (h:=by simp)];exact f i q
structure ik (w:World) (g:Nat) (zs:List Nat):Prop where
 c: ∀i,i<zs.length→w.cell? ⟨g,i,none⟩=some (.int .u8 ((zs.getD i 0:Nat):Int))
 f: ∀i,i<zs.length→w.frozen? ⟨g,i,none⟩=false
 lt:g<w.heap.size
theorem Eu {w w':World}{g i:Nat}(h:w'.heap[g]? =w.heap[g]?):w'.frozen? ⟨g,i,none⟩=w.frozen? ⟨g,i,none⟩:=by
 unfold World.frozen?;simp only[h]
end Go.Proofs.YthhiidikgchdeabGreatDoor
