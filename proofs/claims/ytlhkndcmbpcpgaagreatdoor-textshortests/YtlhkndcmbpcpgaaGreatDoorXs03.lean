/- Texts laid together. -/
import Derived.Laws.ResultCell
import Derived.ChangeMaps4
import Derived.Deep.DeepCutAuto
import Derived.Deep.RegionWith
import Derived.Laws.OwnMore
import Derived.Deep.AppendLies
import Derived.Laws.IdiomStrings
import Derived.Test.YtlhkndcmbpcpgaaGreatDoorXs01
set_option maxRecDepth 100000
set_option maxHeartbeats 3200000
namespace Go.Proofs.YtlhkndcmbpcpgaaGreatDoor
open _root_.Go.Proofs.Tryz
open Go.RowKit
theorem Rd.shape {w:World}{k:IntKind}{v:Value}{zs:List Nat}(h:Rd w k v zs): ∃a cap,v= .slice a zs.length cap:=by
 obtain⟨a,cap,b,_⟩:=h;exact⟨a,cap,b⟩
theorem Own.rd {w:World}{base e:Nat}{k:IntKind}{v:Value}{zs:List Nat}(h:Own w base e k v zs):Rd w k v zs:=by
 obtain⟨q,j⟩:=h
 rcases j with⟨a,r⟩| ⟨g,cap,f,a,l,p,d,b,o,t⟩
 ·refine⟨none,0,by rw[a,r],by omega,by unfold maxLen;omega,fun s=>by omega⟩
 ·refine⟨_,cap,a,d,b,fun s=>⟨g,0,rfl,fun i c=> ?_⟩⟩
  have m:=World.ownsRow.cellAt (w:=w) (base:=base) (e:=e) (size:=1) (g:=g) (n:=zs.length) (cap:=cap) (xs:=zs.map (fun n:Nat=>Value.int k (n:Int))) ⟨q,.inr ⟨g,cap,f,rfl,l,p,d,b,o,t⟩⟩ i (by omega)
  rw[Nat.zero_add,m,List.getElem?_map,List.getElem?_eq_getElem c];simp[List.getD_eq_getElem?_getD,c]
theorem Own.store {w:World}{base e:Nat}{k:IntKind}{g n cap:Nat}{zs:List Nat}(h:Own w base e k (.slice (some ⟨g,0,none⟩) n cap) zs)(j x:Nat):
  Own (w.setCell ⟨g,j,none⟩ (.int k x)) base e k (.slice (some ⟨g,0,none⟩) n cap) (zs.set j x):=by
 have a:=h.len;subst a;have:=(World.ownsRow.stored h j (.int k x)).1;unfold Own;rw[List.length_set,List.map_set];exact this
theorem aQ (w:World)(base e:Nat)(k:IntKind):Own w base e k yN []:=World.ownsRow_nil w base e 1
theorem gL {w:World}{base e:Nat}{k:IntKind}{v:Value}{n:Nat}(h:w.ownsRow base e 1 v n (madeCells #[Value.int k 0] n).toList):Own w base e k v (List.replicate n 0):=by
 rw[toList_madeCells_one] at h
 simpa[Own] using h
def V (K:Nat)(a:ak):Int:=sz a.s a.n*((2^ (a.e+K).toNat:Nat):Int)
theorem jD (a:Option Addr)(p cap:Nat)(zs:List Nat)(w:World)(h:Rd w .u32 (.slice a p cap) zs):
  yC 81 #[.slice a p cap] w fun e w'=> ∃n,e= .returned (.slice a n cap)∧Ou zs n∧w'=w:=by
 obtain rfl:=wn h;obtain⟨t,u,j⟩:=iQ h
 go_enter func81,ntmps81
 go_wp2
 go_loop [3] (fun i=> ∃k:Nat,k≤zs.length∧i=yi k∧Hid (∀i,k≤i→zs.getD i 0=0)) (fun i=>(intOf i).toNat)
 case atStart=>exact⟨zs.length,Nat.le_refl _,rfl,fun i o=>Dg.getD_of_le _ _ o⟩
 case round=>
  obtain⟨k,r,rfl,f⟩:=hrel
  by_cases s:k=0
  ·subst s
   go_wp2
   go_ret
   exact⟨0,rfl,⟨Nat.zero_le _,f,fun h=>absurd h (by omega)⟩,rfl⟩
  ·obtain⟨b,v,rfl,l⟩:=j (by omega)
   have q:=l (k-1) (by omega);obtain⟨d,c⟩: ∃d,zs.getD (k-1) 0=d:=⟨_,rfl⟩;rw[c] at q;have g:Hid _:=c;clear c l j h
   by_cases m:d=0
   ·subst m
    go_wp2
    go_round
    case rel=>exact⟨k-1,by omega,by go_num,fun i o=>by
     by_cases e:i=k-1
     ·rw[e];exact g.out
     ·exact f i (by omega)⟩
    case measure=>simp[intOf];omega
   ·go_wp2
    go_ret
    exact⟨k,rfl,⟨r,f,fun _=>by rw[g.out];exact m⟩,rfl⟩
theorem i9 (a:Option Addr)(p cap:Nat)(zs:List Nat)(w:World)(h:Rd w .i64 (.slice a p cap) zs):
  yC 92 #[.slice a p cap] w fun e w'=> ∃n,e= .returned (.slice a n n)∧Ou zs n∧w'=w:=by
 obtain rfl:=wn h;obtain⟨t,u,j⟩:=iQ h
 go_enter func92,ntmps92
 go_wp2
 go_loop [3] (fun i=> ∃k:Nat,k≤zs.length∧i=yi k∧Hid (∀i,k≤i→zs.getD i 0=0)) (fun i=>(intOf i).toNat)
 case atStart=>exact⟨zs.length,Nat.le_refl _,rfl,fun i o=>Dg.getD_of_le _ _ o⟩
 case round=>
  obtain⟨k,r,rfl,f⟩:=hrel
  by_cases s:k=0
  ·subst s
   go_wp2
   go_ret
   exact⟨0,rfl,⟨Nat.zero_le _,f,fun h=>absurd h (by omega)⟩,rfl⟩
  ·obtain⟨b,v,rfl,l⟩:=j (by omega)
   have q:=l (k-1) (by omega);obtain⟨d,c⟩: ∃d,zs.getD (k-1) 0=d:=⟨_,rfl⟩;rw[c] at q;have g:Hid _:=c;clear c l j h
   by_cases m:d=0
   ·subst m
    go_wp2
    go_round
    case rel=>exact⟨k-1,by omega,by go_num,fun i o=>by
     by_cases e:i=k-1
     ·rw[e];exact g.out
     ·exact f i (by omega)⟩
    case measure=>simp[intOf];omega
   ·go_wp2
    go_ret
    exact⟨k,rfl,⟨r,f,fun _=>by rw[g.out];exact m⟩,rfl⟩
theorem Tryz.infoU32:(Tryz.prog.info? 105).map (fun i=>(i.zero,i.size,i.bytes))=some (some (.int .u32 0),1,4):=by kernel_rfl
def abn (xs ys ps:List Nat)(i:Nat):Prop:=
 ps.length=xs.length+ys.length∧Dg.Small 4294967296 ps∧(∀j,i+ys.length≤j→ps.getD j 0=0)∧Dg.vl 4294967296 ps=Dg.vl 4294967296 (xs.take i)*Dg.vl 4294967296 ys
def YE (xs ys ps:List Nat)(i j c:Nat):Prop:=
 ps.length=xs.length+ys.length∧Dg.Small 4294967296 ps∧c<4294967296∧(∀j,i+ys.length≤j→ps.getD j 0=0)∧
  Dg.vl 4294967296 ps+4294967296^ (i+j)*c=Dg.vl 4294967296 (xs.take i)*Dg.vl 4294967296 ys+4294967296^i*(xs.getD i 0*Dg.vl 4294967296 (ys.take j))
theorem QF (xs a:List Nat):abn xs a (List.replicate (xs.length+a.length) 0) 0:=by
 refine⟨by simp,Dg.small_replicate _ _ (by omega),fun j _=> ?_, ?_⟩
 ·by_cases h:j<xs.length+a.length<;>simp[List.getD_eq_getElem?_getD,h]
 ·simp[Dg.vl_replicate_zero,Dg.vl]
theorem QG {xs b a:List Nat}{i:Nat}(h:abn xs b a i):YE xs b a i 0 0:=
 ⟨h.1,h.2.1,by omega,h.2.2.1,by rw[h.2.2.2];simp[Dg.vl]⟩
theorem UO {xs a b:List Nat}{i j c:Nat}(h:YE xs a b i j c)(u:i<xs.length)(m:j<a.length)(t:Nat)(p:t=c+(xs.getD i 0*a.getD j 0+b.getD (i+j) 0))(v:t<18446744073709551616):
  YE xs a (b.set (i+j) (t % 4294967296)) i (j+1) (t/4294967296):=by
 obtain⟨e,f,q,g,r⟩:=h;have d:i+j<b.length:=by omega
 refine⟨by simpa using e,Dg.small_set f _ _ (Nat.mod_lt _ (by omega)),by omega,fun k n=> ?_, ?_⟩
 ·rw[Dg.getD_set _ _ _ _ d,if_neg (by omega)];exact g k n
 ·have x:=Dg.vl_set 4294967296 b (i+j) (t % 4294967296) d
  rw[Dg.vl_take_succ _ _ _ m];have o:4294967296^ (i+(j+1))*(t/4294967296)=4294967296^ (i+j)*(4294967296*(t/4294967296)):=by
   rw[show i+(j+1)=(i+j)+1 from by omega,Nat.pow_succ,Nat.mul_assoc]
  have w:4294967296^ (i+j)*t=4294967296^ (i+j)*(t % 4294967296)+4294967296^ (i+j)*(4294967296*(t/4294967296)):=by
   rw[←Nat.mul_add,Nat.mod_add_div]
  have s:4294967296^ (i+j)*t=4294967296^ (i+j)*c+4294967296^ (i+j)*(xs.getD i 0*a.getD j 0)+4294967296^ (i+j)*b.getD (i+j) 0:=by
   rw[p,Nat.mul_add,Nat.mul_add,Nat.add_assoc]
  have l:4294967296^i*(xs.getD i 0*(Dg.vl 4294967296 (a.take j)+4294967296^j*a.getD j 0))=4294967296^i*(xs.getD i 0*Dg.vl 4294967296 (a.take j))+4294967296^ (i+j)*(xs.getD i 0*a.getD j 0):=by
   rw[Nat.mul_add,Nat.mul_add,Nat.pow_add]
   congr 1
   rw[Nat.mul_assoc,Nat.mul_left_comm (xs.getD i 0)]
  rw[o,l];omega
theorem UP {xs a b:List Nat}{i c:Nat}(h:YE xs a b i a.length c)(m:i<xs.length):abn xs a (b.set (i+a.length) c) (i+1):=by
 obtain⟨f,g,j,d,l⟩:=h;have e:i+a.length<b.length:=by omega
 refine⟨by simpa using f,Dg.small_set g _ _ j,fun k o=> ?_, ?_⟩
 ·rw[Dg.getD_set _ _ _ _ e,if_neg (by omega)];exact d k (by omega)
 ·have n:=Dg.vl_set 4294967296 b (i+a.length) c e
  rw[d _ (Nat.le_refl _)] at n;rw[Dg.vl_take_succ _ _ _ m,Nat.add_mul,Nat.mul_assoc];rw[List.take_of_length_le (Nat.le_refl _)] at l;omega
theorem uf {x y:Nat}(a:x<4294967296)(b:y<4294967296):x*y≤18446744065119617025:=by
 have:=Nat.mul_le_mul (Nat.le_sub_one_of_lt a) (Nat.le_sub_one_of_lt b)
 simpa using this
theorem YF (c x y p:Nat):((c:Int)+((x:Int)*(y:Int)+(p:Int))) % 4294967296=(((c+(x*y+p)) % 4294967296:Nat):Int):=by
 rw[←Int.natCast_mul];omega
theorem YG (c x y p:Nat):((c:Int)+((x:Int)*(y:Int)+(p:Int)))/4294967296=(((c+(x*y+p))/4294967296:Nat):Int):=by
 rw[←Int.natCast_mul];omega
theorem jW {w:World}{base e:Nat}{k:IntKind}{g n cap m:Nat}{zs:List Nat}(B:Nat)(b:2≤B)(h:Own w base e k (.slice (some ⟨g,0,none⟩) n cap) zs)(c:Dg.Small B zs)(a:Ou zs m):
  Own w base e k (.slice (some ⟨g,0,none⟩) m cap) (Dg.dg B (Dg.vl B zs)):=by
 rw[←Dg.trim_eq B b zs m c a.1 a.2.1 a.2.2];exact h.take m a.1
theorem qC (N O:Value)(xs a:List Nat)(w:World)(T:Rd w .u32 N xs)(U:Rd w .u32 O a)(sa:Dg.Small 4294967296 xs)(sb:Dg.Small 4294967296 a)(a8:xs.length≤1000000)(a9:a.length≤1000000):
  yC 78 #[N,O] w fun e w'=>
   ∃v,e= .returned v∧Own w' w.heap.size 105 .u32 v (Dg.dg 4294967296 (Dg.vl 4294967296 xs*Dg.vl 4294967296 a))∧yB w w':=by
 obtain⟨i0,X,a2,a3,a4⟩:=info_parts Tryz.infoU32;obtain⟨ao,ca,rfl,-,-,B⟩:=T;obtain⟨bo,cb,rfl,-,-,C⟩:=U
 go_enter func78,ntmps78
 go_wp2_with (at_make;refine wpList_make_full _ rfl _ _ 47 rfl w.heap.size 105 i0 (.int .u32 0) 1 underlying47 X a2 a3 _ _ _ _ (xs.length+a.length) rfl rfl (by omega) (by omega) ?z ?b3 (Nat.le_refl _) ?_)
 case z=>rw[a4];omega
 case b3=>unfold maxLen;omega
 intro w0 H F;have M:=gL H;have A:yB w w0:=(Below.refl _ _).grown F (Nat.le_refl _) (fun k h=>by cases h)
 clear H F
 go_wp2
 go_loopw [19] (fun t wr=> ∃(i:Nat) (d:List Nat),i≤xs.length∧t=yi i∧Own wr w.heap.size 105 .u32 (.slice (some ⟨w.heap.size,0,none⟩) (xs.length+a.length) (xs.length+a.length)) d∧abn xs a d i∧yB w wr)
  (fun t _=>xs.length-(intOf t).toNat)
 case atStart=>exact⟨0,_,Nat.zero_le _,rfl,M,QF xs a,A⟩
 case round=>
  obtain⟨i,d,a6,rfl,own,n,g⟩:=hrel
  by_cases s:i<xs.length
  ·obtain⟨b,ae,rfl,D⟩:=B (by omega)
   have J:=cell_later g (D i s);have K:=sa i;obtain⟨x,q⟩: ∃x,xs.getD i 0=x:=⟨_,rfl⟩;rw[q] at J K;have Q:Hid _:=q;clear q D B M A
   go_wp2
   go_loopw [8,26] (fun S u wr=> ∃(j c:Nat) (d:List Nat),j≤a.length∧u=yi j∧S= .int .u64 c∧Own wr w.heap.size 105 .u32 (.slice (some ⟨w.heap.size,0,none⟩) (xs.length+a.length) (xs.length+a.length)) d∧YE xs a d i j c∧yB w wr)
    (fun _ u _=>a.length-(intOf u).toNat)
   case atStart=>exact⟨0,0,d,Nat.zero_le _,rfl,rfl,own,QG n,g⟩
   case round=>
    clear own n g d J;obtain⟨j,c,d,a7,rfl,rfl,own,l,g⟩:=hrel;have a0:=l.1;have a5:=l.2.2.1
    by_cases G:j<a.length
    ·obtain⟨z,al,rfl,E⟩:=C (by omega)
     have hy:=cell_later g (E j G);have L:=sb j;have I:=own.c (i+j) (by omega);have a1:=l.2.1 (i+j);have W:=own.f (i+j);obtain⟨y,r⟩: ∃y,a.getD j 0=y:=⟨_,rfl⟩;obtain⟨p,o⟩: ∃p,d.getD (i+j) 0=p:=⟨_,rfl⟩;rw[r] at hy L;rw[o] at I a1;have R:Hid _:=r;have P:Hid _:=o;have ab:=uf K L;have ad:(x:Int)*(y:Int)≤18446744065119617025:=by rw[←Int.natCast_mul];omega
     have ac:0≤(x:Int)*(y:Int):=by rw[←Int.natCast_mul];omega
     clear r o E C
     go_wp2
     go_roundw
     case rel=>
      rw[YF,YG];exact⟨j+1,(c+(x*y+p))/4294967296,_,by omega,by go_num,rfl,own.store (i+j) _,UO l s G _ (by rw[Q.out,R.out,P.out]) (by omega),g.setCell (by exact Nat.le_refl _) _⟩
     case measure=>simp[intOf];omega
    ·have Z:j=a.length:=by omega
     subst Z;have I:=own.c (i+a.length) (by omega);have W:=own.f (i+a.length)
     go_wp2
     go_roundw
     case rel=>exact⟨i+1,_,by omega,by go_num,own.store (i+a.length) c,UP l s,g.setCell (by exact Nat.le_refl _) _⟩
     case measure=>simp[intOf];omega
  ·have Y:i=xs.length:=by omega
   subst Y;have a0:=n.1;have rd:=own.rd
   go_wp2_with fail
   refine(jD _ _ _ d _ rd).mono ?_;rintro e w' ⟨m,rfl,hm,rfl⟩
   go_wp2
   go_ret
   refine⟨_,rfl, ?_,g⟩;have:=jW 4294967296 (by omega) own n.2.1 hm;rw[n.2.2.2,List.take_of_length_le (Nat.le_refl _)] at this;exact this
def Num (w:World)(n:Nat)(e:Ending)(w':World):Prop:=
 ∃v,e= .returned v∧Own w' w.heap.size 105 .u32 v (Dg.dg 4294967296 n)∧yB w w'
theorem iV (B:Nat)(l:List Nat)(k:Nat):Dg.vl B (l.take (k+1))=Dg.vl B (l.take k)+B^k*l.getD k 0:=by
 by_cases h:k<l.length
 ·exact Dg.vl_take_succ _ _ _ h
 ·rw[List.take_of_length_le (by omega),List.take_of_length_le (by omega),Dg.getD_of_le _ _ (by omega)];omega
theorem iW {w wr b:World}{e x:Nat}{k:IntKind}{a:List Nat}{f g:Value}(d:yB w wr)(l:Own wr w.heap.size e k f a)
  (j:b.ownsRow w.heap.size e 1 g (a.length+1) ((a.map (fun n:Nat=>Value.int k (n:Int)))++[.int k x]))
  (h:(wr.alloc (.cells #[.int k x] e)).grownBy b f.ownBlock):
  Own b w.heap.size e k g (a++[x])∧yB w b:=by
 have c:yB wr (wr.alloc (.cells #[.int k x] e)):=(Below.refl _ _).alloc (Nat.le_refl _) _;refine⟨?_, ?_⟩
 ·unfold Own
  simpa using j
 ·refine(aa d c).grown h (Nat.le_trans d.size c.size) (fun k i=> ?_)
  exact(World.ownsRow.lt l k i).1
theorem I0 (B:Nat)(l:List Nat)(c:Dg.Norm l)(k:Nat)(h:k<l.length)(b:0<B):B^k≤Dg.vl B l:=by
 have a:=Dg.vl_ge B l (by intro e;subst e;simp at h) c;exact Nat.le_trans (Nat.pow_le_pow_right b (by omega)) a
def abk (xs ys ps:List Nat)(k c:Nat):Prop:=
 ps.length=k∧Dg.Small 65536 ps∧c≤1∧Dg.vl 65536 ps+65536^k*c=Dg.vl 65536 (xs.take k)+Dg.vl 65536 (ys.take k)∧(0<k→65536^ (k-1)≤Dg.vl 65536 xs+Dg.vl 65536 ys)
theorem Yx {xs b a:List Nat}{k c:Nat}(h:abk xs b a k c)(m: ¬(k<xs.length∨k<b.length∨0<c)):a=Dg.dg 65536 (Dg.vl 65536 xs+Dg.vl 65536 b):=by
 obtain⟨d,e,l,f,g⟩:=h;have i:c=0:=by omega
 subst i;rw[List.take_of_length_le (by omega),List.take_of_length_le (by omega)] at f;refine Dg.eq_dg 65536 (by omega) _ _ e (Dg.norm_of_ge 65536 a e (fun j=> ?_)) (by omega)
 have:=g (by rw[←d];exact List.length_pos_iff.2 j);rw[d];omega
def KM (xs ups:List Nat)(wh P k:Nat):Prop:=
 ups.length=xs.length+wh+1∧Dg.Small 4294967296 ups∧(∀j,wh+k<j→ups.getD j 0=0)∧ups.getD (wh+k) 0<P∧Dg.vl 4294967296 ups=4294967296^wh*(Dg.vl 4294967296 (xs.take k)*P)
theorem Nz (xs:List Nat)(a P:Nat)(c:0<P):KM xs (List.replicate (xs.length+a+1) 0) a P 0:=by
 have b: ∀j,(List.replicate (xs.length+a+1) 0).getD j 0=0:=fun j=>by
  by_cases h:j<xs.length+a+1<;>simp[List.getD_eq_getElem?_getD,h]
 exact⟨by simp,Dg.small_replicate _ _ (by omega),fun j _=>b j,by rw[b];exact c,by simp[Dg.vl_replicate_zero,Dg.vl]⟩
theorem QJ {xs b:List Nat}{a P k x:Nat}(h:KM xs b a P k)(v:k<xs.length)(w:xs.getD k 0=x)(y:x<4294967296)(s: ∃Q,P*Q=4294967296)(r:0<P):
  KM xs ((b.set (a+k) (b.getD (a+k) 0+x*P % 4294967296)).set (a+k+1) (x*P/4294967296)) a P (k+1):=by
 obtain⟨o,p,i,C,q⟩:=h;obtain⟨Q,c⟩:=s;have u:x*P/4294967296<P:=by
  rw[Nat.div_lt_iff_lt_mul (by omega),Nat.mul_comm P];exact Nat.mul_lt_mul_of_pos_right y r
 have D:P≤4294967296:=by
  rw[←c];exact Nat.le_mul_of_pos_right _ (by
   rcases Nat.eq_zero_or_pos Q with e|e
   ·subst e;simp at c
   ·exact e)
 have F:x*P % 4294967296+P≤4294967296:=by
  have e:x*P % 4294967296=P*(x % Q):=by rw[←c,Nat.mul_comm x P,Nat.mul_mod_mul_left]
  have t:0<Q:=by
   rcases Nat.eq_zero_or_pos Q with e|e
   ·subst e;simp at c
   ·exact e
  have d:P*(x % Q+1)≤P*Q:=Nat.mul_le_mul_left _ (Nat.mod_lt _ t);rw[Nat.mul_add,Nat.mul_one] at d;rw[e];omega
 have f:a+k<b.length:=by omega
 have g:a+k+1< (b.set (a+k) (b.getD (a+k) 0+x*P % 4294967296)).length:=by simp;omega
 refine⟨by simpa using o,Dg.small_set (Dg.small_set p _ _ (by omega)) _ _ (by omega),fun j E=> ?_, ?_, ?_⟩
 ·rw[Dg.getD_set _ _ _ _ g,if_neg (by omega),Dg.getD_set _ _ _ _ f,if_neg (by omega)];exact i j (by omega)
 ·rw[show a+(k+1)=a+k+1 from by omega,Dg.getD_set _ _ _ _ g,if_pos rfl];exact u
 ·have z:=Dg.vl_set 4294967296 b (a+k) (b.getD (a+k) 0+x*P % 4294967296) f
  have l:=Dg.vl_set 4294967296 (b.set (a+k) (b.getD (a+k) 0+x*P % 4294967296)) (a+k+1) (x*P/4294967296) g;have A:=i (a+k+1) (by omega);have B:(b.set (a+k) (b.getD (a+k) 0+x*P % 4294967296)).getD (a+k+1) 0=0:=by rw[Dg.getD_set _ _ _ _ f,if_neg (by omega)];exact A
  rw[B] at l;rw[Dg.vl_take_succ _ _ _ v,w,Nat.add_mul,Nat.mul_add,←q];have m:4294967296^ (a+k+1)*(x*P/4294967296)=4294967296^ (a+k)*(4294967296*(x*P/4294967296)):=by rw[Nat.pow_succ,Nat.mul_assoc]
  have d:4294967296^a*(4294967296^k*x*P)=4294967296^ (a+k)*(x*P):=by rw[Nat.pow_add,Nat.mul_assoc,Nat.mul_assoc]
  have n:4294967296^ (a+k)*(x*P)=4294967296^ (a+k)*(x*P % 4294967296)+4294967296^ (a+k)*(4294967296*(x*P/4294967296)):=by
   rw[←Nat.mul_add,Nat.mod_add_div]
  rw[Nat.mul_add] at z;rw[d,n];rw[m] at l;omega
theorem Vh (P Q:Nat)(l:List Nat):l.headD 0 % P=Dg.vl (P*Q) l % P:=by
 cases l with
 |nil=>simp[Dg.vl]
 |cons y l=>simp only[List.headD_cons,Dg.vl];rw[Nat.mul_assoc,Nat.add_mul_mod_self_left]
def Sv (xs ys ps:List Nat)(i:Nat):Prop:=
 ps.length=xs.length+ys.length∧Dg.Small 65536 ps∧(∀j,i+ys.length≤j→ps.getD j 0=0)∧Dg.vl 65536 ps=Dg.vl 65536 (xs.take i)*Dg.vl 65536 ys
def M5 (xs ys ps:List Nat)(i k c:Nat):Prop:=
 ps.length=xs.length+ys.length∧Dg.Small 65536 ps∧c<65536∧(∀j,i+ys.length+1≤j→ps.getD j 0=0)∧(k≤ys.length→ps.getD (i+ys.length) 0=0)∧(ys.length<k→c=0)∧k≤ys.length+1∧
  Dg.vl 65536 ps+65536^ (i+k)*c=Dg.vl 65536 (xs.take i)*Dg.vl 65536 ys+65536^i*(xs.getD i 0*Dg.vl 65536 (ys.take k))
theorem M6 (xs a:List Nat):Sv xs a (List.replicate (xs.length+a.length) 0) 0:=by
 refine⟨by simp,Dg.small_replicate _ _ (by omega),fun j _=> ?_, ?_⟩
 ·by_cases h:j<xs.length+a.length<;>simp[List.getD_eq_getElem?_getD,h]
 ·simp[Dg.vl_replicate_zero,Dg.vl]
theorem M7 {xs b a:List Nat}{i:Nat}(h:Sv xs b a i):M5 xs b a i 0 0:=
 ⟨h.1,h.2.1,by omega,fun j c=>h.2.2.1 j (by omega),fun _=>h.2.2.1 _ (by omega),fun _=>rfl,by omega,by rw[h.2.2.2];simp[Dg.vl]⟩
theorem Qk {xs a b:List Nat}{i k c:Nat}(h:M5 xs a b i k c)(n:i<xs.length)(t: ¬(k<a.length∨0<c)):Sv xs a b (i+1):=by
 obtain⟨d,f,o,g,p,q,r,l⟩:=h;have m:c=0:=by omega
 subst m;refine⟨d,f,fun j s=>g j (by omega), ?_⟩
 rw[Dg.vl_take_succ _ _ _ n,Nat.add_mul,Nat.mul_assoc];have e:a.take k=a:=List.take_of_length_le (by omega);rw[e] at l;omega
theorem xh {w:World}{base e:Nat}{g n cap m:Nat}{zs:List Nat}(h:Own w base e .i64 (.slice (some ⟨g,0,none⟩) n cap) zs)(b:Dg.Small 65536 zs)(a:Ou zs m)(c:zs.length≤3000000):Rd w .i64 (.slice (some ⟨g,0,none⟩) m m) (Dg.dg 65536 (Dg.vl 65536 zs)):=
 uE 65536 (by omega) h.rd b a (Nat.le_refl _) (by have:=a.1;unfold maxLen;omega)
theorem C6 (b a:Nat)(f:a<16):(List.replicate (b+1) 0).set b (2^a)=Dg.dg 65536 (2^ (16*b+a)):=by
 have c:2^a<65536:=by
  have:2^a≤2^15:=Nat.pow_le_pow_right (by omega) (by omega);omega
 have e:0<2^a:=Nat.pow_pos (by omega);refine Dg.eq_dg 65536 (by omega) _ _ (Dg.small_set (Dg.small_replicate _ _ (by omega)) _ _ c) (fun _=> ?_) ?_
 ·simp only[List.length_set,List.length_replicate,Nat.add_sub_cancel]
  rw[Dg.getD_set _ _ _ _ (by simp),if_pos rfl];omega
 ·have:=Dg.vl_set 65536 (List.replicate (b+1) 0) b (2^a) (by simp)
  have d:(List.replicate (b+1) 0).getD b 0=0:=by simp[List.getD_eq_getElem?_getD]
  rw[d,Dg.vl_replicate_zero] at this;rw[Nat.pow_add,Nat.pow_mul,show(2:Nat)^16=65536 from by decide]
  omega
theorem pf (n a b:Nat)(w:World)(q:n=16*a+b)(z:b<16)(L:n≤1000000):
  yC 18 #[yi n] w (cG w (2^n)):=by
 have e:=C6 a b z;rw[←q] at e;obtain⟨D,x,A,B,C⟩:=info_parts Tryz.infoI64;have M:(n:Int)/16=(a:Int):=by omega
 have N:(n:Int) % 16=(b:Int):=by omega
 have O:a≤1000000:=by omega
 have s:Hid _:=e;clear e q
 go_enter func18,ntmps18
 go_wp2_with (at_make;refine wpList_make_full _ rfl _ _ 26 rfl w.heap.size 3 D (yi 0) 1 underlying26 x A B _ _ _ _ (a+1) rfl rfl (by omega) (by omega) ?b2 ?b3 (Nat.le_refl _) ?_)
 case b2=>rw[C];omega
 case b3=>unfold maxLen;omega
 intro F r o;have j:=gL r;have t:yB w F:=(Below.refl _ _).grown o (Nat.le_refl _) (fun k h=>by cases h)
 clear r o
 go_wp2
 go_loop [4,5] (fun v i=> ∃k d:Nat,k≤b∧i=yi k∧v=yi d∧Hid (d=2^k)) (fun _ i=>b-(intOf i).toNat)
 case atStart=>exact⟨0,1,Nat.zero_le _,rfl,rfl,rfl⟩
 case round=>
  obtain⟨k,d,J,rfl,rfl,g⟩:=hrel;have H:d≤65536:=by
   rw[g.out];have:2^k≤2^15:=Nat.pow_le_pow_right (by omega) (by omega);omega
  by_cases K:k<b
  ·go_wp2
   go_round
   case rel=>exact⟨k+1,2*d,by omega,by go_num,by go_num,by rw[show d=2^k from g.out,Nat.pow_succ];exact Nat.mul_comm _ _⟩
   case measure=>simp[intOf];omega
  ·have y:k=b:=by omega
   subst y;have G:=j.c a (by simp);have I:=j.f a;have l:=j.store a d;have u:=t.setCell (p:=⟨w.heap.size,a,none⟩) (by exact Nat.le_refl _) (yi (d:Int));have m:=g.out;rw[show(List.replicate (a+1) 0).set a d=Dg.dg 65536 (2^n) from by rw[m];exact s.out] at l
   have E:=l.rd;clear m l
   go_wp2
   go_ret
   exact⟨_,rfl,E,u⟩
theorem aa7 (B:Nat)(b:0<B)(xs:List Nat)(a:Nat)(d:a≤xs.length)(f:Dg.Small B xs):Dg.vl B (xs.drop a)=Dg.vl B xs/B^a:=by
 have e:=Dg.vl_take_drop B xs a d;have c:=Dg.vl_lt B (xs.take a) (Dg.small_take f _ b);rw[List.length_take,Nat.min_eq_left d] at c;rw[e,Nat.add_comm,Nat.mul_add_div (Nat.pow_pos b),Nat.div_eq_of_lt c,Nat.add_zero]
theorem aA (w:World)(a b c:Value)(d:TypeId):Loc (w.alloc (.cells #[a,b,c] d)) w.heap.size a b c:=by
 refine⟨by simp[World.size_alloc],⟨?_, ?_, ?_⟩, ?_, ?_, ?_⟩
 ·rw[World.cell?_alloc_at _ _ _ _ rfl];rfl
 ·rw[World.cell?_alloc_at _ _ _ _ rfl];rfl
 ·rw[World.cell?_alloc_at _ _ _ _ rfl];rfl
 ·exact World.frozen?_alloc_at _ _ _ _ rfl
 ·exact World.frozen?_alloc_at _ _ _ _ rfl
 ·exact World.frozen?_alloc_at _ _ _ _ rfl
theorem aD {w:World}{b:Nat}{q d e:Value}(h:Loc w b q d e)(a c f:Value):
  Loc (((w.setCell ⟨b,0,none⟩ a).setCell ⟨b,1,none⟩ c).setCell ⟨b,2,none⟩ f) b a c f:=by
 obtain⟨n,⟨g,i,j⟩,k,l,m⟩:=h;refine⟨by simpa using n,⟨?_, ?_, ?_⟩, ?_, ?_, ?_⟩
 ·rw[World.cell?_setCell_other (h:=by simp),World.cell?_setCell_other (h:=by simp)]
  exact World.cell?_setCell_same _ _ _ g
 ·have o:(w.setCell ⟨b,0,none⟩ a).cell? ⟨b,1,none⟩=some d:=by rw[World.cell?_setCell_other (h:=by simp)];exact i
  rw[World.cell?_setCell_other (h:=by simp)];exact World.cell?_setCell_same _ _ _ o
 ·have p:((w.setCell ⟨b,0,none⟩ a).setCell ⟨b,1,none⟩ c).cell? ⟨b,2,none⟩=some e:=by rw[World.cell?_setCell_other (h:=by simp),World.cell?_setCell_other (h:=by simp)];exact j
  exact World.cell?_setCell_same _ _ _ p
 ·simpa using k
 ·simpa using l
 ·simpa using m
theorem aN (w:World)(k:IntKind):Rd w k yN []:=(aQ w 0 0 k).rd
theorem au.drew {w:World}{b:Nat}{a:TypeId}{c:List Value}(h:au w b a c):au w.drew b a c:=h.l (Below.refl _ _).drew
theorem au.cs3 {w:World}{b:Nat}{f:TypeId}{a d e:Value}{l:List Value}(h:au w b f (a::d::e::l)):w.cell? ⟨b,0,none⟩=some a∧w.cell? ⟨b,1,none⟩=some d∧w.cell? ⟨b,2,none⟩=some e:=⟨h.c 0 rfl,h.c 1 rfl,h.c 2 rfl⟩
theorem au.cs4 {w:World}{b:Nat}{g:TypeId}{a d e f:Value}{l:List Value}(h:au w b g (a::d::e::f::l)):w.cell? ⟨b,0,none⟩=some a∧w.cell? ⟨b,1,none⟩=some d∧w.cell? ⟨b,2,none⟩=some e∧w.cell? ⟨b,3,none⟩=some f:=⟨h.c 0 rfl,h.c 1 rfl,h.c 2 rfl,h.c 3 rfl⟩
theorem au.cs5 {w:World}{b:Nat}{i:TypeId}{a d e f g:Value}{l:List Value}(h:au w b i (a::d::e::f::g::l)):w.cell? ⟨b,0,none⟩=some a∧w.cell? ⟨b,1,none⟩=some d∧w.cell? ⟨b,2,none⟩=some e∧w.cell? ⟨b,3,none⟩=some f∧w.cell? ⟨b,4,none⟩=some g:=⟨h.c 0 rfl,h.c 1 rfl,h.c 2 rfl,h.c 3 rfl,h.c 4 rfl⟩
theorem au.cs6 {w:World}{b:Nat}{j:TypeId}{a d e f g i:Value}{l:List Value}(h:au w b j (a::d::e::f::g::i::l)):w.cell? ⟨b,0,none⟩=some a∧w.cell? ⟨b,1,none⟩=some d∧w.cell? ⟨b,2,none⟩=some e∧w.cell? ⟨b,3,none⟩=some f∧w.cell? ⟨b,4,none⟩=some g∧w.cell? ⟨b,5,none⟩=some i:=⟨h.c 0 rfl,h.c 1 rfl,h.c 2 rfl,h.c 3 rfl,h.c 4 rfl,h.c 5 rfl⟩
theorem au.cs9 {w:World}{b:Nat}{n:TypeId}{a d e f g i j k m:Value}{l:List Value}(h:au w b n (a::d::e::f::g::i::j::k::m::l)):w.cell? ⟨b,0,none⟩=some a∧w.cell? ⟨b,1,none⟩=some d∧w.cell? ⟨b,2,none⟩=some e∧w.cell? ⟨b,3,none⟩=some f∧w.cell? ⟨b,4,none⟩=some g∧w.cell? ⟨b,5,none⟩=some i∧w.cell? ⟨b,6,none⟩=some j∧w.cell? ⟨b,7,none⟩=some k∧w.cell? ⟨b,8,none⟩=some m:=⟨h.c 0 rfl,h.c 1 rfl,h.c 2 rfl,h.c 3 rfl,h.c 4 rfl,h.c 5 rfl,h.c 6 rfl,h.c 7 rfl,h.c 8 rfl⟩
theorem cq {w:World}{k:IntKind}{v:Value}{zs:List Nat}(h:Rd w k v zs)(o:Dg.Norm zs){b:Nat}{r:TypeId}{i:List Value}(m:au w b r i)(q: ∀x∈i,∀n:Int,n≠0→x≠ .int k n):wF b v zs:=fun f a n c p=>by
 obtain⟨s,cap,rfl,_,_,j⟩:=h;obtain⟨g,u,rfl,l⟩:=j f
 cases p
 have d:=l (zs.length-1) (by omega)
 show g≠b
 intro e;subst e;have t:zs.getD (zs.length-1) 0≠0:=o (by intro h;rw[h] at f;simp at f);unfold World.cell? at d;simp only at d;rw[m] at d;simp only[Option.isSome_none,Bool.false_eq_true,if_false,List.getElem?_toArray] at d;exact q _ (List.mem_of_getElem? d) _ (by omega) rfl
theorem abi {w:World}{base e:Nat}{k:IntKind}{v:Value}{zs:List Nat}(h:Own w base e k v zs){b:Nat}(l:b<base):wF b v zs:=fun o a n c d=>by
 rcases h.2 with⟨f,j⟩| ⟨g,cap,i,f,m,_⟩
 ·rw[f] at d;cases d
 ·rw[f] at d
  cases d
  show g≠b
  omega
theorem de (b:Nat): ∀(vs:List Value) (o:Nat) (w:World),But b w (w.setCells b o vs)
 | [],_,w=>⟨rfl,rfl,rfl,rfl,fun _ _=>rfl⟩
 |v::r,o,w=>by
  rw[World.setCells];exact(ag w b o v).trans (de b r (o+1) _)
theorem But.loc {b c:Nat}{w w':World}{a:TypeId}{d:List Value}(h:But b w w')(k:au w c a d)(e:c≠b):au w' c a d:=(h.block c e).trans k
theorem But.rd {b:Nat}{w w':World}{k:IntKind}{v:Value}{zs:List Nat}(h:But b w w')(r:Rd w k v zs)(q:wF b v zs):Rd w' k v zs:=by
 obtain⟨f,cap,rfl,i,l,m⟩:=r;refine⟨f,cap,rfl,i,l,fun d=> ?_⟩
 obtain⟨g,e,rfl,n⟩:=m d;have p:=q d _ _ _ rfl;exact⟨g,e,rfl,fun j o=>(h.c (a:=⟨g,e+j,none⟩) p).trans (n j o)⟩
theorem But.own {b:Nat}{w w':World}{base e:Nat}{k:IntKind}{v:Value}{zs:List Nat}(h:But b w w')(r:Own w base e k v zs){g:TypeId}{p:List Value}(f:au w b g p)(n:g≠e):Own w' base e k v zs:=by
 obtain⟨j,d⟩:=r;refine⟨j, ?_⟩
 rcases d with d| ⟨c,cap',i,o,l,a,r⟩
 ·exact .inl d
 ·refine .inr ⟨c,cap',i,o,l, ?_,r⟩
  have m:c≠b:=by
   intro e;subst e;unfold au at f;rw[f] at a;simp only[Option.some.injEq,Obj.cells.injEq] at a;exact n a.2.1
  rw[h.block c m];exact a
theorem Cd (b:Nat)(d:TypeId): ∀(vs us pre:List Value) (w:World),au w b d (pre++us)→us.length=vs.length→au (w.setCells b pre.length vs) b d (pre++vs)
 | [],us,pre,w,h,hl=>by
  obtain rfl:us=[]:=List.eq_nil_of_length_eq_zero hl;exact h
 |v::r,us,pre,w,h,hl=>by
  obtain⟨u,a,rfl⟩: ∃u a,us=u::a:=by
   cases us with
   |nil=>simp at hl
   |cons u a=>exact⟨u,a,rfl⟩
  rw[World.setCells];have e:=h.set pre.length v;have f:(pre++u::a).set pre.length v=(pre++[v])++a:=by simp
  rw[f] at e;have c:=Cd b d r a (pre++[v]) _ e (by simpa using hl);have g:(pre++[v]).length=pre.length+1:=by simp
  rw[g] at c;have i:pre++[v]++r=pre++v::r:=by simp
  rw[i] at c;exact c
theorem au.there {w:World}{b:Nat}{e:TypeId}{a:List Value}(h:au w b e a)(n:Nat)(i:n=a.length):w.there b 0 n:=fun j g=>by
 have d:j<a.length:=by omega
 rw[Nat.zero_add];exact⟨by rw[h.c j (List.getElem?_eq_getElem d)];rfl,h.f j⟩
theorem au.sets {w:World}{b:Nat}{c:TypeId}{d:List Value}(h:au w b c d)(a:List Value)(e:d.length=a.length):au (w.setCells b 0 a) b c a:=by
 have:=Cd b c a d [] w h e
 simpa using this
theorem gU {P:Program}{o:Oper}{a:Act}{w:World}(t:TypeId)(x:Operand)(g:o.op= .load t x)(b i:Nat)(j:a.eval x= .pointer (some ⟨b,i,none⟩))(v:Value)(d:TypeDesc)(h:P.underlying t=some d)(k:d.isRow=false)(e:w.cell? ⟨b,i,none⟩=some v):(execOp a.eval o).run P w= .ok (.value v) w:=by
 have c:(isAgg t).run P w= .ok false w:=by
  unfold isAgg;rw[Sem.run_bind,run_underlying h w]
  cases d<;>simp_all
 have f:(loadVar t ⟨b,i,none⟩).run P w= .ok v w:=by
  simp[loadVar,Sem.run_bind,c,e]
 unfold execOp;simp[g,j,Instr.loadAt,Instr.sureAddr,f]
theorem dD {w:World}{b:Nat}{g:TypeId}{a:List Value}(h:au w b g a):w.there b 0 a.length:=fun j e=>by
 have:=h.c j (List.getElem?_eq_getElem e);have d:=h.f j;simp[this,d]
def Rv (w:World)(v:Value)(t:ak):Prop:= ∃s,v=(ydV t.s s t.e)∧Rd w .i64 s (Dg.dg 65536 t.n)
def di (w:World)(t:ak)(e:Ending)(w':World):Prop:= ∃s,e= .returned (ydV t.s s t.e)∧Rd w' .i64 s (Dg.dg 65536 t.n)∧Far w.heap.size s∧yB w w'
theorem Rv.l {w w':World}{v:Value}{t:ak}(h:Rv w v t)(a:yB w w'):Rv w' v t:=by
 obtain⟨s,c,b⟩:=h;exact⟨s,c,b.l a⟩
def ZB (w:World)(b:Nat):Prop:=b<w.heap.size∧ ∃ty,w.heap[b]? =some (.cells (ydA false yN 0) ty (0,0))
theorem ZB.l {w w':World}{b:Nat}(h:ZB w b)(a:yB w w'):ZB w' b:=by
 obtain⟨c,e,d⟩:=h;exact⟨Nat.lt_of_lt_of_le c a.size,e,(a.block b c).trans d⟩
theorem dI (w:World)(a:TypeId):ZB (w.alloc (.cells (ydA false yN 0) a)) w.heap.size:=
 ⟨by simp[World.size_alloc],a,heap_alloc_new _ _⟩
theorem ZB.rd {w:World}{b:Nat}{v:Value}{zs:List Nat}(h:ZB w b)(t:Rd w .i64 v zs)(r:Dg.Norm zs)(u x y:Value):
  Rd (((w.setCell ⟨b,0,none⟩ u).setCell ⟨b,1,none⟩ x).setCell ⟨b,2,none⟩ y) .i64 v zs:=by
 obtain⟨z,C,p⟩:=h;obtain⟨k,cap,rfl,l,m,n⟩:=t;refine⟨k,cap,rfl,l,m,fun g=> ?_⟩
 obtain⟨c,j,rfl,f⟩:=n g;refine⟨c,j,rfl,fun i q=> ?_⟩
 have A:c≠b:=by
  intro e;subst e;have a:=f (zs.length-1) (by omega);have B:=r (List.length_pos_iff.1 g);unfold World.cell? at a;simp only[p] at a;obtain⟨o,s⟩: ∃o,j+(zs.length-1)=o:=⟨_,rfl⟩;rw[s] at a;generalize zs.getD (zs.length-1) 0=d at*
  match o,a with
  |0,a=>simp at a
  |1,a=>simp at a
  |2,a=>simp at a;omega
  |o+3,a=>simp at a
 rw[World.cell?_setCell_other (h:=by simp),World.cell?_setCell_other (h:=by simp),World.cell?_setCell_other (h:=by simp)];exact f i q
theorem cA (w:World)(a:List Value)(b:TypeId): ∃W,w.alloc (.cells a.toArray b)=W∧au W w.heap.size b a∧yB w W:=
 ⟨_,rfl,ah w a b,af w _⟩
theorem iG (w:World)(a:List Value)(b:TypeId)(c:List Value)(d:TypeId): ∃W,(w.alloc (.cells a.toArray b)).alloc (.cells c.toArray d)=W∧au W w.heap.size b a∧au W (w.heap.size+1) d c∧yB w W:=by
 obtain⟨W,rfl,h,g⟩:=cA w a b;have f:=ah (w.alloc (.cells a.toArray b)) c d;have e:=af (w.alloc (.cells a.toArray b)) (.cells c.toArray d);rw[World.size_alloc] at f;exact⟨_,rfl,h.l e,f,aa g e⟩
theorem lG (w:World)(a:List Value)(c:TypeId)(b:List Value)(d:TypeId)(e:List Value)(f:TypeId): ∃W,((w.alloc (.cells a.toArray c)).alloc (.cells b.toArray d)).alloc (.cells e.toArray f)=W∧au W w.heap.size c a∧au W (w.heap.size+1) d b∧au W (w.heap.size+1+1) f e∧yB w W:=by
 obtain⟨W,rfl,j,k,i⟩:=iG w a c b d;have h:=ah ((w.alloc (.cells a.toArray c)).alloc (.cells b.toArray d)) e f;have g:=af ((w.alloc (.cells a.toArray c)).alloc (.cells b.toArray d)) (.cells e.toArray f);rw[World.size_alloc,World.size_alloc] at h;exact⟨_,rfl,j.l g,k.l g,h,aa i g⟩
theorem tk {P:Program}{md:Region.Mode}{ops:Array Oper}{Q:Exit→Act→World→Prop}{S:World→Prop}{d:Oper}{fuel:Nat}{e:Array Bool}{a:Act}{w:World}(i:Nat)(v:Value)(k:ops[i]? =some d)
  (b:(Region.noSelect ops&&(Region.free md ops e i&&((Region.ready md ops e).contains i&&Region.wanted d (yielded ops a.tmps))))=true)
  (g: ∀c a w,Q (.panic c) (a.put d.dst v) w→Q (.panic c) a w) (l: ∀f,S f→(execOp a.eval d).run P f= .ok (.value v) f) (j:S w)
  (h:wpAnyH P md ops Q S fuel (e.setIfInBounds i true) (a.put d.dst v) w):wpAnyH P md ops Q S (fuel+1) e a w:=by
 simp only[Bool.and_eq_true] at b;exact wpAnyH_take k b.1 b.2.1 b.2.2.1 g (Or.inl ⟨b.2.2.2,l⟩) j h
def SX (R cur ys:List Nat)(i t k c b:Nat):Prop:=
 cur.length=R.length∧Dg.Small 4294967296 cur∧c<4294967296∧b≤1∧(∀j,i+k≤j→cur.getD j 0=R.getD j 0)∧Dg.vl 4294967296 cur+4294967296^i*(Dg.vl 4294967296 (ys.take k)*t)=Dg.vl 4294967296 R+4294967296^ (i+k)*(b+c)
def acc (R cur ys:List Nat)(i t b:Nat):Prop:=
 cur.length=R.length∧Dg.Small 4294967296 cur∧(∀j,i+ys.length<j→cur.getD j 0=R.getD j 0)∧b≤1∧Dg.vl 4294967296 cur+4294967296^i*(Dg.vl 4294967296 ys*t)=Dg.vl 4294967296 R+4294967296^ (i+ys.length+1)*b
def Sp (R cur ys:List Nat)(i k c:Nat):Prop:=
 cur.length=R.length∧Dg.Small 4294967296 cur∧c≤1∧(∀j,i+k≤j→cur.getD j 0=R.getD j 0)∧Dg.vl 4294967296 cur+4294967296^ (i+k)*c=Dg.vl 4294967296 R+4294967296^i*Dg.vl 4294967296 (ys.take k)
theorem TV {R b a:List Nat}{i k c y p:Nat}(h:Sp R b a i k c)(w:i+k<R.length)(q:a.getD k 0=y)(n:R.getD (i+k) 0=p)(x:p<4294967296)(z:y<4294967296):
  Sp R (b.set (i+k) ((p+y+c) % 4294967296)) a i (k+1) ((p+y+c)/4294967296):=by
 obtain⟨g,l,t,d,u⟩:=h;refine⟨by simpa using g,Dg.small_set l _ _ (Nat.mod_lt _ (by omega)),by omega,fun j v=> ?_, ?_⟩
 ·rw[Dg.getD_set _ _ _ _ (by omega),if_neg (by omega)];exact d j (by omega)
 ·have o:=Dg.vl_set 4294967296 b (i+k) ((p+y+c) % 4294967296) (by omega)
  rw[d _ (Nat.le_refl _),n] at o;rw[iV,q];generalize m:p+y+c=T at*;have e:4294967296^i*(Dg.vl 4294967296 (a.take k)+4294967296^k*y)=4294967296^i*Dg.vl 4294967296 (a.take k)+4294967296^ (i+k)*y:=by rw[Nat.mul_add,Nat.pow_add,Nat.mul_assoc]
  have f:4294967296^ (i+(k+1))*(T/4294967296)=4294967296^ (i+k)*(4294967296*(T/4294967296)):=by rw[show i+(k+1)=i+k+1 from by omega,Nat.pow_succ,Nat.mul_assoc]
  have r:4294967296^ (i+k)*T=4294967296^ (i+k)*(T % 4294967296)+4294967296^ (i+k)*(4294967296*(T/4294967296)):=by rw[←Nat.mul_add,Nat.mod_add_div]
  have s:4294967296^ (i+k)*T=4294967296^ (i+k)*p+4294967296^ (i+k)*y+4294967296^ (i+k)*c:=by rw[←m,Nat.mul_add,Nat.mul_add]
  rw[e,f];omega
def Py (R cur ys:List Nat)(i o:Nat):Prop:=
 cur.length=R.length∧Dg.Small 4294967296 cur∧(∀j,i+ys.length<j→cur.getD j 0=R.getD j 0)∧o≤1∧Dg.vl 4294967296 cur+4294967296^ (i+ys.length+1)*o=Dg.vl 4294967296 R+4294967296^i*Dg.vl 4294967296 ys
theorem TW {R b a:List Nat}{i c p:Nat}(h:Sp R b a i a.length c)(t:i+a.length<R.length)(m:R.getD (i+a.length) 0=p)(u:p<4294967296):
  Py R (b.set (i+a.length) ((p+c) % 4294967296)) a i ((p+c)/4294967296):=by
 obtain⟨f,g,r,d,k⟩:=h;refine⟨by simpa using f,Dg.small_set g _ _ (Nat.mod_lt _ (by omega)),fun j s=> ?_,by omega, ?_⟩
 ·rw[Dg.getD_set _ _ _ _ (by omega),if_neg (by omega)];exact d j (by omega)
 ·have n:=Dg.vl_set 4294967296 b (i+a.length) ((p+c) % 4294967296) (by omega)
  rw[d _ (Nat.le_refl _),m] at n;rw[List.take_of_length_le (Nat.le_refl _)] at k;generalize l:p+c=T at*;have e:4294967296^ (i+a.length+1)*(T/4294967296)=4294967296^ (i+a.length)*(4294967296*(T/4294967296)):=by rw[Nat.pow_succ,Nat.mul_assoc]
  have o:4294967296^ (i+a.length)*T=4294967296^ (i+a.length)*(T % 4294967296)+4294967296^ (i+a.length)*(4294967296*(T/4294967296)):=by rw[←Nat.mul_add,Nat.mod_add_div]
  have q:4294967296^ (i+a.length)*T=4294967296^ (i+a.length)*p+4294967296^ (i+a.length)*c:=by rw[←l,Nat.mul_add]
  rw[e];omega
theorem CG (B:Nat)(l:List Nat)(j:Nat)(b:0<B)(c:Dg.Small B l):l.getD j 0=Dg.vl B l/B^j % B:=by
 by_cases h:j<l.length
 ·have d:=Dg.vl_split B l j h
  have a:=Dg.vl_lt B (l.take j) (Dg.small_take c j b);rw[List.length_take,Nat.min_eq_left (by omega)] at a;rw[d,Nat.add_mul_div_left _ _ (Nat.pow_pos b),Nat.div_eq_of_lt a,Nat.zero_add,Nat.add_mul_mod_self_left];exact(Nat.mod_eq_of_lt (c j)).symm
 ·rw[Dg.getD_of_le l j (by omega)]
  have a:=Dg.vl_lt B l c;have e:B^l.length≤B^j:=Nat.pow_le_pow_right b (by omega);rw[Nat.div_eq_of_lt (by omega),Nat.zero_mod]
theorem Dk (B:Nat)(l:List Nat)(m:Nat)(b:0<B)(c:Dg.Small B l)(e: ∀j,m≤j→l.getD j 0=0):Dg.vl B l<B^m:=by
 by_cases h:m≤l.length
 ·rw[Dg.vl_take_drop B l m h]
  have d:Dg.vl B (l.drop m)=0:=Dg.vl_zeros B _ (fun i=>by
   have:=e (m+i) (by omega)
   simpa[List.getD_eq_getElem?_getD,List.getElem?_drop] using this)
  have a:=Dg.vl_lt B (l.take m) (Dg.small_take c m b);rw[List.length_take,Nat.min_eq_left h] at a;rw[d,Nat.mul_zero,Nat.add_zero];exact a
 ·have a:=Dg.vl_lt B l c
  have f:B^l.length≤B^m:=Nat.pow_le_pow_right b (by omega);omega
theorem NB (B:Nat)(l:List Nat)(m:Nat)(a:0<B)(c:Dg.Small B l)(h:Dg.vl B l<B^m)(j:Nat)(b:m≤j):l.getD j 0=0:=by
 rw[CG B l j a c];have d:B^m≤B^j:=Nat.pow_le_pow_right a b;rw[Nat.div_eq_of_lt (by omega),Nat.zero_mod]
theorem Sb (B n:Nat)(a:2≤B):(Dg.dg B n).getD 0 0=n % B:=by
 by_cases h:n=0
 ·subst h
  rw[show Dg.dg B 0=[] from(Dg.dg_nil_iff B 0 a).2 rfl]
  simp
 ·have c:=Dg.small_dg B n a
  have b:=Dg.vl_dg B n a;obtain⟨x,xs,e⟩: ∃x xs,Dg.dg B n=x::xs:=by
   rcases hd:Dg.dg B n with _| ⟨x,xs⟩
   ·exact absurd ((Dg.dg_nil_iff B n a).1 hd) h
   ·exact⟨x,xs,rfl⟩
  rw[e] at c b⊢;have d:x<B:=by simpa using c 0
  simp only[Dg.vl] at b;rw[←b];simp[Nat.mod_eq_of_lt d]
def Rp (w:World)(q r d:Nat)(e:Ending)(w':World):Prop:=
 ∃v1 v2 v3,e= .returned (.tuple #[v1,v2,v3])∧Rd w' .i64 v1 (Dg.dg 65536 q)∧Rd w' .i64 v2 (Dg.dg 65536 r)∧Rd w' .i64 v3 (Dg.dg 65536 d)∧yB w w'
theorem Rd.setC {w:World}{k:IntKind}{v:Value}{zs:List Nat}(h:Rd w k v zs){b i:Nat}{x:Value}(s:w.cell? ⟨b,i,none⟩=some x)(p: ∀n:Int,x≠ .int k n)(y:Value):Rd (w.setCell ⟨b,i,none⟩ y) k v zs:=by
 obtain⟨d,cap,rfl,f,l,m⟩:=h;refine⟨d,cap,rfl,f,l,fun r=> ?_⟩
 obtain⟨g,c,rfl,o⟩:=m r;refine⟨g,c,rfl,fun j a=> ?_⟩
 have a:=o j a;have q:(⟨b,i,none⟩:Addr)≠⟨g,c+j,none⟩:=by
  intro e;rw[←e,s] at a;exact p _ (Option.some.inj a)
 exact(World.cell?_setCell_other _ _ _ _ q).trans a
def acK (w:World)(f g h:Int→Nat)(K k0:Int)(kv dv rv nv:Value)(wr:World):Prop:=
 ∃k,kv=yi k∧K≤k∧k≤k0∧Rd wr .i64 dv (Dg.dg 65536 (f k))∧Rd wr .i64 rv (Dg.dg 65536 (g k))∧Rd wr .i64 nv (Dg.dg 65536 (h k))∧yB w wr
theorem Aa (r:Nat):(((Dg.dg 65536 r).length:Int)==0)=decide (r=0):=by
 have h:=Dg.dg_nil_iff 65536 r (by omega)
 by_cases a:r=0
 ·rw[h.2 a]
  simp[a]
 ·have e:(((Dg.dg 65536 r).length:Int)==0)=false:=by
   simp;exact fun e=>a (h.1 e)
  rw[e];simp[a]
structure ik (w:World) (g:Nat) (zs:List Nat):Prop where
 c: ∀i,i<zs.length→w.cell? ⟨g,i,none⟩=some (.int .u8 ((zs.getD i 0:Nat):Int))
 f: ∀i,i<zs.length→w.frozen? ⟨g,i,none⟩=false
 lt:g<w.heap.size
theorem Eu {w w':World}{g i:Nat}(h:w'.heap[g]? =w.heap[g]?):w'.frozen? ⟨g,i,none⟩=w.frozen? ⟨g,i,none⟩:=by
 unfold World.frozen?;simp only[h]
theorem ik.l {w w':World}{g:Nat}{zs:List Nat}(h:ik w g zs)(a:yB w w'):ik w' g zs:=
 ⟨fun i b=>cell_later a (h.c i b),fun i b=>(Eu (a.block g h.lt)).trans (h.f i b),Nat.lt_of_lt_of_le h.lt a.size⟩
theorem ik.drew {w:World}{g:Nat}{zs:List Nat}(h:ik w g zs):ik w.drew g zs:=h.l (Below.refl _ _).drew
theorem br {P:Program}{c:Func}{a:Nat}{f:TypeId}{e:Array Value}{w:World}{b:Nat}{v:Value}(h:c.results= #[.cell a f])(d:e.getD a undef= .pointer (some ⟨b,0,none⟩))(g:(loadVar f ⟨b,0,none⟩).run P w= .ok v w):(results c e).run P w= .ok v w:=by
 rw[Array.getD_eq_getD_getElem?] at d;unfold results;simp[h,d,asAddr,g]
def Bg (zs:List Nat):List Nat:=(List.range zs.length).map fun i=>zs.getD (i+1-2*(i % 2)) 0
theorem Cq (zs:List Nat):(Bg zs).length=zs.length:=by simp[Bg]
theorem Fl (zs:List Nat)(i:Nat)(h:i<zs.length):(Bg zs).getD i 0=zs.getD (i+1-2*(i % 2)) 0:=by
 simp[Bg,List.getD_eq_getElem?_getD,h]
def jT (k:Nat)(zs:List Nat):List Nat:=if k=3 then zs.reverse else if 6≤k then Bg zs else zs
theorem xi (k:Nat)(zs:List Nat)(h:Dg.Small 256 zs):Dg.Small 256 (jT k zs):=by
 unfold jT
 split
 ·intro i
  by_cases a:i<zs.length
  ·rw[List.getD_eq_getElem?_getD,List.getElem?_reverse a,←List.getD_eq_getElem?_getD]
   exact h _
  ·rw[List.getD_eq_getElem?_getD,List.getElem?_eq_none (by simpa using a)]
   simp
 ·split
  ·intro i
   by_cases a:i<zs.length
   ·rw[Fl zs i a]
    exact h _
   ·rw[List.getD_eq_getElem?_getD,List.getElem?_eq_none (by rw[Cq];omega)]
    simp
  ·exact h
theorem au.grown {w w':World}{b g:Nat}{a:TypeId}{c:List Value}(h:au w b a c)(d:w.grownBy w' (some g))(f:b≠g):au w' b a c:=
 (d.block b h.lt (fun e=>f (Option.some.inj e))).trans h
structure XU (w:World) (lv:List Value) (w':World):Prop where
 ly:au w' w.heap.size 93 lv
 m:au w' (w.heap.size+1) 134 (yfL false 0 0)
 b:yB w w'
theorem XU.l {w c d:World}{a:List Value}(h:XU w a c)(b:yB c d):XU w a d:=⟨h.ly.l b,h.m.l b,aa h.b b⟩
def NmR (w:World)(n:Nat)(z:Ending)(w':World):Prop:= ∃v,z= .returned v∧Rd w' .u32 v (Dg.dg 4294967296 n)∧yB w w'
def TwR (w:World)(a b:Nat)(z:Ending)(w':World):Prop:= ∃v u,z= .returned (.tuple #[v,u])∧Rd w' .u32 v (Dg.dg 4294967296 a)∧Rd w' .u32 u (Dg.dg 4294967296 b)∧yB w w'
theorem LC (w:World):yC 15 #[yi 4] w (yR w (.tuple #[yhV 4 7 24 16 6 (-70) 57 false 2,.bool true])):=by
 have c:=ah w (yhL 4 7 24 16 6 (-70) 57 false 2) 56;have b:=af w (.cells (yhA 4 7 24 16 6 (-70) 57 false 2) 56);have a:=run_loadVar_mid (P:=Tryz.prog) _ w.heap.size 0 56 (yhL 4 7 24 16 6 (-70) 57 false 2) _ c.range underlying56 rfl (by kernel_rfl);have d:Hid (_∧_):=⟨a,b⟩;clear a b c
 go_enter func15,ntmps15
 go_wp2
 obtain⟨a,e⟩:=d.out;exact bodyPost_ret (aj results15 rfl rfl a) rfl ⟨rfl,e⟩
theorem LD (w:World):yC 15 #[yi 5] w (yR w (.tuple #[yhV 8 7 56 16 14 (-78) 49 false 2,.bool true])):=by
 have c:=ah w (yhL 8 7 56 16 14 (-78) 49 false 2) 56;have b:=af w (.cells (yhA 8 7 56 16 14 (-78) 49 false 2) 56);have a:=run_loadVar_mid (P:=Tryz.prog) _ w.heap.size 0 56 (yhL 8 7 56 16 14 (-78) 49 false 2) _ c.range underlying56 rfl (by kernel_rfl);have d:Hid (_∧_):=⟨a,b⟩;clear a b c
 go_enter func15,ntmps15
 go_wp2
 obtain⟨a,e⟩:=d.out;exact bodyPost_ret (aj results15 rfl rfl a) rfl ⟨rfl,e⟩
def afl:Nat→List Value
 |1=>(yhL 4 8 23 2 24 (-149) 104 true 1)
 |2=>(yhL 8 11 52 2 53 (-1074) 971 true 1)
 |3=>(yhL 10 15 64 2 64 (-16445) 16320 true 1)
 |4=>(yhL 4 7 24 16 6 (-70) 57 false 2)
 |5=>(yhL 8 7 56 16 14 (-78) 49 false 2)
 |6=>(yhL 4 8 23 2 24 (-151) 103 false 3)
 |7=>(yhL 8 8 55 2 56 (-183) 71 false 3)
 |8=>(yhL 8 11 52 2 53 (-1076) 970 false 3)
 |_=>(yhL 0 0 0 0 0 0 0 false 0)
theorem sM (n:Int)(sz h j:Nat)(R D L G c:Int)(gr:Bool)(i:Nat)(w:World)(l:i<sz)(o:sz≤10)
  (f:yJ 15 #[yi n] (.tuple #[yhV sz h j R D L G gr c,.bool true])):
  yC 51 #[yi n,yi i] w (yR w (yi (if n=3 then sz-1-i else if c=3 then i+1-2*((i:Int) % 2) else i))):=by
 have e:Hid _:=f;clear f
 by_cases b:n=3
 ·subst b
  rw[if_pos rfl]
  go_enter func51,ntmps51
  go_wp2_with fail
  refine(e.out _).mono ?_;rintro z g ⟨rfl,a⟩
  go_wp2
  go_ret
  exact⟨by go_num,aa a (af _ _)⟩
 ·have m:(n==3)=false:=by simpa using b
  rw[if_neg b]
  by_cases d:c=3
  ·subst d
   rw[if_pos rfl];clear b
   go_enter func51,ntmps51
   go_wp2_with fail
   refine(e.out _).mono ?_;rintro z g ⟨rfl,a⟩
   go_wp2
   go_ret
   exact⟨by go_num,aa a (af _ _)⟩
  ·have k:(c==3)=false:=by simpa using d
   rw[if_neg d];clear b d
   go_enter func51,ntmps51
   go_wp2_with fail
   refine(e.out _).mono ?_;rintro z g ⟨rfl,a⟩
   go_wp2
   go_ret
   exact⟨rfl,aa a (af _ _)⟩
def Hf (w:World)(c:Int)(ng:Bool)(t:ak)(z:Ending)(w':World):Prop:=
 ∃s,z= .returned (yoV c ng t.s s t.e)∧Rd w' .i64 s (Dg.dg 65536 t.n)∧yB w w'∧Far w.heap.size s
def Xi (B:Nat)(w:World)(t:ak)(z:Ending)(w':World):Prop:=
 ∃s,z= .returned (ydV t.s s t.e)∧Rd w' .i64 s (Dg.dg 65536 t.n)∧yB w w'∧Hid (Far B s)
theorem di.hid {B:Nat}{w:World}{t:ak}{e:Ending}{w':World}(i:B≤w.heap.size)(h:di w t e w'):Xi B w t e w':=by
 obtain⟨s,b,d,f,g⟩:=h;exact⟨s,b,d,g,(fun a n c h=>Nat.le_trans i (f a n c h):Far B s)⟩
theorem lO (B:Nat):Far B yN:=fun _ _ _ h=>by cases h
structure TG (w:World) (bn bf:Nat) (ng:Bool) (fv:List Value) (v:Value) (m:Nat) (w':World):Prop where
 q:au w' w.heap.size 30 (yoL 0 false false yN 0)
 f:au w' bf 56 fv
 n:w'.cell? ⟨bn,0,none⟩=some (.bool ng)
 b:yB w w'
 r:Rd w' .i64 v (Dg.dg 65536 m)
structure zQ (w:World) (bn bf:Nat) (ng:Bool) (fv:List Value) (w':World):Prop where
 q:au w' w.heap.size 30 (yoL 0 false false yN 0)
 f:au w' bf 56 fv
 n:au w' bn 4 [.bool ng]
 b:yB w w'
def JV (w:World)(c:Int)(g:Bool)(t:ak)(ng:Bool)(z:Ending)(w':World):Prop:=
 ∃s,z= .returned (.tuple #[yoV c g t.s s t.e,.bool ng])∧Rd w' .i64 s (Dg.dg 65536 t.n)∧yB w w'∧Far w.heap.size s
end Go.Proofs.YtlhkndcmbpcpgaaGreatDoor
