/- Texts laid together. -/
import Derived.Test.YthhiidikgchdeabGreatDoorLb02
import Derived.Test.YthhiidikgchdeabGreatDoorLb06
set_option maxRecDepth 100000
set_option maxHeartbeats 6400000
namespace Go.Proofs.YthhiidikgchdeabGreatDoor
open _root_.Go.Proofs.Tryz
open Go.RowKit
theorem plus_le_mg:
  (∀(n o:Value) (xs a:List Nat) (w:World) (_:Rd w .u32 n xs) (_:Rd w .u32 o a) (_:Dg.Small 4294967296 xs) (_:Dg.Small 4294967296 a) (_:xs.length≤1000000000) (_:a.length≤xs.length),
  yC 68 #[n,o] w (Num w (Dg.vl 4294967296 xs+Dg.vl 4294967296 a)))∧
  (∀(n o:Value) (xs a:List Nat) (w:World) (_:Rd w .u32 n xs) (_:Rd w .u32 o a) (_:Dg.Small 4294967296 xs) (_:Dg.Small 4294967296 a) (_:xs.length≤1000000000) (_:a.length<xs.length),
  yC 68 #[o,n] w (Num w (Dg.vl 4294967296 xs+Dg.vl 4294967296 a))):=by
 refine⟨?_, ?_⟩;have _z:Mgk 0:=mgkI 0
 all_goals
  intro n o xs a w S T Q sb a4 a5;obtain⟨i0,U,a0,a1,a2⟩:=info_parts Tryz.infoU32;obtain⟨ao,ca,rfl,-,-,s⟩:=S;obtain⟨bo,cb,rfl,-,-,z⟩:=T
  go_enter func68,ntmps68
  go_wp2_with (at_make;refine wpList_make_full _ rfl _ _ 89 rfl w.heap.size 36 i0 (.int .u32 0) 1 underlying89 U a0 a1 _ _ _ _ (xs.length+1) rfl rfl (by omega) (by omega) ?G ?b3 (Nat.le_refl _) ?_)
  case G=>rw[a2];omega
  case b3=>unfold maxLen;omega
  intro w0 K J;have O:=gL K;have H:yB w w0:=(Below.refl _ _).grown J (Nat.le_refl _) (fun k h=>by cases h)
  clear K J
  go_wp2
  go_loopw [6,23] (fun u l wr=> ∃(k c:Nat) (i:List Nat),k≤a.length∧l=yi k∧u= .int .u32 c∧Own wr w.heap.size 36 .u32 (.slice (some ⟨w.heap.size,0,none⟩) (xs.length+1) (xs.length+1)) i∧Qv xs a i k c∧yB w wr)
   (fun _ l _=>a.length-(intOf l).toNat)
  case atStart=>exact⟨0,0,_,Nat.zero_le _,rfl,rfl,O,⟨by simp,Dg.small_replicate _ _ (by omega),by omega,by simp[Dg.vl]⟩,H⟩
  case round=>
   clear O H;obtain⟨k,c,i,W,rfl,rfl,own,d,g⟩:=hrel;have L:=d.1;have t:=d.2.2.1
   by_cases Y:k<a.length
   ·obtain⟨b,a3,rfl,q⟩:=s (by omega)
    obtain⟨G,a6,rfl,I⟩:=z (by omega);have E:=cell_later g (q k (by omega));have hy:=cell_later g (I k (by omega));have C:=own.c k (by omega);have hf:=own.f k;have r:=Q k;have N:=sb k;obtain⟨x,j⟩: ∃x,xs.getD k 0=x:=⟨_,rfl⟩;obtain⟨y,v⟩: ∃y,a.getD k 0=y:=⟨_,rfl⟩;have D:=zq d (by omega) j v (by omega) (by omega);rw[j] at E r;rw[v] at hy N;clear j v q I s z
    go_wp2_with fail
    refine(ur x y c _ r N t).mono ?_;rintro e w' ⟨rfl,rfl⟩
    go_wp2
    go_roundw
    case rel=>exact⟨k+1,_,_,by omega,by go_num,rfl,own.store k _,D,g.setCell (by exact Nat.le_refl _) _⟩
    case measure=>simp[intOf];omega
   ·have B:k=a.length:=by omega
    subst B
    go_wp2
    go_loopw [6,9] (fun u l wr=> ∃(k c:Nat) (i:List Nat),a.length≤k∧k≤xs.length∧l=yi k∧u= .int .u32 c∧Own wr w.heap.size 36 .u32 (.slice (some ⟨w.heap.size,0,none⟩) (xs.length+1) (xs.length+1)) i∧Qv xs a i k c∧yB w wr)
     (fun _ l _=>xs.length-(intOf l).toNat)
    case atStart=>exact⟨a.length,c,i,Nat.le_refl _,by omega,rfl,rfl,own,d,g⟩
    case round=>
     clear own d g L t;obtain⟨k,c,i,X,W,rfl,rfl,own,d,g⟩:=hrel;have L:=d.1;have t:=d.2.2.1
     by_cases Y:k<xs.length
     ·obtain⟨b,a3,rfl,q⟩:=s (by omega)
      have E:=cell_later g (q k (by omega));have C:=own.c k (by omega);have hf:=own.f k;have r:=Q k;obtain⟨x,j⟩: ∃x,xs.getD k 0=x:=⟨_,rfl⟩;have D:=zq d (by omega) j (Dg.getD_of_le a k X) (by omega) (by omega);rw[j] at E r;clear j q s z
      go_wp2_with fail
      refine(ur x 0 c _ r (by omega) t).mono ?_;rintro e w' ⟨rfl,rfl⟩
      go_wp2
      go_roundw
      case rel=>exact⟨k+1,_,_,by omega,by omega,by go_num,rfl,own.store k _,D,g.setCell (by exact Nat.le_refl _) _⟩
      case measure=>simp[intOf];omega
     ·have B:k=xs.length:=by omega
      subst B;have C:=own.c xs.length (by omega);have hf:=own.f xs.length;have A:=Nc d (by omega);have F:=own.store xs.length c;have R:=g.setCell (p:=⟨w.heap.size,xs.length,none⟩) (by exact Nat.le_refl _) (.int .u32 c);have P:=F.rd
      go_wp2_with fail
      refine(jD _ _ _ _ _ P).mono ?_;rintro e w' ⟨m,rfl,Z,rfl⟩;have M:=jW 4294967296 (by omega) F A.2.1 Z;rw[A.2.2] at M;clear P F A C hf own
      go_wp2
      go_ret
      exact⟨_,rfl,M,R⟩
abbrev abc:=plus_le_mg.1
abbrev abd:=plus_le_mg.2
theorem rj (b c:Value)(xs a:List Nat)(w:World)(d:Rd w .u32 b xs)(e:Rd w .u32 c a)(f:Dg.Small 4294967296 xs)(g:Dg.Small 4294967296 a)(i:xs.length≤1000000000)(j:a.length≤1000000000):
  yC 68 #[b,c] w (Num w (Dg.vl 4294967296 xs+Dg.vl 4294967296 a)):=by
 by_cases h:a.length≤xs.length
 ·exact abc b c xs a w d e f g i h
 ·rw[Nat.add_comm]
  exact abd c b a xs w e d g f j (by omega)
theorem Jq {xs a b:List Nat}{k c x y:Nat}(h:Z7 xs a b k c)(o:k<xs.length)(j:xs.getD k 0=x)(l:a.getD k 0=y)(p:x<4294967296)(q:y<4294967296):
  Z7 xs a (b.set k ((x+4294967296-y-c) % 4294967296)) (k+1) (brw x y c):=by
 obtain⟨g,i,m,n⟩:=h;refine⟨by simpa using g,Dg.small_set i _ _ (Nat.mod_lt _ (by omega)),RN _ _ _, ?_⟩;rw[sQ _ _ _ (by omega),pO xs,pO a,j,l];have e:x+4294967296*brw x y c=(x+4294967296-y-c) % 4294967296+y+c:=by unfold brw;split<;>omega
 have d:4294967296^k*(x+4294967296*brw x y c)=4294967296^k*((x+4294967296-y-c) % 4294967296+y+c):=by rw[e]
 have f:4294967296^ (k+1)*brw x y c=4294967296^k*(4294967296*brw x y c):=by rw[Nat.pow_succ,Nat.mul_assoc]
 rw[Nat.mul_add,Nat.mul_add,Nat.mul_add] at d;rw[f];omega
theorem Dq {P:Program}{ops:Array Oper}{o:Oper}{a:Act}{w:World}{K:Act→World→Prop}{Q:Exit→Act→World→Prop}{E:Prop}
  (r:o.guard=none) (s x:Operand) (t:TypeId) (C:o.op=Op.call {callee:=Callee.builtin Builtin.append,args:= #[s,x],argTypes:= #[t,t]})
  (base:Nat) (e:TypeId) (i:TypeInfo) (z:Value) (size f:Nat) (J:P.underlying t=some (.slice e)) (y:P.info? e=some i) (N:i.zero=some z)
  (H:i.size=size) (p:i.bytes=f) (O:z.cells.size=size) (I:0<size)
  (v:Value) (n:Nat) (xs:List Value) (G:a.eval s=v) (D:w.ownsRow base e size v n xs)
  (d:Addr) (m c:Nat) (b:List Value) (M:a.eval x= .slice (some d) m c) (A:b.length=m*size) (B: ∀j u,b[j]? =some u→w.cell? (d.add j)=some u) (g: ∀u∈b,u.oneCell'=true)
  (h:n+m≤maxLen) (q:(n+m)*f≤140737488355328) (l:base≤w.heap.size)
  (k: ∀v' w',w'.ownsRow base e size v' (n+m) (xs++b)→w.grownBy w' v.ownBlock→K (a.put o.dst v') w'):
  if Region.wanted o (yielded ops a.tmps)=true then Oper.wp P o a w K Q else E:=by
 have L:Region.wanted o (yielded ops a.tmps)=true:=by simp[Region.wanted,r]
 rw[if_pos L];obtain⟨v',w',F,R,S,_⟩:=run_append_own (P:=P) w base t o.type e i z size f J y N H p O I v n xs D d m c b A B g h q l;unfold Oper.wp;simp[execOp,C,resolve,invoke,builtin,G,M,F,Result.andThen];exact k v' w' R S
theorem Tryz.infoI64:(Tryz.prog.info? 3).map (fun i=>(i.zero,i.size,i.bytes))=some (some (.int .i64 0),1,8):=by kernel_rfl
def mN (xs:List Nat):List Nat:=xs.flatMap (fun x=>[x % 65536,x/65536])
theorem zT (xs:List Nat):(mN xs).length=2*xs.length:=by
 induction xs with
 |nil=>rfl
 |cons x xs ih=>simp only[mN,List.flatMap_cons,List.length_append,List.length_cons,List.length_nil] at*;omega
theorem Tu (xs:List Nat):Dg.vl 65536 (mN xs)=Dg.vl 4294967296 xs:=by
 induction xs with
 |nil=>rfl
 |cons x xs ih=>
  have:mN (x::xs)=x % 65536::x/65536::mN xs:=rfl;rw[this];simp only[Dg.vl,ih];omega
theorem JG (xs:List Nat)(h:Dg.Small 4294967296 xs):Dg.Small 65536 (mN xs):=by
 induction xs with
 |nil=>exact Dg.small_nil _ (by omega)
 |cons x xs ih=>
  have a:=Dg.small_cons.1 h;have:mN (x::xs)=x % 65536::x/65536::mN xs:=rfl;rw[this];exact Dg.small_cons.2 ⟨by omega,Dg.small_cons.2 ⟨by omega,ih a.2⟩⟩
theorem LO (xs:List Nat)(k:Nat)(h:k<xs.length):mN (xs.take (k+1))=mN (xs.take k)++[xs.getD k 0 % 65536,xs.getD k 0/65536]:=by
 rw[Dg.take_succ' xs k h];simp[mN]
def cG (w:World)(n:Nat)(e:Ending)(w':World):Prop:=
 ∃v,e= .returned v∧Rd w' .i64 v (Dg.dg 65536 n)∧yB w w'
def Far (B:Nat)(v:Value):Prop:= ∀a n c,v= .slice (some a) n c→B≤a.block
theorem JH {w:World}{base e:Nat}{k:IntKind}{v:Value}{zs:List Nat}(h:Own w base e k v zs):Far base v:=fun a n c b=>by
 rcases h.2 with⟨d,_⟩| ⟨g,cap,i,d,f,_⟩
 ·rw[d] at b;cases b
 ·rw[d] at b
  cases b
  exact f
theorem LP {B:Nat}{b:Option Addr}{n c:Nat}(h:Far B (.slice b n c))(g e:Nat):Far B (.slice b g e):=fun a m d f=>by
 cases f
 exact h a n c rfl
def Si (w:World)(n:Nat)(e:Ending)(w':World):Prop:=
 ∃v,e= .returned v∧Rd w' .i64 v (Dg.dg 65536 n)∧Far w.heap.size v∧yB w w'
theorem Far.mono {B b:Nat}{v:Value}(h:Far B v)(d:b≤B):Far b v:=fun a n c e=>Nat.le_trans d (h a n c e)
theorem uE {w:World}{k:IntKind}{d:Option Addr}{len cap n cap':Nat}{zs:List Nat}(B:Nat)(g:2≤B)(h:Rd w k (.slice d len cap) zs)(q:Dg.Small B zs)(c:Ou zs n)(l:n≤cap')(m:cap'≤maxLen):
  Rd w k (.slice d n cap') (Dg.dg B (Dg.vl B zs)):=by
 have a:=wn h;subst a;obtain⟨s,t,f⟩:=iQ h;rw[←Dg.trim_eq B g zs n q c.1 c.2.1 c.2.2];have u:=c.1;have a:(zs.take n).length=n:=by simp;omega
 refine⟨d,cap',by rw[a],by rw[a];exact l,m,fun p=> ?_⟩
 rw[a] at p;obtain⟨b,r,j,o⟩:=f (by omega);refine⟨b,r,j,fun i e=> ?_⟩
 rw[a] at e;rw[o i (by omega),Dg.getD_take _ _ _ e]
theorem Tv {w wr b:World}{x y:Nat}{a:List Nat}{e v':Value}(d:yB w wr)(i:Own wr w.heap.size 3 .i64 e a)
  (h:b.ownsRow w.heap.size 3 1 v' (a.length+2) ((a.map (fun n:Nat=>Value.int .i64 (n:Int)))++[yi x,yi y]))
  (f:(wr.alloc (.cells #[yi x,yi y] 3)).drew.grownBy b e.ownBlock):
  Own b w.heap.size 3 .i64 v' (a++[x,y])∧yB w b:=by
 have c:yB wr (wr.alloc (.cells #[yi x,yi y] 3)).drew:=((Below.refl _ _).alloc (Nat.le_refl _) _).drew;refine⟨?_, ?_⟩
 ·unfold Own
  simpa using h
 ·refine(aa d c).grown f (Nat.le_trans d.size c.size) (fun k g=> ?_)
  exact(World.ownsRow.lt i k g).1
theorem fQ (C:Value)(xs:List Nat)(w:World)(I:Rd w .u32 C xs)(B:Dg.Small 4294967296 xs)(a0:xs.length≤1000000):
  yC 49 #[C] w (cG w (Dg.vl 4294967296 xs)):=by
 obtain⟨X,Y,rfl,-,-,m⟩:=I;obtain⟨U,K,Q,S,T⟩:=info_parts Tryz.infoI64
 go_enter func49,ntmps49
 go_wp2
 go_loopw [3,4] (fun W h wr=> ∃k:Nat,k≤xs.length∧h=yi k∧Own wr w.heap.size 3 .i64 W (mN (xs.take k))∧yB w wr) (fun _ h _=>xs.length-(intOf h).toNat)
 case atStart=>exact⟨0,Nat.zero_le _,rfl,aQ _ _ _ _,Below.refl _ _⟩
 case round=>
  obtain⟨k,hk,rfl,own,a⟩:=hrel
  by_cases s:k<xs.length
  ·obtain⟨b,a1,rfl,o⟩:=m (by omega)
   have O:=cell_later a (o k s);have P:=B k;have g:=LO xs k s;obtain⟨x,l⟩: ∃x,xs.getD k 0=x:=⟨_,rfl⟩;rw[l] at O P g;have i:Hid _:=g;have J:(mN (xs.take k)).length≤2000000:=by rw[zT];simp;omega
   have Z:=a.size;obtain⟨c,d⟩: ∃c,mN (xs.take k)=c:=⟨_,rfl⟩;rw[d] at own J;have D:Hid _:=d;clear l o m g d;obtain⟨p,v⟩: ∃p,x % 65536=p:=⟨_,rfl⟩;obtain⟨q,y⟩: ∃q,x/65536=q:=⟨_,rfl⟩;have E:IntKind.i64.wrap (x:Int)=(x:Int):=IntWalk.i64_in _ ⟨by omega,by omega⟩;have F:(x:Int).tmod 65536=(p:Int):=by rw[Int.tmod_eq_emod_of_nonneg (by omega)];omega
   have G:IntKind.i64.wrap ((x:Int).tdiv 65536)=(q:Int):=by rw[Int.tdiv_eq_ediv_of_nonneg (by omega),IntWalk.i64_in _ ⟨by omega,by omega⟩];omega
   have H:IntKind.i64.wrap ((x:Int)/65536)=(q:Int):=by rw[IntWalk.i64_in _ ⟨by omega,by omega⟩];omega
   rw[v,y] at i;clear v y
   go_wp2
   go_region_law (refine Dq rfl (.tmp 11) (.tmp 24) 41 rfl w.heap.size 3 U (yi 0) 1 8 underlying41 K Q S T rfl (by decide) _ c.length (c.map (fun n:Nat=>Value.int .i64 (n:Int))) rfl (World.ownsRow.drew (World.ownsRow.alloc own _)) ⟨wr.heap.size,0,none⟩ 2 2 [yi (p:Int),yi (q:Int)] rfl rfl (cell_two_new _ _ _ _) (by intro u A;simp at A;rcases A with rfl|rfl<;>rfl) (by unfold maxLen;omega) (by omega) (by simp;omega) ?_;intro v' w3 t r)
   all_goals
    have R:=Tv a own t r;clear t r own E F G H
    go_wp2
    go_roundw
    case rel=>
     have j:=i.out;rw[D.out] at j;exact⟨k+1,by omega,by go_num,by rw[j];exact R.1,R.2⟩
    case measure=>simp[intOf];omega
  ·have L:k=xs.length:=by omega
   subst L;have N:=own.rd.shape;rw[List.take_of_length_le (Nat.le_refl _)] at own;obtain⟨oo,oc,rfl⟩:=own.rd.shape
   go_wp2_with fail
   refine(i9 _ _ _ _ _ own.rd).mono ?_;rintro e w' ⟨n,rfl,f,rfl⟩;have M:=f.1;rw[zT] at M;have z:=uE (cap':=n) 65536 (by omega) own.rd (JG xs B) f (Nat.le_refl _) (by unfold maxLen;omega);rw[Tu] at z;clear N f
   go_wp2
   go_ret
   exact⟨_,rfl,z,a⟩
theorem vO (Q:Value)(xs:List Nat)(n a d P:Nat)(w:World)(X:Rd w .u32 Q xs)(sa:Dg.Small 4294967296 xs)(a8:xs.length≤1000000000)(F:n=32*a+d)(I:d<32)(z:P=2^d)(a9:n≤40000000000)(G:xs≠[]):
  yC 122 #[Q,yi n] w (Num w (Dg.vl 4294967296 xs*2^n)):=by
 obtain⟨ao,ca,rfl,-,-,A⟩:=X;obtain⟨i0,Y,a1,a2,a3⟩:=info_parts Tryz.infoU32;have a7:0<xs.length:=List.length_pos_iff.2 G;have a5:((xs.length:Int)==0)=false:=by simp;exact G
 have hq:(n:Int)/32=(a:Int):=by omega
 have hr:(n:Int) % 32=(d:Int):=by omega
 have o:Hid _:=F;have i:Hid _:=z;clear F z
 go_enter func122,ntmps122
 go_wp2_with (at_make;refine wpList_make_full _ rfl _ _ 89 rfl w.heap.size 36 i0 (.int .u32 0) 1 underlying89 Y a1 a2 _ _ _ _ (xs.length+a+1) rfl rfl (by omega) (by omega) ?b2 ?b3 (Nat.le_refl _) ?_)
 case b2=>rw[a3];have:=o.out;omega
 case b3=>unfold maxLen;have:=o.out;omega
 intro w0 H C;have O:=gL H;have y:yB w w0:=(Below.refl _ _).grown C (Nat.le_refl _) (fun k h=>by cases h)
 have ad:a≤40000000000:=by have:=o.out;omega
 clear H C
 go_wp2
 go_loopw [25] (fun v wr=> ∃(k:Nat) (g:List Nat),k≤xs.length∧v=yi k∧Own wr w.heap.size 36 .u32 (.slice (some ⟨w.heap.size,0,none⟩) (xs.length+a+1) (xs.length+a+1)) g∧KM xs g a P k∧yB w wr) (fun v _=>xs.length-(intOf v).toNat)
 case atStart=>exact⟨0,_,Nat.zero_le _,rfl,O,Nz xs a P (by rw[i.out];exact Nat.pow_pos (by omega)),y⟩
 case round=>
  clear O y;obtain⟨k,g,hk,rfl,own,j,p⟩:=hrel;have s:=j.1
  by_cases D:k<xs.length
  ·obtain⟨b,ae,rfl,B⟩:=A (by omega)
   have hx:=cell_later p (B k D);have N:=sa k;have hu:=own.c (a+k) (by omega);have hf:=own.f (a+k);have a6:=own.f (a+k+1);have ac:=own.c (a+k+1) (by omega);have L:=j.2.2.2.1;obtain⟨x,r⟩: ∃x,xs.getD k 0=x:=⟨_,rfl⟩;rw[r] at hx N;obtain⟨u,q⟩: ∃u,g.getD (a+k) 0=u:=⟨_,rfl⟩;rw[q] at hu L;have a4:Hid _:=s;have T:Hid _:=r;have R:Hid _:=q;clear r q B A s
   go_wp2
   go_region
   all_goals go_wp2
   all_goals go_roundw
   case rel=>
    have U:=Y7 u x d I (by rw[←i.out];exact L);have W:=Vg x d I;rw[U,W,←i.out];have J:=QJ j D T.out N ⟨2^ (32-d),by rw[i.out,←Nat.pow_add,show d+(32-d)=32 from by omega]⟩ (by omega)
    rw[R.out] at J;exact⟨k+1,_,by omega,by go_num,Own.l ((own.store (a+k) _).store (a+k+1) _) (Below.drew (Below.refl _ _)),J,((p.setCell (by exact Nat.le_refl _) _).setCell (by exact Nat.le_refl _) _).drew⟩
   case measure=>simp[intOf];omega
  ·have Z:k=xs.length:=by omega
   subst Z;have a0:=j.2.1;have t:=j.2.2.2.2;rw[List.take_of_length_le (Nat.le_refl _)] at t;have M:Dg.vl 4294967296 g=Dg.vl 4294967296 xs*2^n:=by
    rw[t,i.out,o.out,Nat.pow_add,Nat.pow_mul,Nat.mul_left_comm]
   have S:Hid _:=M;clear s t M
   go_wp2_with fail
   refine(jD _ _ _ g _ own.rd).mono ?_;rintro e w' ⟨m,rfl,E,rfl⟩;have K:=jW 4294967296 (by omega) own a0 E;rw[S.out] at K;clear E
   go_wp2
   go_ret
   exact⟨_,rfl,K,p⟩
theorem Y8 (P Q:Nat)(b:0<P)(l:List Nat):Dg.vl (P*Q) (low P Q l)=Dg.vl (P*Q) l/P:=by
 induction l with
 |nil=>simp[low,Dg.vl]
 |cons y l ih=>
  simp only[low,Dg.vl,ih];rw[Vh P Q l];have a:(y+P*Q*Dg.vl (P*Q) l)/P=y/P+Q*Dg.vl (P*Q) l:=by
   rw[Nat.mul_assoc,Nat.add_mul_div_left _ _ b]
  rw[a];generalize Dg.vl (P*Q) l=V;have c:V % P*Q+P*Q*(V/P)=Q*V:=by
   have:=Nat.mod_add_div V P
   calc V % P*Q+P*Q*(V/P)=Q*(V % P+P*(V/P)):=by rw[Nat.mul_add,Nat.mul_comm (V % P),Nat.mul_comm P Q,Nat.mul_assoc]
    _=Q*V:=by rw[this]
  omega
theorem abL {xs b:List Nat}{a P Q:Nat}(h:abK xs b a P Q (xs.length-a))(g:a≤xs.length)(c:P*Q=4294967296)(i:Dg.Small 4294967296 xs):
  Dg.Small 4294967296 b∧Dg.vl 4294967296 b=Dg.vl 4294967296 xs/(4294967296^a*P):=by
 have k:0<P:=by
  rcases Nat.eq_zero_or_pos P with e|e
  ·subst e;simp at c
  ·exact e
 have l:b=low P Q (xs.drop a):=by
  apply Dg.eq_of_all
  ·rw[mA,h.1];simp
  ·intro j
   rw[h.2 j]
   by_cases d:j<xs.length-a
   ·rw[if_pos d,Gb P Q _ j (by simpa using d),ui,ui,Nat.add_assoc]
   ·rw[if_neg d,Dg.getD_of_le _ _ (by rw[mA];simp;omega)]
 refine⟨fun j=> ?_, ?_⟩
 ·rw[h.2 j]
  split
  ·exact(I7 c (i _)).2
  ·omega
 ·rw[l,←c,Y8 P Q k,c,←Nat.div_div_eq_div_mul]
  congr 1
  have m:=Dg.vl_take_drop 4294967296 xs a g;have f:=Dg.vl_lt 4294967296 (xs.take a) (Dg.small_take i _ (by omega));rw[List.length_take,Nat.min_eq_left g] at f;rw[m,Nat.add_comm,Nat.mul_add_div (Nat.pow_pos (by omega)),Nat.div_eq_of_lt f,Nat.add_zero]
def jN (w:World)(t:ak)(e:Ending)(w':World):Prop:= ∃s,e= .returned (ydV t.s s t.e)∧Own w' w.heap.size 36 .u32 s (Dg.dg 4294967296 t.n)∧yB w w'
theorem Own.apart3 {w:World}{base e b:Nat}{k:IntKind}{v:Value}{zs:List Nat}(h:Own w base e k v zs)(a:b<base)(c d f:Value):
  Own (((w.setCell ⟨b,0,none⟩ c).setCell ⟨b,1,none⟩ d).setCell ⟨b,2,none⟩ f) base e k v zs:=
 ((h.apart (bI w b 0 c) a).apart (bI _ b 1 d) a).apart (bI _ b 2 f) a
theorem cq {w:World}{k:IntKind}{v:Value}{zs:List Nat}(h:Rd w k v zs)(o:Dg.Norm zs){b:Nat}{r:TypeId}{i:List Value}(m:au w b r i)(q: ∀x∈i,∀n:Int,n≠0→x≠ .int k n):wF b v zs:=fun f a n c p=>by
 obtain⟨s,cap,rfl,_,_,j⟩:=h;obtain⟨g,u,rfl,l⟩:=j f
 cases p
 have d:=l (zs.length-1) (by omega)
 show g≠b
 intro e;subst e;have t:zs.getD (zs.length-1) 0≠0:=o (by intro h;rw[h] at f;simp at f);unfold World.cell? at d;simp only at d;rw[m] at d;simp only[Option.isSome_none,Bool.false_eq_true,if_false,List.getElem?_toArray] at d;exact q _ (List.mem_of_getElem? d) _ (by omega) rfl
theorem Rd.set {w:World}{k:IntKind}{v:Value}{zs:List Nat}(h:Rd w k v zs){b:Nat}(p:wF b v zs)(i:Nat)(x:Value):Rd (w.setCell ⟨b,i,none⟩ x) k v zs:=by
 obtain⟨c,cap,rfl,d,e,f⟩:=h;refine⟨c,cap,rfl,d,e,fun a=> ?_⟩
 obtain⟨g,q,rfl,l⟩:=f a;have n:=p a _ _ _ rfl;refine⟨g,q,rfl,fun j m=> ?_⟩
 have o:g≠b:=n;unfold World.cell?;simp only;rw[Below.heap_setCell _ _ _ _ o];exact l j m
theorem ag (w:World)(b i:Nat)(x:Value):But b w (w.setCell ⟨b,i,none⟩ x):=
 ⟨rfl,rfl,rfl,by simp[World.setCell],fun _ a=>Below.heap_setCell _ _ _ _ a⟩
theorem de (b:Nat): ∀(vs:List Value) (o:Nat) (w:World),But b w (w.setCells b o vs)
 | [],_,w=>⟨rfl,rfl,rfl,rfl,fun _ _=>rfl⟩
 |v::r,o,w=>by
  rw[World.setCells];exact(ag w b o v).trans (de b r (o+1) _)
theorem But.below {b B:Nat}{a w w':World}(h:But b w w')(k:Below B a w)(d:B≤b):Below B a w':=
 ⟨h.os.trans k.os,h.tape.trans k.tape,h.output.trans k.output,by rw[h.size];exact k.size,fun i c=>(h.block i (by omega)).trans (k.block i c)⟩
theorem But.loc {b c:Nat}{w w':World}{a:TypeId}{d:List Value}(h:But b w w')(k:au w c a d)(e:c≠b):au w' c a d:=(h.block c e).trans k
theorem But.rd {b:Nat}{w w':World}{k:IntKind}{v:Value}{zs:List Nat}(h:But b w w')(r:Rd w k v zs)(q:wF b v zs):Rd w' k v zs:=by
 obtain⟨f,cap,rfl,i,l,m⟩:=r;refine⟨f,cap,rfl,i,l,fun d=> ?_⟩
 obtain⟨g,e,rfl,n⟩:=m d;have p:=q d _ _ _ rfl;exact⟨g,e,rfl,fun j o=>(h.c (a:=⟨g,e+j,none⟩) p).trans (n j o)⟩
theorem Cd (b:Nat)(d:TypeId): ∀(vs us pre:List Value) (w:World),au w b d (pre++us)→us.length=vs.length→au (w.setCells b pre.length vs) b d (pre++vs)
 | [],us,pre,w,h,hl=>by
  obtain rfl:us=[]:=List.eq_nil_of_length_eq_zero hl;exact h
 |v::r,us,pre,w,h,hl=>by
  obtain⟨u,a,rfl⟩: ∃u a,us=u::a:=by
   cases us with
   |nil=>simp at hl
   |cons u a=>exact⟨u,a,rfl⟩
  rw[World.setCells];have e:=h.set pre.length v;have f:(pre++u::a).set pre.length v=(pre++[v])++a:=by simp
  rw[f] at e;have c:=Cd b d r a (pre++[v]) _ e (by simpa using hl);have g:(pre++[v]).length=pre.length+1:=by simp
  rw[g] at c;have i:pre++[v]++r=pre++v::r:=by simp
  rw[i] at c;exact c
theorem au.range {w:World}{b:Nat}{e:TypeId}{a:List Value}(h:au w b e a):w.rangeAt b 0 a:=fun j _ d=>by rw[Nat.zero_add];exact h.c j d
theorem au.there {w:World}{b:Nat}{e:TypeId}{a:List Value}(h:au w b e a)(n:Nat)(i:n=a.length):w.there b 0 n:=fun j g=>by
 have d:j<a.length:=by omega
 rw[Nat.zero_add];exact⟨by rw[h.c j (List.getElem?_eq_getElem d)];rfl,h.f j⟩
theorem au.sets {w:World}{b:Nat}{c:TypeId}{d:List Value}(h:au w b c d)(a:List Value)(e:d.length=a.length):au (w.setCells b 0 a) b c a:=by
 have:=Cd b c a d [] w h e
 simpa using this
theorem gU {P:Program}{o:Oper}{a:Act}{w:World}(t:TypeId)(x:Operand)(g:o.op= .load t x)(b i:Nat)(j:a.eval x= .pointer (some ⟨b,i,none⟩))(v:Value)(d:TypeDesc)(h:P.underlying t=some d)(k:d.isRow=false)(e:w.cell? ⟨b,i,none⟩=some v):(execOp a.eval o).run P w= .ok (.value v) w:=by
 have c:(isAgg t).run P w= .ok false w:=by
  unfold isAgg;rw[Sem.run_bind,run_underlying h w]
  cases d<;>simp_all
 have f:(loadVar t ⟨b,i,none⟩).run P w= .ok v w:=by
  simp[loadVar,Sem.run_bind,c,e]
 unfold execOp;simp[g,j,Instr.loadAt,Instr.sureAddr,f]
theorem dD {w:World}{b:Nat}{e:TypeId}{a:List Value}(h:au w b e a):w.there b 0 a.length:=fun j d=>by
 have:=h.c j (List.getElem?_eq_getElem d);have hf:=h.f j;simp[this,hf]
def di (w:World)(t:ak)(e:Ending)(w':World):Prop:= ∃s,e= .returned (ydV t.s s t.e)∧Rd w' .i64 s (Dg.dg 65536 t.n)∧Far w.heap.size s∧yB w w'
theorem cA (w:World)(a:List Value)(b:TypeId): ∃W,w.alloc (.cells a.toArray b)=W∧au W w.heap.size b a∧yB w W:=
 ⟨_,rfl,ah w a b,af w _⟩
theorem tk {P:Program}{md:Region.Mode}{ops:Array Oper}{Q:Exit→Act→World→Prop}{S:World→Prop}{d:Oper}{fuel:Nat}{e:Array Bool}{a:Act}{w:World}(i:Nat)(v:Value)(k:ops[i]? =some d)
  (b:(Region.noSelect ops&&(Region.free md ops e i&&((Region.ready md ops e).contains i&&Region.wanted d (yielded ops a.tmps))))=true)
  (g: ∀c a w,Q (.panic c) (a.put d.dst v) w→Q (.panic c) a w) (l: ∀f,S f→(execOp a.eval d).run P f= .ok (.value v) f) (j:S w)
  (h:wpAnyH P md ops Q S fuel (e.setIfInBounds i true) (a.put d.dst v) w):wpAnyH P md ops Q S (fuel+1) e a w:=by
 simp only[Bool.and_eq_true] at b;exact wpAnyH_take k b.1 b.2.1 b.2.2.1 g (Or.inl ⟨b.2.2.2,l⟩) j h
theorem br {P:Program}{c:Func}{a:Nat}{f:TypeId}{e:Array Value}{w:World}{b:Nat}{v:Value}(h:c.results= #[.cell a f])(d:e.getD a undef= .pointer (some ⟨b,0,none⟩))(g:(loadVar f ⟨b,0,none⟩).run P w= .ok v w):(results c e).run P w= .ok v w:=by
 rw[Array.getD_eq_getD_getElem?] at d;unfold results;simp[h,d,asAddr,g]
def Xi (B:Nat)(w:World)(t:ak)(z:Ending)(w':World):Prop:=
 ∃s,z= .returned (ydV t.s s t.e)∧Rd w' .i64 s (Dg.dg 65536 t.n)∧yB w w'∧Hid (Far B s)
def GsR (w:World)(g at0 top d1 d0 p0:Nat)(gv rv:Value)(wr:World):Prop:=
 ∃(t r:Nat),gv= .int .u64 t∧rv= .int .u64 r∧Hid (GsI top d1 d0 p0 t r)∧r<4294967296∧t≤4294967297∧wr.cell? ⟨g,at0,none⟩=some (.int .u32 p0)∧yB w wr
end Go.Proofs.YthhiidikgchdeabGreatDoor
