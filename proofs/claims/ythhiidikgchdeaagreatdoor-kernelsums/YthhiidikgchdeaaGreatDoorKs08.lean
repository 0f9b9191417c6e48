/- Texts laid together. -/
import Derived.Test.YthhiidikgchdeaaGreatDoorKs01
import Derived.Test.YthhiidikgchdeaaGreatDoorKs02
set_option maxRecDepth 100000
set_option maxHeartbeats 1600000
namespace Go.Proofs.YthhiidikgchdeaaGreatDoor
open _root_.Go.Proofs.Tryz
open Go.RowKit
theorem Rd.l {w w':World}{k:IntKind}{v:Value}{zs:List Nat}(h:Rd w k v zs)(g:Below w.heap.size w w'):Rd w' k v zs:=by
 obtain⟨a,cap,o,c,d,e⟩:=h;refine⟨a,cap,o,c,d,fun n=> ?_⟩
 obtain⟨b,p,f,j⟩:=e n;exact⟨b,p,f,fun i m=>cell_later g (j i m)⟩
theorem Own.l {w w':World}{base e:Nat}{k:IntKind}{v:Value}{zs:List Nat}(h:Own w base e k v zs)(d:Below w.heap.size w w'):Own w' base e k v zs:=by
 obtain⟨i,a⟩:=h;refine⟨i, ?_⟩
 rcases a with a| ⟨g,cap,c,j,f,b,r⟩
 ·exact .inl a
 ·refine .inr ⟨g,cap,c,j,f, ?_,r⟩
  rw[d.block g ?_]
  ·exact b
  ·rw[Array.getElem?_eq_some_iff] at b
   exact b.1
theorem Own.lower {w:World}{base b e:Nat}{k:IntKind}{v:Value}{zs:List Nat}(h:Own w base e k v zs)(i:b≤base):Own w b e k v zs:=by
 obtain⟨d,a⟩:=h;refine⟨d, ?_⟩
 rcases a with a| ⟨g,cap,c,f,j,r⟩
 ·exact .inl a
 ·exact .inr ⟨g,cap,c,f,by omega,r⟩
def Num (w:World)(n:Nat)(e:Ending)(w':World):Prop:=
 ∃v,e= .returned v∧Own w' w.heap.size 54 .u32 v (Dg.dg 4294967296 n)∧yB w w'
theorem Dq {P:Program}{ops:Array Oper}{o:Oper}{a:Act}{w:World}{K:Act→World→Prop}{Q:Exit→Act→World→Prop}{E:Prop}
  (r:o.guard=none) (s x:Operand) (t:TypeId) (C:o.op=Op.call {callee:=Callee.builtin Builtin.append,args:= #[s,x],argTypes:= #[t,t]})
  (base:Nat) (e:TypeId) (i:TypeInfo) (z:Value) (size f:Nat) (J:P.underlying t=some (.slice e)) (y:P.info? e=some i) (N:i.zero=some z)
  (H:i.size=size) (p:i.bytes=f) (O:z.cells.size=size) (I:0<size)
  (v:Value) (n:Nat) (xs:List Value) (G:a.eval s=v) (D:w.ownsRow base e size v n xs)
  (d:Addr) (m c:Nat) (b:List Value) (M:a.eval x= .slice (some d) m c) (A:b.length=m*size) (B: ∀j u,b[j]? =some u→w.cell? (d.add j)=some u) (g: ∀u∈b,u.oneCell'=true)
  (h:n+m≤maxLen) (q:(n+m)*f≤140737488355328) (l:base≤w.heap.size)
  (k: ∀v' w',w'.ownsRow base e size v' (n+m) (xs++b)→w.grownBy w' v.ownBlock→K (a.put o.dst v') w'):
  if Region.wanted o (yielded ops a.tmps)=true then Oper.wp P o a w K Q else E:=by
 have L:Region.wanted o (yielded ops a.tmps)=true:=by simp[Region.wanted,r]
 rw[if_pos L];obtain⟨v',w',F,R,S,_⟩:=run_append_own (P:=P) w base t o.type e i z size f J y N H p O I v n xs D d m c b A B g h q l;unfold Oper.wp;simp[execOp,C,resolve,invoke,builtin,G,M,F,Result.andThen];exact k v' w' R S
theorem Tryz.infoI64:(Tryz.prog.info? 3).map (fun i=>(i.zero,i.size,i.bytes))=some (some (.int .i64 0),1,8):=by kernel_rfl
def mN (xs:List Nat):List Nat:=xs.flatMap (fun x=>[x % 65536,x/65536])
theorem zT (xs:List Nat):(mN xs).length=2*xs.length:=by
 induction xs with
 |nil=>rfl
 |cons x xs ih=>simp only[mN,List.flatMap_cons,List.length_append,List.length_cons,List.length_nil] at*;omega
theorem Tu (xs:List Nat):Dg.vl 65536 (mN xs)=Dg.vl 4294967296 xs:=by
 induction xs with
 |nil=>rfl
 |cons x xs ih=>
  have:mN (x::xs)=x % 65536::x/65536::mN xs:=rfl;rw[this];simp only[Dg.vl,ih];omega
theorem JG (xs:List Nat)(h:Dg.Small 4294967296 xs):Dg.Small 65536 (mN xs):=by
 induction xs with
 |nil=>exact Dg.small_nil _ (by omega)
 |cons x xs ih=>
  have a:=Dg.small_cons.1 h;have:mN (x::xs)=x % 65536::x/65536::mN xs:=rfl;rw[this];exact Dg.small_cons.2 ⟨by omega,Dg.small_cons.2 ⟨by omega,ih a.2⟩⟩
theorem LO (xs:List Nat)(k:Nat)(h:k<xs.length):mN (xs.take (k+1))=mN (xs.take k)++[xs.getD k 0 % 65536,xs.getD k 0/65536]:=by
 rw[Dg.take_succ' xs k h];simp[mN]
def cG (w:World)(n:Nat)(e:Ending)(w':World):Prop:=
 ∃v,e= .returned v∧Rd w' .i64 v (Dg.dg 65536 n)∧yB w w'
def Far (B:Nat)(v:Value):Prop:= ∀a n c,v= .slice (some a) n c→B≤a.block
theorem JH {w:World}{base e:Nat}{k:IntKind}{v:Value}{zs:List Nat}(h:Own w base e k v zs):Far base v:=fun a n c b=>by
 rcases h.2 with⟨d,_⟩| ⟨g,cap,i,d,f,_⟩
 ·rw[d] at b;cases b
 ·rw[d] at b
  cases b
  exact f
theorem LP {B:Nat}{b:Option Addr}{n c:Nat}(h:Far B (.slice b n c))(g e:Nat):Far B (.slice b g e):=fun a m d f=>by
 cases f
 exact h a n c rfl
def Si (w:World)(n:Nat)(e:Ending)(w':World):Prop:=
 ∃v,e= .returned v∧Rd w' .i64 v (Dg.dg 65536 n)∧Far w.heap.size v∧yB w w'
theorem Far.mono {B b:Nat}{v:Value}(h:Far B v)(d:b≤B):Far b v:=fun a n c e=>Nat.le_trans d (h a n c e)
theorem uE {w:World}{k:IntKind}{d:Option Addr}{len cap n cap':Nat}{zs:List Nat}(B:Nat)(g:2≤B)(h:Rd w k (.slice d len cap) zs)(q:Dg.Small B zs)(c:Ou zs n)(l:n≤cap')(m:cap'≤maxLen):
  Rd w k (.slice d n cap') (Dg.dg B (Dg.vl B zs)):=by
 have a:=wn h;subst a;obtain⟨s,t,f⟩:=iQ h;rw[←Dg.trim_eq B g zs n q c.1 c.2.1 c.2.2];have u:=c.1;have a:(zs.take n).length=n:=by simp;omega
 refine⟨d,cap',by rw[a],by rw[a];exact l,m,fun p=> ?_⟩
 rw[a] at p;obtain⟨b,r,j,o⟩:=f (by omega);refine⟨b,r,j,fun i e=> ?_⟩
 rw[a] at e;rw[o i (by omega),Dg.getD_take _ _ _ e]
theorem Tv {w wr b:World}{x y:Nat}{a:List Nat}{e v':Value}(d:yB w wr)(i:Own wr w.heap.size 3 .i64 e a)
  (h:b.ownsRow w.heap.size 3 1 v' (a.length+2) ((a.map (fun n:Nat=>Value.int .i64 (n:Int)))++[yi x,yi y]))
  (f:(wr.alloc (.cells #[yi x,yi y] 3)).drew.grownBy b e.ownBlock):
  Own b w.heap.size 3 .i64 v' (a++[x,y])∧yB w b:=by
 have c:yB wr (wr.alloc (.cells #[yi x,yi y] 3)).drew:=((Below.refl _ _).alloc (Nat.le_refl _) _).drew;refine⟨?_, ?_⟩
 ·unfold Own
  simpa using h
 ·refine(aa d c).grown f (Nat.le_trans d.size c.size) (fun k g=> ?_)
  exact(World.ownsRow.lt i k g).1
theorem fQ (C:Value)(xs:List Nat)(w:World)(I:Rd w .u32 C xs)(B:Dg.Small 4294967296 xs)(a0:xs.length≤1000000):
  yC 83 #[C] w (cG w (Dg.vl 4294967296 xs)):=by
 obtain⟨X,Y,rfl,-,-,m⟩:=I;obtain⟨U,K,Q,S,T⟩:=info_parts Tryz.infoI64
 go_enter func83,ntmps83
 go_wp2
 go_loopw [3,4] (fun W h wr=> ∃k:Nat,k≤xs.length∧h=yi k∧Own wr w.heap.size 3 .i64 W (mN (xs.take k))∧yB w wr) (fun _ h _=>xs.length-(intOf h).toNat)
 case atStart=>exact⟨0,Nat.zero_le _,rfl,aQ _ _ _ _,Below.refl _ _⟩
 case round=>
  obtain⟨k,hk,rfl,own,a⟩:=hrel
  by_cases s:k<xs.length
  ·obtain⟨b,a1,rfl,o⟩:=m (by omega)
   have O:=cell_later a (o k s);have P:=B k;have g:=LO xs k s;obtain⟨x,l⟩: ∃x,xs.getD k 0=x:=⟨_,rfl⟩;rw[l] at O P g;have i:Hid _:=g;have J:(mN (xs.take k)).length≤2000000:=by rw[zT];simp;omega
   have Z:=a.size;obtain⟨c,d⟩: ∃c,mN (xs.take k)=c:=⟨_,rfl⟩;rw[d] at own J;have D:Hid _:=d;clear l o m g d;obtain⟨p,v⟩: ∃p,x % 65536=p:=⟨_,rfl⟩;obtain⟨q,y⟩: ∃q,x/65536=q:=⟨_,rfl⟩;have E:IntKind.i64.wrap (x:Int)=(x:Int):=IntWalk.i64_in _ ⟨by omega,by omega⟩;have F:(x:Int).tmod 65536=(p:Int):=by rw[Int.tmod_eq_emod_of_nonneg (by omega)];omega
   have G:IntKind.i64.wrap ((x:Int).tdiv 65536)=(q:Int):=by rw[Int.tdiv_eq_ediv_of_nonneg (by omega),IntWalk.i64_in _ ⟨by omega,by omega⟩];omega
   have H:IntKind.i64.wrap ((x:Int)/65536)=(q:Int):=by rw[IntWalk.i64_in _ ⟨by omega,by omega⟩];omega
   rw[v,y] at i;clear v y
   go_wp2
   go_region_law (refine Dq rfl (.tmp 11) (.tmp 24) 57 rfl w.heap.size 3 U (yi 0) 1 8 underlying57 K Q S T rfl (by decide) _ c.length (c.map (fun n:Nat=>Value.int .i64 (n:Int))) rfl (World.ownsRow.drew (World.ownsRow.alloc own _)) ⟨wr.heap.size,0,none⟩ 2 2 [yi (p:Int),yi (q:Int)] rfl rfl (cell_two_new _ _ _ _) (by intro u A;simp at A;rcases A with rfl|rfl<;>rfl) (by unfold maxLen;omega) (by omega) (by simp;omega) ?_;intro v' w3 t r)
   all_goals
    have R:=Tv a own t r;clear t r own E F G H
    go_wp2
    go_roundw
    case rel=>
     have j:=i.out;rw[D.out] at j;exact⟨k+1,by omega,by go_num,by rw[j];exact R.1,R.2⟩
    case measure=>simp[intOf];omega
  ·have L:k=xs.length:=by omega
   subst L;have N:=own.rd.shape;rw[List.take_of_length_le (Nat.le_refl _)] at own;obtain⟨oo,oc,rfl⟩:=own.rd.shape
   go_wp2_with fail
   refine(i9 _ _ _ _ _ own.rd).mono ?_;rintro e w' ⟨n,rfl,f,rfl⟩;have M:=f.1;rw[zT] at M;have z:=uE (cap':=n) 65536 (by omega) own.rd (JG xs B) f (Nat.le_refl _) (by unfold maxLen;omega);rw[Tu] at z;clear N f
   go_wp2
   go_ret
   exact⟨_,rfl,z,a⟩
def KM (xs ups:List Nat)(wh P k:Nat):Prop:=
 ups.length=xs.length+wh+1∧Dg.Small 4294967296 ups∧(∀j,wh+k<j→ups.getD j 0=0)∧ups.getD (wh+k) 0<P∧Dg.vl 4294967296 ups=4294967296^wh*(Dg.vl 4294967296 (xs.take k)*P)
theorem Nz (xs:List Nat)(a P:Nat)(c:0<P):KM xs (List.replicate (xs.length+a+1) 0) a P 0:=by
 have b: ∀j,(List.replicate (xs.length+a+1) 0).getD j 0=0:=fun j=>by
  by_cases h:j<xs.length+a+1<;>simp[List.getD_eq_getElem?_getD,h]
 exact⟨by simp,Dg.small_replicate _ _ (by omega),fun j _=>b j,by rw[b];exact c,by simp[Dg.vl_replicate_zero,Dg.vl]⟩
theorem QJ {xs b:List Nat}{a P k x:Nat}(h:KM xs b a P k)(v:k<xs.length)(w:xs.getD k 0=x)(y:x<4294967296)(s: ∃Q,P*Q=4294967296)(r:0<P):
  KM xs ((b.set (a+k) (b.getD (a+k) 0+x*P % 4294967296)).set (a+k+1) (x*P/4294967296)) a P (k+1):=by
 obtain⟨o,p,i,C,q⟩:=h;obtain⟨Q,c⟩:=s;have u:x*P/4294967296<P:=by
  rw[Nat.div_lt_iff_lt_mul (by omega),Nat.mul_comm P];exact Nat.mul_lt_mul_of_pos_right y r
 have D:P≤4294967296:=by
  rw[←c];exact Nat.le_mul_of_pos_right _ (by
   rcases Nat.eq_zero_or_pos Q with e|e
   ·subst e;simp at c
   ·exact e)
 have F:x*P % 4294967296+P≤4294967296:=by
  have e:x*P % 4294967296=P*(x % Q):=by rw[←c,Nat.mul_comm x P,Nat.mul_mod_mul_left]
  have t:0<Q:=by
   rcases Nat.eq_zero_or_pos Q with e|e
   ·subst e;simp at c
   ·exact e
  have d:P*(x % Q+1)≤P*Q:=Nat.mul_le_mul_left _ (Nat.mod_lt _ t);rw[Nat.mul_add,Nat.mul_one] at d;rw[e];omega
 have f:a+k<b.length:=by omega
 have g:a+k+1< (b.set (a+k) (b.getD (a+k) 0+x*P % 4294967296)).length:=by simp;omega
 refine⟨by simpa using o,Dg.small_set (Dg.small_set p _ _ (by omega)) _ _ (by omega),fun j E=> ?_, ?_, ?_⟩
 ·rw[Dg.getD_set _ _ _ _ g,if_neg (by omega),Dg.getD_set _ _ _ _ f,if_neg (by omega)];exact i j (by omega)
 ·rw[show a+(k+1)=a+k+1 from by omega,Dg.getD_set _ _ _ _ g,if_pos rfl];exact u
 ·have z:=Dg.vl_set 4294967296 b (a+k) (b.getD (a+k) 0+x*P % 4294967296) f
  have l:=Dg.vl_set 4294967296 (b.set (a+k) (b.getD (a+k) 0+x*P % 4294967296)) (a+k+1) (x*P/4294967296) g;have A:=i (a+k+1) (by omega);have B:(b.set (a+k) (b.getD (a+k) 0+x*P % 4294967296)).getD (a+k+1) 0=0:=by rw[Dg.getD_set _ _ _ _ f,if_neg (by omega)];exact A
  rw[B] at l;rw[Dg.vl_take_succ _ _ _ v,w,Nat.add_mul,Nat.mul_add,←q];have m:4294967296^ (a+k+1)*(x*P/4294967296)=4294967296^ (a+k)*(4294967296*(x*P/4294967296)):=by rw[Nat.pow_succ,Nat.mul_assoc]
  have d:4294967296^a*(4294967296^k*x*P)=4294967296^ (a+k)*(x*P):=by rw[Nat.pow_add,Nat.mul_assoc,Nat.mul_assoc]
  have n:4294967296^ (a+k)*(x*P)=4294967296^ (a+k)*(x*P % 4294967296)+4294967296^ (a+k)*(4294967296*(x*P/4294967296)):=by
   rw[←Nat.mul_add,Nat.mod_add_div]
  rw[Nat.mul_add] at z;rw[d,n];rw[m] at l;omega
theorem vO (Q:Value)(xs:List Nat)(n a d P:Nat)(w:World)(X:Rd w .u32 Q xs)(sa:Dg.Small 4294967296 xs)(a8:xs.length≤1000000000)(F:n=32*a+d)(I:d<32)(z:P=2^d)(a9:n≤40000000000)(G:xs≠[]):
  yC 153 #[Q,yi n] w (Num w (Dg.vl 4294967296 xs*2^n)):=by
 obtain⟨ao,ca,rfl,-,-,A⟩:=X;obtain⟨i0,Y,a1,a2,a3⟩:=info_parts Tryz.infoU32;have a7:0<xs.length:=List.length_pos_iff.2 G;have a5:((xs.length:Int)==0)=false:=by simp;exact G
 have hq:(n:Int)/32=(a:Int):=by omega
 have hr:(n:Int) % 32=(d:Int):=by omega
 have o:Hid _:=F;have i:Hid _:=z;clear F z
 go_enter func153,ntmps153
 go_wp2_with (at_make;refine wpList_make_full _ rfl _ _ 78 rfl w.heap.size 54 i0 (.int .u32 0) 1 underlying78 Y a1 a2 _ _ _ _ (xs.length+a+1) rfl rfl (by omega) (by omega) ?b2 ?b3 (Nat.le_refl _) ?_)
 case b2=>rw[a3];have:=o.out;omega
 case b3=>unfold maxLen;have:=o.out;omega
 intro w0 H C;have O:=gL H;have y:yB w w0:=(Below.refl _ _).grown C (Nat.le_refl _) (fun k h=>by cases h)
 have ad:a≤40000000000:=by have:=o.out;omega
 clear H C
 go_wp2
 go_loopw [25] (fun v wr=> ∃(k:Nat) (g:List Nat),k≤xs.length∧v=yi k∧Own wr w.heap.size 54 .u32 (.slice (some ⟨w.heap.size,0,none⟩) (xs.length+a+1) (xs.length+a+1)) g∧KM xs g a P k∧yB w wr) (fun v _=>xs.length-(intOf v).toNat)
 case atStart=>exact⟨0,_,Nat.zero_le _,rfl,O,Nz xs a P (by rw[i.out];exact Nat.pow_pos (by omega)),y⟩
 case round=>
  clear O y;obtain⟨k,g,hk,rfl,own,j,p⟩:=hrel;have s:=j.1
  by_cases D:k<xs.length
  ·obtain⟨b,ae,rfl,B⟩:=A (by omega)
   have hx:=cell_later p (B k D);have N:=sa k;have hu:=own.c (a+k) (by omega);have hf:=own.f (a+k);have a6:=own.f (a+k+1);have ac:=own.c (a+k+1) (by omega);have L:=j.2.2.2.1;obtain⟨x,r⟩: ∃x,xs.getD k 0=x:=⟨_,rfl⟩;rw[r] at hx N;obtain⟨u,q⟩: ∃u,g.getD (a+k) 0=u:=⟨_,rfl⟩;rw[q] at hu L;have a4:Hid _:=s;have T:Hid _:=r;have R:Hid _:=q;clear r q B A s
   go_wp2
   go_region
   all_goals go_wp2
   all_goals go_roundw
   case rel=>
    have U:=Y7 u x d I (by rw[←i.out];exact L);have W:=Vg x d I;rw[U,W,←i.out];have J:=QJ j D T.out N ⟨2^ (32-d),by rw[i.out,←Nat.pow_add,show d+(32-d)=32 from by omega]⟩ (by omega)
    rw[R.out] at J;exact⟨k+1,_,by omega,by go_num,Own.l ((own.store (a+k) _).store (a+k+1) _) (Below.drew (Below.refl _ _)),J,((p.setCell (by exact Nat.le_refl _) _).setCell (by exact Nat.le_refl _) _).drew⟩
   case measure=>simp[intOf];omega
  ·have Z:k=xs.length:=by omega
   subst Z;have a0:=j.2.1;have t:=j.2.2.2.2;rw[List.take_of_length_le (Nat.le_refl _)] at t;have M:Dg.vl 4294967296 g=Dg.vl 4294967296 xs*2^n:=by
    rw[t,i.out,o.out,Nat.pow_add,Nat.pow_mul,Nat.mul_left_comm]
   have S:Hid _:=M;clear s t M
   go_wp2_with fail
   refine(jD _ _ _ g _ own.rd).mono ?_;rintro e w' ⟨m,rfl,E,rfl⟩;have K:=jW 4294967296 (by omega) own a0 E;rw[S.out] at K;clear E
   go_wp2
   go_ret
   exact⟨_,rfl,K,p⟩
theorem Vh (P Q:Nat)(l:List Nat):l.headD 0 % P=Dg.vl (P*Q) l % P:=by
 cases l with
 |nil=>simp[Dg.vl]
 |cons y l=>simp only[List.headD_cons,Dg.vl];rw[Nat.mul_assoc,Nat.add_mul_mod_self_left]
theorem Y8 (P Q:Nat)(b:0<P)(l:List Nat):Dg.vl (P*Q) (low P Q l)=Dg.vl (P*Q) l/P:=by
 induction l with
 |nil=>simp[low,Dg.vl]
 |cons y l ih=>
  simp only[low,Dg.vl,ih];rw[Vh P Q l];have a:(y+P*Q*Dg.vl (P*Q) l)/P=y/P+Q*Dg.vl (P*Q) l:=by
   rw[Nat.mul_assoc,Nat.add_mul_div_left _ _ b]
  rw[a];generalize Dg.vl (P*Q) l=V;have c:V % P*Q+P*Q*(V/P)=Q*V:=by
   have:=Nat.mod_add_div V P
   calc V % P*Q+P*Q*(V/P)=Q*(V % P+P*(V/P)):=by rw[Nat.mul_add,Nat.mul_comm (V % P),Nat.mul_comm P Q,Nat.mul_assoc]
    _=Q*V:=by rw[this]
  omega
theorem abL {xs b:List Nat}{a P Q:Nat}(h:abK xs b a P Q (xs.length-a))(g:a≤xs.length)(c:P*Q=4294967296)(i:Dg.Small 4294967296 xs):
  Dg.Small 4294967296 b∧Dg.vl 4294967296 b=Dg.vl 4294967296 xs/(4294967296^a*P):=by
 have k:0<P:=by
  rcases Nat.eq_zero_or_pos P with e|e
  ·subst e;simp at c
  ·exact e
 have l:b=low P Q (xs.drop a):=by
  apply Dg.eq_of_all
  ·rw[mA,h.1];simp
  ·intro j
   rw[h.2 j]
   by_cases d:j<xs.length-a
   ·rw[if_pos d,Gb P Q _ j (by simpa using d),ui,ui,Nat.add_assoc]
   ·rw[if_neg d,Dg.getD_of_le _ _ (by rw[mA];simp;omega)]
 refine⟨fun j=> ?_, ?_⟩
 ·rw[h.2 j]
  split
  ·exact(I7 c (i _)).2
  ·omega
 ·rw[l,←c,Y8 P Q k,c,←Nat.div_div_eq_div_mul]
  congr 1
  have m:=Dg.vl_take_drop 4294967296 xs a g;have f:=Dg.vl_lt 4294967296 (xs.take a) (Dg.small_take i _ (by omega));rw[List.length_take,Nat.min_eq_left g] at f;rw[m,Nat.add_comm,Nat.mul_add_div (Nat.pow_pos (by omega)),Nat.div_eq_of_lt f,Nat.add_zero]
theorem Y9 {xs b:List Nat}{a P Q k v:Nat}(h:abK xs b a P Q k)(i:k<xs.length-a)(g:v=xs.getD (a+k) 0/P+xs.getD (a+k+1) 0 % P*Q):abK xs (b.set k v) a P Q (k+1):=by
 obtain⟨d,f⟩:=h;refine⟨by simpa using d,fun j=> ?_⟩
 rw[Dg.getD_set _ _ _ _ (by omega)]
 by_cases e:k=j
 ·subst e;rw[if_pos rfl,if_pos (by omega)];exact g
 ·rw[if_neg e,f j]
  by_cases c:j<k
  ·rw[if_pos c,if_pos (by omega)]
  ·rw[if_neg c,if_neg (by omega)]
theorem Dj (va:Value)(xs:List Nat)(n a d:Nat)(w:World)(ha:Rd w .u32 va xs)(F:Dg.Small 4294967296 xs)(ad:xs.length≤1000000000)(B:n=32*a+d)(a5:d<32)(al:n≤40000000000):
  yC 152 #[va,yi n] w (Num w (Dg.vl 4294967296 xs/2^n)):=by
 have v:2^d*2^ (32-d)=4294967296:=by rw[←Nat.pow_add,show d+(32-d)=32 from by omega]
 have C:4294967296^a*2^d=2^n:=by rw[B,Nat.pow_add,Nat.pow_mul]
 obtain⟨ao,ca,rfl,-,-,N⟩:=ha;obtain⟨i0,hi,a7,a8,a9⟩:=info_parts Tryz.infoU32;have hq:(n:Int)/32=(a:Int):=by omega
 have hr:(n:Int) % 32=(d:Int):=by omega
 have an:a≤40000000000:=by omega
 have a0:Hid _:=v;have a1:Hid _:=C
 by_cases a2:xs.length≤a
 ·have X:Dg.vl 4294967296 xs/2^n=0:=by
   apply Nat.div_eq_of_lt;have h1:=Dg.vl_lt 4294967296 xs F;have t:4294967296^xs.length≤4294967296^a:=Nat.pow_le_pow_right (by omega) a2;have h3:4294967296^a≤4294967296^a*2^d:=Nat.le_mul_of_pos_right _ (Nat.pow_pos (by omega));omega
  rw[X];clear X B v C
  go_enter func152,ntmps152
  go_wp2
  go_ret
  exact⟨_,rfl,aQ _ _ _ _,Below.refl _ _⟩
 ·clear B v C
  obtain⟨L,K⟩: ∃L,xs.length-a=L:=⟨_,rfl⟩
  go_enter func152,ntmps152
  go_wp2_with (at_make;refine wpList_make_full _ rfl _ _ 78 rfl w.heap.size 54 i0 (.int .u32 0) 1 underlying78 hi a7 a8 _ _ _ _ (xs.length-a) rfl rfl (by omega) (by omega) ?b2 ?b3 (Nat.le_refl _) ?_)
  case b2=>rw[a9];omega
  case b3=>unfold maxLen;omega
  intro w0 R O;have Z:=gL R;have H:yB w w0:=(Below.refl _ _).grown O (Nat.le_refl _) (fun k h=>by cases h)
  have p:Hid _:=K;have M:a+L=xs.length:=by omega
  have G:Hid _:=M;have ac:L≤1000000000:=by omega
  clear R O K M
  go_wp2
  go_loopw [24] (fun E wr=> ∃(k:Nat) (i:List Nat),k≤L∧E=yi k∧Own wr w.heap.size 54 .u32 (.slice (some ⟨w.heap.size,0,none⟩) L L) i∧abK xs i a (2^d) (2^ (32-d)) k∧yB w wr) (fun E _=>L-(intOf E).toNat)
  case atStart=>
   refine⟨0,_,Nat.zero_le _,rfl,Z,⟨by have:=p.out;simp;omega,fun j=> ?_⟩,H⟩
   rw[if_neg (by omega)]
   by_cases h:j<L<;>simp[List.getD_eq_getElem?_getD,h]
  case round=>
   clear Z H;obtain⟨k,i,hk,rfl,own,u,g⟩:=hrel;have T:i.length=L:=u.1.trans p.out
   by_cases ae:k<L
   ·have a6:a+k<xs.length:=by have:=G.out;omega
    obtain⟨b,ap,rfl,z⟩:=N (by omega);have hx:=cell_later g (z (a+k) a6);have q:=fun h:a+k+1<xs.length=>cell_later g (z (a+k+1) h)
    have U:=F (a+k);have hu:=own.c k (by omega);have hf:=own.f k;have r: ¬a+k+1<xs.length→xs.getD (a+k+1) 0=0:=fun h=>Dg.getD_of_le _ _ (by omega)
    have o:=Y9 u (by have:=p.out;omega) rfl;obtain⟨x,I⟩: ∃x,xs.getD (a+k) 0=x:=⟨_,rfl⟩;obtain⟨y,J⟩: ∃y,xs.getD (a+k+1) 0=y:=⟨_,rfl⟩;rw[I] at hx U o;rw[J] at q r o;clear I J z N T
    by_cases t:a+k+1<xs.length
    ·have W:=q t
     have Q:=adm x y d a5 U;have HO:Hid _:=Q;clear q r Q
     go_wp2
     go_region
     all_goals go_wp2
     all_goals go_roundw
     case rel=>
      have s:(x:Int)/2^d=((x/2^d:Nat):Int):=by rw[Int.natCast_ediv,Int.natCast_pow];rfl
      rw[HO.out,s];have Y:=(own.store k (x/2^d)).store k (x/2^d+y % 2^d*2^ (32-d));rw[List.set_set] at Y;exact⟨k+1,_,by omega,by go_num,Own.l Y (Below.drew (Below.refl _ _)),o,((g.setCell (by exact Nat.le_refl _) _).setCell (by exact Nat.le_refl _) _).drew⟩
     case measure=>simp[intOf];omega
    ·have W:=r t
     subst W;simp only[Nat.zero_mod,Nat.zero_mul,Nat.add_zero] at o;clear q r
     go_wp2
     go_roundw
     case rel=>
      have s:(x:Int)/2^d=((x/2^d:Nat):Int):=by rw[Int.natCast_ediv,Int.natCast_pow];rfl
      rw[s];exact⟨k+1,_,by omega,by go_num,own.store k _,o,g.setCell (by exact Nat.le_refl _) _⟩
     case measure=>simp[intOf];omega
   ·have a3:k=L:=by omega
    subst a3;have A:=abL (by rw[p.out];exact u) (by have:=G.out;omega) a0.out F;have D:=A.2;rw[a1.out] at D;have HV:Hid _:=D;have a4:=A.1;clear T D A
    go_wp2_with fail
    refine(jD _ _ _ i _ own.rd).mono ?_;rintro e w' ⟨m,rfl,P,rfl⟩;have S:=jW 4294967296 (by omega) own a4 P;rw[HV.out] at S;clear P
    go_wp2
    go_ret
    exact⟨_,rfl,S,g⟩
theorem eO (a:Value)(xs:List Nat)(n:Int)(w:World)(c:Rd w .u32 a xs)(i:Dg.Small 4294967296 xs)(f:xs.length≤1000000000)(q: -40000000000≤n)(r:n≤40000000000):
  yC 118 #[a,yi n] w (Num w (shN (Dg.vl 4294967296 xs) n)):=by
 unfold shN
 by_cases g:n<0
 ·rw[if_pos g]
  obtain⟨m,j⟩: ∃m:Nat,-n=(m:Int):=⟨(-n).toNat,by omega⟩;have d:=Dj a xs m (m/32) (m % 32) w c i f (by omega) (by omega) (by omega);rw[j,Int.toNat_natCast]
  go_enter func118,ntmps118
  go_wp2_with fail
  refine d.mono ?_;rintro e l ⟨v,rfl,own,b⟩
  go_wp2
  go_ret
  exact⟨_,rfl,own,b⟩
 ·rw[if_neg g]
  obtain⟨m,rfl⟩: ∃m:Nat,n=(m:Int):=⟨n.toNat,by omega⟩;rw[Int.toNat_natCast]
  by_cases h:xs=[]
  ·subst h
   obtain⟨o,p,rfl⟩:=c.shape;have k:Dg.vl 4294967296 []*2^m=0:=by simp[Dg.vl]
   rw[k]
   go_enter func118,ntmps118
   go_wp2
   go_ret
   exact⟨_,rfl,aQ _ _ _ _,Below.refl _ _⟩
  ·have d:=vO a xs m (m/32) (m % 32) (2^ (m % 32)) w c i f (by omega) (by omega) rfl (by omega) h
   go_enter func118,ntmps118
   go_wp2_with fail
   refine d.mono ?_;rintro e l ⟨v,rfl,own,b⟩
   go_wp2
   go_ret
   exact⟨_,rfl,own,b⟩
def Tab (w:World):Prop:= ∀j,j<32→w.cell? ⟨0,j,none⟩=some (.int .u8 ((Lib.deBruijn32tab.getD j 0:Nat):Int))
theorem Tab.l {w w':World}(h:Tab w)(a:yB w w'):Tab w':=fun j b=>cell_later a (h j b)
def Dv (w:World)(v:Value)(t:ak):Prop:= ∃s,v=(ydV t.s s t.e)∧Rd w .u32 s (Dg.dg 4294967296 t.n)
theorem Dv.l {w w':World}{v:Value}{t:ak}(h:Dv w v t)(a:yB w w'):Dv w' v t:=by
 obtain⟨s,c,b⟩:=h;exact⟨s,c,b.l a⟩
def Loc (w:World)(b:Nat)(v0 v1 v2:Value):Prop:=
 b<w.heap.size∧(w.cell? ⟨b,0,none⟩=some v0∧w.cell? ⟨b,1,none⟩=some v1∧w.cell? ⟨b,2,none⟩=some v2)∧w.frozen? ⟨b,0,none⟩=false∧w.frozen? ⟨b,1,none⟩=false∧w.frozen? ⟨b,2,none⟩=false
theorem Loc.l {w w':World}{b:Nat}{f g i:Value}(h:Loc w b f g i)(c:yB w w'):Loc w' b f g i:=by
 obtain⟨e,⟨j,k,m⟩,n,o,p⟩:=h;have d:=c.block b e;refine⟨Nat.lt_of_lt_of_le e c.size,⟨cell_later c j,cell_later c k,cell_later c m⟩, ?_, ?_, ?_⟩
 ·rw[World.frozen?_of_block (w:=w) (a:=⟨b,0,none⟩) d];exact n
 ·rw[World.frozen?_of_block (w:=w) (a:=⟨b,1,none⟩) d];exact o
 ·rw[World.frozen?_of_block (w:=w) (a:=⟨b,2,none⟩) d];exact p
theorem aA (w:World)(a b c:Value)(d:TypeId):Loc (w.alloc (.cells #[a,b,c] d)) w.heap.size a b c:=by
 refine⟨by simp[World.size_alloc],⟨?_, ?_, ?_⟩, ?_, ?_, ?_⟩
 ·rw[World.cell?_alloc_at _ _ _ _ rfl];rfl
 ·rw[World.cell?_alloc_at _ _ _ _ rfl];rfl
 ·rw[World.cell?_alloc_at _ _ _ _ rfl];rfl
 ·exact World.frozen?_alloc_at _ _ _ _ rfl
 ·exact World.frozen?_alloc_at _ _ _ _ rfl
 ·exact World.frozen?_alloc_at _ _ _ _ rfl
theorem af (w:World)(o:Obj):yB w (w.alloc o):=(Below.refl _ _).alloc (Nat.le_refl _) _
theorem cN (b:Bool)(a:Option Addr)(n c:Nat)(e:Int)(w:World):yC 61 #[ydV b (.slice a n c) e] w (yR w (.slice a n c)):=by
 have d:yB w (w.alloc (.cells (ydA b (.slice a n c) e) 41)):=(Below.refl _ _).alloc (Nat.le_refl _) _
 go_enter func61,ntmps61
 go_wp2
 go_ret
 exact⟨rfl,d⟩
theorem Zm (c:Bool)(a:Option Addr)(b n:Nat)(e x:Int)(w:World)(t:Rd w .u32 (.slice a (Dg.dg 4294967296 n).length b) (Dg.dg 4294967296 n))(A:(Dg.dg 4294967296 n).length≤900000000)
  (_h1: -4000000000≤e) (_h2:e≤4000000000) (_h3: -4000000000≤x) (H:x≤e) (I:e-x≤10000000000):
  Calls Tryz.prog 108 #[.agg #[.bool c,.slice a (Dg.dg 4294967296 n).length b,.int .i64 e],.int .i64 x] w (Num w (n*2^ (e-x).toNat)):=by
 have j:Hid (∀d,Below w.heap.size w d→Calls Tryz.prog 118 #[.slice a (Dg.dg 4294967296 n).length b,.int .i64 (e-x)] d (Num d (n*2^ (e-x).toNat))):=fun d z=>by
  have:=eO _ _ (e-x) d (t.l z) (Dg.small_dg _ _ (by omega)) (by omega) (by omega) (by omega)
  rwa [Dg.vl_dg _ _ (by omega),CE n _ (by omega)] at this
 obtain⟨m,r⟩: ∃m,(Dg.dg 4294967296 n).length=m:=⟨_,rfl⟩;obtain⟨q,s⟩: ∃q,n*2^ (e-x).toNat=q:=⟨_,rfl⟩;rw[r,s] at j⊢;clear r t A s;have f:=aA w (.bool c) (.slice a m b) (.int .i64 e) 41;have p:=af w (.cells #[.bool c,.slice a m b,.int .i64 e] 41);have h:Below (w.alloc (.cells #[.bool c,.slice a m b,.int .i64 e] 41)).heap.size (w.alloc (.cells #[.bool c,.slice a m b,.int .i64 e] 41)) (w.alloc (.cells #[.bool c,.slice a m b,.int .i64 e] 41)).drew:=(Below.refl _ _).drew;have f:=f.l h;have v:=aa p h;clear p h;have G:IntKind.i64.wrap (e-x)=e-x:=IntWalk.i64_in _ ⟨by omega,by omega⟩;obtain⟨-,⟨D,E,F⟩,-⟩:=id f
 go_enter func108,ntmps108
 go_wp2_with fail
 go_region_held3 (fun i=>i.cell? ⟨w.heap.size,0,none⟩=some (.bool c)∧i.cell? ⟨w.heap.size,1,none⟩=some (.slice a m b)∧i.cell? ⟨w.heap.size,2,none⟩=some (.int .i64 e)) (go_keep) (first
  | (go_at_call 61;refine(cN c a m b e _).mono ?_;rintro x M ⟨rfl,k⟩;have u:=f.l k;have g:=aa v k;obtain⟨-,⟨J,p1,p2⟩,-⟩:=id u)
  | (go_at_call 118;refine(j.out _ g).mono ?_;rintro x N ⟨L,rfl,C,o⟩;have B:=u.l o;have y:=aa g o;obtain⟨-,⟨K,q1,q2⟩,-⟩:=id B))
 all_goals go_wp2
 go_ret
 exact⟨_,rfl,C.lower g.size,y⟩
end Go.Proofs.YthhiidikgchdeaaGreatDoor
