/- Texts laid together. -/
import Derived.Test.YtlhkndcmbpcpgaaGreatDoorXs04
import Derived.Test.YtlhkndcmbpcpgaaGreatDoorXs06
import Derived.Test.YtlhkndcmbpcpgaaGreatDoorXs08
set_option maxRecDepth 100000
set_option maxHeartbeats 6400000
namespace Go.Proofs.YtlhkndcmbpcpgaaGreatDoor
open _root_.Go.Proofs.Tryz
open Go.RowKit
theorem Dj (va:Value)(xs:List Nat)(n a d:Nat)(w:World)(ha:Rd w .u32 va xs)(F:Dg.Small 4294967296 xs)(ac:xs.length≤1000000)(B:n=32*a+d)(a5:d<32)(ae:n≤100000000):
  yC 84 #[va,yi n] w (Num w (Dg.vl 4294967296 xs/2^n)):=by
 have v:2^d*2^ (32-d)=4294967296:=by rw[←Nat.pow_add,show d+(32-d)=32 from by omega]
 have C:4294967296^a*2^d=2^n:=by rw[B,Nat.pow_add,Nat.pow_mul]
 obtain⟨ao,ca,rfl,-,-,N⟩:=ha;obtain⟨i0,hi,a7,a8,a9⟩:=info_parts Tryz.infoU32;have hq:(n:Int)/32=(a:Int):=by omega
 have hr:(n:Int) % 32=(d:Int):=by omega
 have al:a≤100000000:=by omega
 have a0:Hid _:=v;have a1:Hid _:=C
 by_cases a2:xs.length≤a
 ·have X:Dg.vl 4294967296 xs/2^n=0:=by
   apply Nat.div_eq_of_lt;have h1:=Dg.vl_lt 4294967296 xs F;have t:4294967296^xs.length≤4294967296^a:=Nat.pow_le_pow_right (by omega) a2;have h3:4294967296^a≤4294967296^a*2^d:=Nat.le_mul_of_pos_right _ (Nat.pow_pos (by omega));omega
  rw[X];clear X B v C
  go_enter func84,ntmps84
  go_wp2
  go_ret
  exact⟨_,rfl,aQ _ _ _ _,Below.refl _ _⟩
 ·clear B v C
  obtain⟨L,K⟩: ∃L,xs.length-a=L:=⟨_,rfl⟩
  go_enter func84,ntmps84
  go_wp2_with (at_make;refine wpList_make_full _ rfl _ _ 47 rfl w.heap.size 105 i0 (.int .u32 0) 1 underlying47 hi a7 a8 _ _ _ _ (xs.length-a) rfl rfl (by omega) (by omega) ?b2 ?b3 (Nat.le_refl _) ?_)
  case b2=>rw[a9];omega
  case b3=>unfold maxLen;omega
  intro w0 R O;have Z:=gL R;have H:yB w w0:=(Below.refl _ _).grown O (Nat.le_refl _) (fun k h=>by cases h)
  have p:Hid _:=K;have M:a+L=xs.length:=by omega
  have G:Hid _:=M;have ab:L≤1000000:=by omega
  clear R O K M
  go_wp2
  go_loopw [24] (fun E wr=> ∃(k:Nat) (i:List Nat),k≤L∧E=yi k∧Own wr w.heap.size 105 .u32 (.slice (some ⟨w.heap.size,0,none⟩) L L) i∧abK xs i a (2^d) (2^ (32-d)) k∧yB w wr) (fun E _=>L-(intOf E).toNat)
  case atStart=>
   refine⟨0,_,Nat.zero_le _,rfl,Z,⟨by have:=p.out;simp;omega,fun j=> ?_⟩,H⟩
   rw[if_neg (by omega)]
   by_cases h:j<L<;>simp[List.getD_eq_getElem?_getD,h]
  case round=>
   clear Z H;obtain⟨k,i,hk,rfl,own,u,g⟩:=hrel;have T:i.length=L:=u.1.trans p.out
   by_cases ad:k<L
   ·have a6:a+k<xs.length:=by have:=G.out;omega
    obtain⟨b,an,rfl,z⟩:=N (by omega);have hx:=cell_later g (z (a+k) a6);have q:=fun h:a+k+1<xs.length=>cell_later g (z (a+k+1) h)
    have U:=F (a+k);have hu:=own.c k (by omega);have hf:=own.f k;have r: ¬a+k+1<xs.length→xs.getD (a+k+1) 0=0:=fun h=>Dg.getD_of_le _ _ (by omega)
    have o:=Y9 u (by have:=p.out;omega) rfl;obtain⟨x,I⟩: ∃x,xs.getD (a+k) 0=x:=⟨_,rfl⟩;obtain⟨y,J⟩: ∃y,xs.getD (a+k+1) 0=y:=⟨_,rfl⟩;rw[I] at hx U o;rw[J] at q r o;clear I J z N T
    by_cases t:a+k+1<xs.length
    ·have W:=q t
     have Q:=adm x y d a5 U;have HO:Hid _:=Q;clear q r Q
     go_wp2
     go_region
     all_goals go_wp2
     all_goals go_roundw
     case rel=>
      have s:(x:Int)/2^d=((x/2^d:Nat):Int):=by rw[Int.natCast_ediv,Int.natCast_pow];rfl
      rw[HO.out,s];have Y:=(own.store k (x/2^d)).store k (x/2^d+y % 2^d*2^ (32-d));rw[List.set_set] at Y;exact⟨k+1,_,by omega,by go_num,Own.l Y (Below.drew (Below.refl _ _)),o,((g.setCell (by exact Nat.le_refl _) _).setCell (by exact Nat.le_refl _) _).drew⟩
     case measure=>simp[intOf];omega
    ·have W:=r t
     subst W;simp only[Nat.zero_mod,Nat.zero_mul,Nat.add_zero] at o;clear q r
     go_wp2
     go_roundw
     case rel=>
      have s:(x:Int)/2^d=((x/2^d:Nat):Int):=by rw[Int.natCast_ediv,Int.natCast_pow];rfl
      rw[s];exact⟨k+1,_,by omega,by go_num,own.store k _,o,g.setCell (by exact Nat.le_refl _) _⟩
     case measure=>simp[intOf];omega
   ·have a3:k=L:=by omega
    subst a3;have A:=abL (by rw[p.out];exact u) (by have:=G.out;omega) a0.out F;have D:=A.2;rw[a1.out] at D;have HV:Hid _:=D;have a4:=A.1;clear T D A
    go_wp2_with fail
    refine(jD _ _ _ i _ own.rd).mono ?_;rintro e w' ⟨m,rfl,P,rfl⟩;have S:=jW 4294967296 (by omega) own a4 P;rw[HV.out] at S;clear P
    go_wp2
    go_ret
    exact⟨_,rfl,S,g⟩
theorem eO (a:Value)(xs:List Nat)(n:Int)(w:World)(c:Rd w .u32 a xs)(i:Dg.Small 4294967296 xs)(f:xs.length≤1000000)(q: -1000000≤n)(r:n≤1000000):
  yC 43 #[a,yi n] w (Num w (shN (Dg.vl 4294967296 xs) n)):=by
 unfold shN
 by_cases g:n<0
 ·rw[if_pos g]
  obtain⟨m,j⟩: ∃m:Nat,-n=(m:Int):=⟨(-n).toNat,by omega⟩;have d:=Dj a xs m (m/32) (m % 32) w c i f (by omega) (by omega) (by omega);rw[j,Int.toNat_natCast]
  go_enter func43,ntmps43
  go_wp2_with fail
  refine d.mono ?_;rintro e l ⟨v,rfl,own,b⟩
  go_wp2
  go_ret
  exact⟨_,rfl,own,b⟩
 ·rw[if_neg g]
  obtain⟨m,rfl⟩: ∃m:Nat,n=(m:Int):=⟨n.toNat,by omega⟩;rw[Int.toNat_natCast]
  by_cases h:xs=[]
  ·subst h
   obtain⟨o,p,rfl⟩:=c.shape;have k:Dg.vl 4294967296 []*2^m=0:=by simp[Dg.vl]
   rw[k]
   go_enter func43,ntmps43
   go_wp2
   go_ret
   exact⟨_,rfl,aQ _ _ _ _,Below.refl _ _⟩
  ·have d:=vO a xs m (m/32) (m % 32) (2^ (m % 32)) w c i f (by omega) (by omega) rfl (by omega) h
   go_enter func43,ntmps43
   go_wp2_with fail
   refine d.mono ?_;rintro e l ⟨v,rfl,own,b⟩
   go_wp2
   go_ret
   exact⟨_,rfl,own,b⟩
theorem kD (g:Value)(xs:List Nat)(n:Nat)(w:World)(c:Rd w .i64 g xs)(q:Dg.Small 65536 xs)(j:xs.length≤1000000)(k:n≤1000000):
  yC 93 #[g,yi n] w (cG w (Dg.vl 65536 xs*2^n)):=by
 obtain⟨t,u,rfl⟩:=c.shape
 by_cases d:xs=[]
 ·subst d
  have m:Dg.vl 65536 []*2^n=0:=by simp[Dg.vl]
  rw[m]
  go_enter func93,ntmps93
  go_wp2
  go_ret
  exact⟨_,rfl,(aQ _ 0 0 _).rd,Below.refl _ _⟩
 ·have v:((xs.length:Int)==0)=false:=by simp;exact d
  have f:=pf n (n/16) (n % 16) w (by omega) (by omega) k;have x:=Fr n
  go_enter func93,ntmps93
  go_wp2_with fail
  refine f.mono ?_;rintro e s ⟨r,rfl,o,b⟩;have a:=fN _ r xs _ s (c.l b) o q (Dg.small_dg _ _ (by omega)) j (by omega);rw[Dg.vl_dg _ _ (by omega)] at a
  go_wp2_with fail
  refine a.mono ?_;rintro e z ⟨y,rfl,p,i⟩;have h:=aa b i;clear a f
  go_wp2
  go_ret
  exact⟨_,rfl,p,h⟩
theorem H7 (g N i pc base t:Nat)(R a:List Nat)(O:Value)(w:World)(K:Own w base 105 .u32 (.slice (some ⟨g,0,none⟩) N N) R)(B:Dg.Small 4294967296 R)(sb:Dg.Small 4294967296 a)
  (z: ∀w',w.grownBy w' (some g)→Rd w' .u32 O a) (X:i+a.length<R.length) (Y:t<4294967296) (a1:R.length≤2000000):
  yC 134 #[.slice (some ⟨g,i,none⟩) (a.length+1) pc,O,.int .u32 t] w fun e w'=>
   ∃(b:Nat) (m:List Nat),e= .returned (.bool (decide (b=1)))∧acc R m a i t b∧Own w' base 105 .u32 (.slice (some ⟨g,0,none⟩) N N) m∧w.grownBy w' (some g):=by
 obtain⟨bo,cb,rfl⟩:=(z w (ib _ _)).shape;have P:Hid _:=z
 clear z
 go_enter func134,ntmps134
 go_wp2
 go_loopw [7,8,14] (fun S Q A wr=> ∃(k c b:Nat) (m:List Nat),k≤a.length∧A=yi k∧S= .int .u64 c∧Q= .int .u32 b∧Own wr base 105 .u32 (.slice (some ⟨g,0,none⟩) N N) m∧SX R m a i t k c b∧w.grownBy wr (some g)) (fun _ _ A _=>a.length-(intOf A).toNat)
 case atStart=>exact⟨0,0,0,R,Nat.zero_le _,rfl,rfl,rfl,K,⟨rfl,B,by omega,by omega,fun _ _=>rfl,by simp[Dg.vl]⟩,ib _ _⟩
 case round=>
  clear K;obtain⟨k,c,b,m,hk,rfl,rfl,rfl,own,o,gr⟩:=hrel;have H:=o.1;have T:=o.2.2.1;have D:=o.2.2.2.1
  by_cases J:k<a.length
  ·obtain⟨-,-,F⟩:=iQ (P.out wr gr)
   obtain⟨b2,a5,rfl,G⟩:=F (by omega);have Z:=G k J;have L:=sb k;have v:=own.c (i+k) (by omega);have U:=own.f (i+k);rw[o.2.2.2.2.1 _ (Nat.le_refl _)] at v;have q:=B (i+k);obtain⟨y,x⟩: ∃y,a.getD k 0=y:=⟨_,rfl⟩;obtain⟨p,n⟩: ∃p,R.getD (i+k) 0=p:=⟨_,rfl⟩;rw[x] at Z L;rw[n] at v q;have a2:=uf L Y;have a4:(y:Int)*(t:Int)≤18446744065119617025:=by rw[←Int.natCast_mul];omega
   have a3:0≤(y:Int)*(t:Int):=by rw[←Int.natCast_mul];omega
   have d:=VS o J (by omega) x n q rfl (by omega);have I:(c+y*t) % 4294967296<4294967296:=Nat.mod_lt _ (by omega);have j:=zA p ((c+y*t) % 4294967296) b wr q I D;rw[←Sd] at j;have s:Hid _:=d;obtain⟨l,u⟩: ∃l,(p+4294967296-(c+y*t) % 4294967296-b) % 4294967296=l:=⟨_,rfl⟩;obtain⟨h,r⟩: ∃h,brw p ((c+y*t) % 4294967296) b=h:=⟨_,rfl⟩;rw[u,r] at j s;clear x n G F d I H u r
   go_wp2_with fail
   refine j.mono ?_;rintro e w' ⟨rfl,rfl⟩;clear j
   go_wp2
   go_roundw
   case rel=>
    rw[Se];exact⟨k+1,_,h,_,by omega,by go_num,rfl,rfl,own.store (i+k) _,s.out,eF gr (bI _ _ _ _)⟩
   case measure=>simp[intOf];omega
  ·have W:k=a.length:=by omega
   subst W;have v:=own.c (i+a.length) (by omega);have U:=own.f (i+a.length);rw[o.2.2.2.2.1 _ (Nat.le_refl _)] at v;have q:=B (i+a.length);obtain⟨p,n⟩: ∃p,R.getD (i+a.length) 0=p:=⟨_,rfl⟩;rw[n] at v q;have d:=VT o X n q;have j:=zA p c b wr q T D;have E:=RN p c b;obtain⟨l,u⟩: ∃l,(p+4294967296-c-b) % 4294967296=l:=⟨_,rfl⟩;obtain⟨h,r⟩: ∃h,brw p c b=h:=⟨_,rfl⟩;rw[u,r] at j d;rw[r] at E;have s:Hid (acc R (m.set (i+a.length) l) a i t h):=⟨d.1,d.2.1,d.2.2.1,E,d.2.2.2⟩;have M:=own.store (i+a.length) l;have C:=eF gr (bI wr g (i+a.length) (.int .u32 (l:Int)));clear n d H u r
   go_wp2_with fail
   refine j.mono ?_;rintro e w' ⟨rfl,rfl⟩;clear j
   by_cases hz:h=0
   ·subst hz
    go_wp2
    go_ret
    exact⟨0,_,rfl,s,M,C⟩
   ·have a0:h=1:=by omega
    subst a0
    go_wp2
    go_ret
    exact⟨1,_,rfl,s,M,C⟩
theorem C7 (R D L G:Int)(gr:Bool)(n:Nat)(w:World)(t:n≤1000):
  yC 207 #[ygV R D L G gr,yi n] w (Num w (2^ (ai R*n))):=by
 have h:=af w (.cells (ygA R D L G gr) 193);have i:=aa h (af _ (.cells #[.int .u32 ((1:Nat):Int)] 105));have f:=cE (w:=w.alloc (.cells (ygA R D L G gr) 193)) (k:= .u32) (e:=105) [1] #[.int .u32 ((1:Nat):Int)] rfl (by unfold maxLen;simp);rw[World.size_alloc] at f;have c:Hid (yJ 154 #[ygV R D L G gr] (yi (xg R))):=fun b=>tY R D L G gr b
 have m:=eN R;rw[jf] at c;obtain⟨a,j⟩: ∃k,ai R=k:=⟨_,rfl⟩;rw[j] at c m⊢;have s:a*n≤4000:=Nat.le_trans (Nat.mul_le_mul m.2 t) (by omega);have o:Hid (∀v b,Rd b .u32 v [1]→yC 43 #[v,yi ((a:Int)*(n:Int))] b (Num b (2^ (a*n)))):=fun v b r=>by
  have:=eO v [1] ((a*n:Nat):Int) b r (Dg.small_cons.2 ⟨by omega,Dg.small_nil _ (by omega)⟩) (by simp) (by omega) (by omega);rw[CE _ _ (by omega),Int.toNat_natCast,show Dg.vl 4294967296 [1]=1 from rfl,Nat.one_mul] at this
  rwa [Int.natCast_mul] at this
 have B:(a:Int)*(n:Int)≤4000:=by exact_mod_cast s
 have A:0≤(a:Int)*(n:Int):=by exact_mod_cast Nat.zero_le _
 have C:IntKind.i64.wrap ((a:Int)*(n:Int))=(a:Int)*(n:Int):=IntWalk.i64_in _ ⟨by omega,by omega⟩;clear j
 go_enter func207,ntmps207
 go_wp2_with fail
 refine(c.out _).mono ?_;rintro z F ⟨rfl,d⟩;have g:=aa i d;have y:=f.l d;clear h i f d
 go_wp2_with fail
 refine(o.out _ _ y).mono ?_;rintro z H ⟨E,rfl,u,q⟩;have p:=aa g q;have x:=u.lower g.size
 go_wp2
 go_ret
 exact⟨_,rfl,x,p⟩
theorem Ax (R D L G:Int)(gr:Bool)(w:World)(j:1≤D)(k:D≤120):
  yC 194 #[ygV R D L G gr] w (Num w (2^ (ai R*(D-1).toNat))):=by
 obtain⟨d,rfl⟩: ∃d:Nat,D=(d:Int)+1:=⟨(D-1).toNat,by omega⟩;have g:((d:Int)+1-1).toNat=d:=by omega
 rw[g];have b:=af w (.cells (ygA R ((d:Int)+1) L G gr) 193);have c:Hid (∀a,yC 207 #[ygV R ((d:Int)+1) L G gr,yi d] a (Num a (2^ (ai R*d)))):=fun a=>C7 R _ L G gr d a (by omega)
 go_enter func194,ntmps194
 go_wp2_with fail
 refine(c.out _).mono ?_;rintro z m ⟨l,rfl,h,f⟩;have e:=aa b f;have i:=h.lower b.size
 go_wp2
 go_ret
 exact⟨_,rfl,i,e⟩
theorem MX (R D L G:Int)(gr:Bool)(w:World)(i:1≤D)(j:D≤120):
  yC 193 #[ygV R D L G gr] w (Num w (2^ (ai R*D.toNat))):=by
 obtain⟨d,rfl⟩: ∃d:Nat,D=(d:Int):=⟨D.toNat,by omega⟩;rw[Int.toNat_natCast];have b:=af w (.cells (ygA R (d:Int) L G gr) 193);have c:Hid (∀a,yC 207 #[ygV R (d:Int) L G gr,yi d] a (Num a (2^ (ai R*d)))):=fun a=>C7 R _ L G gr d a (by omega)
 go_enter func193,ntmps193
 go_wp2_with fail
 refine(c.out _).mono ?_;rintro z l ⟨k,rfl,g,f⟩;have e:=aa b f;have h:=g.lower b.size
 go_wp2
 go_ret
 exact⟨_,rfl,h,e⟩
open Go.RowKit Go.ChangeMaps Go.MapKept
theorem sS {P:Program}{t k e:TypeId}(m:P.underlying t=some (.map k e))(g:P.underlying k=some (.int .i64)){w W:World}{r:Nat}{b:Array MapEntry}{c:Nat}(d:W.heap[r]? =some (.map b c))(n:w.heap.size≤r)(a:yB w W)(x:Int)(v:Value)(l:Instr.findNow (.int .i64) (yi x) b.toList 0=some none):
  ∃f,(Instr.mapUpdate t (.map (some r)) (yi x) v).run P W= .ok () f∧f.heap[r]? =some (.map (b.push ⟨yi x,v,c⟩) (c+1))∧yB w f:=by
 have j:IsKey (.int .i64) (yi x):=rfl;refine⟨setBlock W r (.map (b.push ⟨yi x,v,c⟩) (c+1)), ?_, ?_, ?_⟩
 ·simp[Instr.mapUpdate,run_underlying m,MapKept.run_getObj_map d,run_checkKey g j,run_findKey g l,MapKept.run_setObj_map _ d,Result.andThen,setBlock]
 ·exact(MapKept.heap_set d).1
 ·refine⟨a.os,a.tape,a.output, ?_,fun i h=> ?_⟩
  ·show w.heap.size≤(W.heap.setIfInBounds r _).size
   rw[Array.size_setIfInBounds];exact a.size
  ·show(W.heap.setIfInBounds r _)[i]? =_
   rw[(MapKept.heap_set (o':=Obj.map (b.push ⟨yi x,v,c⟩) (c+1)) d).2 i (by omega)];exact a.block i h
theorem pj {P:Program}{t k e:TypeId}(g:P.underlying t=some (.map k e))(b:P.underlying k=some (.int .i64)){W:World}{r:Nat}{a:Array MapEntry}{c:Nat}(d:W.heap[r]? =some (.map a c))(x:Int){i:Nat}{v:Value}(h:Instr.findNow (.int .i64) (yi x) a.toList 0=some (some (i,v))):
  (Instr.lookup t (.map (some r)) (yi x) false).run P W= .ok v W:=by
 have f:IsKey (.int .i64) (yi x):=rfl;simp[Instr.lookup,run_underlying g,MapKept.run_getObj_map d,run_checkKey b f,run_findKey b h,Result.andThen]
theorem Yc {P:Program}{t k e:TypeId}(g:P.underlying t=some (.map k e))(b:P.underlying k=some (.int .i64)){W:World}{r:Nat}{a:Array MapEntry}{c:Nat}(d:W.heap[r]? =some (.map a c))(x:Int){z:Value}(i:(zeroValue e).run P W= .ok z W)(h:Instr.findNow (.int .i64) (yi x) a.toList 0=some none):
  (Instr.lookup t (.map (some r)) (yi x) false).run P W= .ok z W:=by
 have f:IsKey (.int .i64) (yi x):=rfl;simp[Instr.lookup,run_underlying g,MapKept.run_getObj_map d,run_checkKey b f,run_findKey b h,i,Result.andThen]
def Yd:Array MapEntry:= #[⟨yi 1,.func (.func 170) #[] #[],0⟩,⟨yi 2,.func (.func 171) #[] #[],1⟩,⟨yi 3,.func (.func 172) #[] #[],2⟩,⟨yi 4,.func (.func 173) #[] #[],3⟩,⟨yi 5,.func (.func 174) #[] #[],4⟩]
theorem Ye (w:World):yC 147 #[] w fun z w'=>z= .returned (.map (some w.heap.size))∧w'.heap[w.heap.size]? =some (.map Yd 5)∧yB w w':=by
 have b:=underlying219;have a:=underlying3;have g:(w.alloc (.map #[] 0)).heap[w.heap.size]? =some (.map #[] 0):=heap_alloc_new _ _;have o:=af w (.map #[] 0);have u:=run_makeMap (P:=Tryz.prog) 219 w;obtain⟨q,v,h,c⟩:=sS b a g (Nat.le_refl _) o 1 (.func (.func 170) #[] #[]) rfl;obtain⟨r,x,i,d⟩:=sS b a h (Nat.le_refl _) c 2 (.func (.func 171) #[] #[]) rfl;obtain⟨s,y,j,e⟩:=sS b a i (Nat.le_refl _) d 3 (.func (.func 172) #[] #[]) rfl;obtain⟨t,A,k,f⟩:=sS b a j (Nat.le_refl _) e 4 (.func (.func 173) #[] #[]) rfl;obtain⟨n,B,l,p⟩:=sS b a k (Nat.le_refl _) f 5 (.func (.func 174) #[] #[]) rfl;have m:Hid (n.heap[w.heap.size]? =some (.map Yd 5)):=l;clear h i j k l c d e f b a g
 go_enter func147,ntmps147
 go_wp2
 go_ret
 exact⟨rfl,m.out,p⟩
def gY (way half:Int)(odd neg:Bool):Bool:=
 if way=1 then(decide (0<half)||(decide (half=0)&&odd)) else if way=2 then decide (0≤half) else if way=4 then !neg else if way=5 then neg else false
theorem Yf (a:Int)(b c:Bool)(w:World):yC 170 #[.agg #[yi a,.bool b,.bool c]] w (yR w (.bool (gY 1 a b c))):=by
 have d:=af w (.cells #[yi a,.bool b,.bool c] 241);have f:gY 1 a b c=(decide (0<a)||(decide (a=0)&&b)):=by simp[gY]
 rw[f]
 by_cases h:0<a
 ·go_enter func170,ntmps170
  go_wp2
  go_ret
  exact⟨by simp[h],d⟩
 ·have g:decide (0<a)=false:=by simp;omega
  by_cases e:a=0
  ·subst e
   clear f h g
   go_enter func170,ntmps170
   go_wp2
   go_ret
   exact⟨by simp,d⟩
  ·have i:(a==0)=false:=by simp;exact e
   rw[g,show decide (a=0)=false by simp;exact e]
   clear f
   go_enter func170,ntmps170
   go_wp2
   go_ret
   exact⟨by simp,d⟩
theorem Yg (a:Int)(c b:Bool)(w:World):yC 171 #[.agg #[yi a,.bool c,.bool b]] w (yR w (.bool (gY 2 a c b))):=by
 have e:=af w (.cells #[yi a,.bool c,.bool b] 241);have d:gY 2 a c b=decide (0≤a):=by simp[gY]
 rw[d];clear d
 go_enter func171,ntmps171
 go_wp2
 go_ret
 exact⟨rfl,e⟩
theorem Yh (a:Int)(c b:Bool)(w:World):yC 172 #[.agg #[yi a,.bool c,.bool b]] w (yR w (.bool (gY 3 a c b))):=by
 have d:gY 3 a c b=false:=by simp[gY]
 have e:=af w (.cells #[yi a,.bool c,.bool b] 241);rw[d];clear d
 go_enter func172,ntmps172
 go_wp2
 go_ret
 exact⟨rfl,e⟩
theorem Yi (b:Int)(c a:Bool)(w:World):yC 173 #[.agg #[yi b,.bool c,.bool a]] w (yR w (.bool (gY 4 b c a))):=by
 have e:=af w (.cells #[yi b,.bool c,.bool a] 241);have d:gY 4 b c a= !a:=by simp[gY]
 rw[d];clear d
 go_enter func173,ntmps173
 go_wp2
 go_ret
 exact⟨rfl,e⟩
theorem Yj (b:Int)(c a:Bool)(w:World):yC 174 #[.agg #[yi b,.bool c,.bool a]] w (yR w (.bool (gY 5 b c a))):=by
 have e:=af w (.cells #[yi b,.bool c,.bool a] 241);have d:gY 5 b c a=a:=by simp[gY]
 rw[d];clear d
 go_enter func174,ntmps174
 go_wp2
 go_ret
 exact⟨rfl,e⟩
def io (R D:Int)(d:Nat):Nat:=if d=2^ (ai R*D.toNat) then 2^ (ai R*(D-1).toNat) else d
def gD (R D:Int)(d:Nat)(p:Int):Int:=if d=2^ (ai R*D.toNat) then p+1 else p
theorem Br (R D L G:Int)(gr:Bool)(v:Value)(d:Nat)(p:Int)(base:Nat)(w:World)(E:Own w base 105 .u32 v (Dg.dg 4294967296 d))(a8:base≤w.heap.size)(h1:1≤D)(h2:D≤120)(p1: -1000000≤p)(p2:p≤1000000):
  yC 178 #[ygV R D L G gr,.agg #[v,yi p]] w fun z w'=> ∃u,z= .returned (.agg #[u,yi (gD R D d p)])∧Own w' base 105 .u32 u (Dg.dg 4294967296 (io R D d))∧yB w w':=by
 obtain⟨b,g,hv⟩:=E.rd.shape;subst hv;obtain⟨m,hm⟩: ∃m,(Dg.dg 4294967296 d).length=m:=⟨_,rfl⟩;have F:Hid (∀a,yC 193 #[ygV R D L G gr] a (Num a (2^ (ai R*D.toNat)))):=fun a=>MX R D L G gr a h1 h2
 have U:Hid (∀a,yC 194 #[ygV R D L G gr] a (Num a (2^ (ai R*(D-1).toNat)))):=fun a=>Ax R D L G gr a h1 h2
 obtain⟨X,r⟩: ∃X,2^ (ai R*D.toNat)=X:=⟨_,rfl⟩;obtain⟨Y,hY⟩: ∃Y,2^ (ai R*(D-1).toNat)=Y:=⟨_,rfl⟩;rw[r] at F;rw[hY] at U;have B:Hid (∀u a,Rd a .u32 (.slice b m g) (Dg.dg 4294967296 d)→Rd a .u32 u (Dg.dg 4294967296 X)→yC 47 #[.slice b m g,u] a (yR a (yi (dm d (X:Int))))):=fun u a r1 r2=>by
  have:=jF _ u _ _ a r1 r2 (Dg.small_dg _ _ (by omega)) (Dg.small_dg _ _ (by omega)) (Dg.norm_dg _ _ (by omega)) (Dg.norm_dg _ _ (by omega))
  rwa [Dg.vl_dg _ _ (by omega),Dg.vl_dg _ _ (by omega)] at this
 obtain⟨cd,O⟩: ∃x,io R D d=x:=⟨_,rfl⟩;obtain⟨cp,P⟩: ∃x,gD R D d p=x:=⟨_,rfl⟩;have Z:Hid (d=X→Y=cd∧p+1=cp):=fun h=>by
  rw[←O,←P,←hY];unfold io gD;rw[if_pos (h.trans r.symm),if_pos (h.trans r.symm)];exact⟨rfl,rfl⟩
 have W:Hid (¬d=X→d=cd∧p=cp):=fun h=>by
  rw[←O,←P];unfold io gD;rw[if_neg (fun e=>h (e.trans r)),if_neg (fun e=>h (e.trans r))]
  exact⟨rfl,rfl⟩
 rw[O,P];clear O P;rw[hm] at E⊢;obtain⟨ds,a3⟩: ∃ds,Dg.dg 4294967296 d=ds:=⟨_,rfl⟩;have a4:Hid (Dg.dg 4294967296 d=ds):=a3;rw[a3] at E B;clear r hY hm a3;obtain⟨cc,a2⟩: ∃c,dm d (X:Int)=c:=⟨_,rfl⟩;have N:cc=0↔d=X:=by
  rw[←a2];unfold dm
  split
  ·omega
  ·split<;>omega
 rw[a2] at B;clear a2;have b1:=aa (aa (af w (.cells (ygA R D L G gr) 193)) (af _ (.cells #[.slice b m g,yi p] 196))) (af _ (.cells #[yN,yi 0] 196));have q:=((ah w (ygL R D L G gr) 193).l (af _ (.cells #[.slice b m g,yi p] 196))).l (af _ (.cells #[yN,yi 0] 196));have o:=(ah (w.alloc (.cells (ygA R D L G gr) 193)) [.slice b m g,yi p] 196).l (af _ (.cells #[yN,yi 0] 196));have y:=ah ((w.alloc (.cells (ygA R D L G gr) 193)).alloc (.cells #[.slice b m g,yi p] 196)) [yN,yi 0] 196;simp only[World.size_alloc] at o y;have I:=aa b1 ((Below.refl _ _).drew);replace q:=q.drew;replace o:=o.drew;replace y:=y.drew;have o1:=E.l I;clear b1 E;obtain⟨c0,c1,c2,c3,c4⟩:=q.cs5;have d0:=o.c 0 rfl;have ne1:w.heap.size+1+1≠w.heap.size:=by omega
 have ab:w.heap.size+1+1≠w.heap.size+1:=by omega
 have a:IntKind.i64.wrap (p+1)=p+1:=IntWalk.i64_in _ ⟨by omega,by omega⟩
 go_enter func178,ntmps178
 go_wp2_with fail
 go_region_held3 (fun i=>i.cell? ⟨w.heap.size+1,0,none⟩=some (.slice b m g)∧(i.cell? ⟨w.heap.size,0,none⟩=some (yi R)∧i.cell? ⟨w.heap.size,1,none⟩=some (yi D)∧i.cell? ⟨w.heap.size,2,none⟩=some (yi L)∧i.cell? ⟨w.heap.size,3,none⟩=some (yi G)∧i.cell? ⟨w.heap.size,4,none⟩=some (.bool gr))) (go_keep) (first
  | (go_at_call 193;refine(F.out _).mono ?_;rintro z w3 ⟨v3,rfl,o3,k⟩;have a0:=aa I k;have J:=q.l k;have S:=o.l k;have z3:=y.l k;have Q:=o1.l k;obtain⟨k0,k1,k2,k3,k4⟩:=J.cs5;have k5:=S.c 0 rfl)
  | (go_at_call 47;refine(B.out _ w3 (a4.out▸Q.rd) o3.rd).mono ?_;rintro z w4 ⟨rfl,n⟩;have a1:=aa a0 n;have K:=J.l n;have T:=S.l n;have j:=z3.l n;have a6:=Q.l n;obtain⟨j0,j1,j2,j3,j4⟩:=K.cs5;have j5:=T.c 0 rfl))
 by_cases M:cc=0
 ·obtain⟨h3,h4⟩:=Z.out (N.1 M)
  subst h3;subst h4;subst M;clear N Z W k0 k1 k2 k3 k4 k5 c0 c1 c2 c3 c4 d0 o3 q J o S y z3 o1 Q I a0 k n F B;have C:yB w4 w4.drew:=(Below.refl _ _).drew;have a5:=aa a1 C;have g5:=K.l C;have s5:=T.l C;have z5:=j.l C;clear a1 K T j a6 C j0 j1 j2 j3 j4 j5;obtain⟨j0,j1,j2,j3,j4⟩:=g5.cs5;have j5:=s5.c 1 rfl
  go_goals
  go_wp2_with fail
  go_region_held3 (fun i=>i.cell? ⟨w.heap.size+1,1,none⟩=some (yi p)∧(i.cell? ⟨w.heap.size,0,none⟩=some (yi R)∧i.cell? ⟨w.heap.size,1,none⟩=some (yi D)∧i.cell? ⟨w.heap.size,2,none⟩=some (yi L)∧i.cell? ⟨w.heap.size,3,none⟩=some (yi G)∧i.cell? ⟨w.heap.size,4,none⟩=some (.bool gr))) (go_keep) (first
   | (go_at_call 194;refine(U.out _).mono ?_;rintro z w6 ⟨v6,rfl,o6,H⟩;have a7:=aa a5 H;have g6:=g5.l H;have s6:=s5.l H;have A:=z5.l H;obtain⟨k0,k1,k2,k3,k4⟩:=g6.cs5;have k5:=s6.c 1 rfl;obtain⟨y0,y1⟩:=A.cs2;have f0:=A.f 0;have f1:=A.f 1;obtain⟨t,s,hs⟩:=o6.rd.shape;subst hs))
  all_goals go_wp2
  have z7:au _ _ _ [yT t Y s,yi (p+1)]:=(A.set 0 (yT t Y s)).set 1 (yi (p+1));have o7:=(o6.setE A (by decide) 0 (yT t Y s)).setE (A.set 0 (yT t Y s)) (by decide) 1 (yi (p+1));have b7:=(a7.setCell (p:=⟨w.heap.size+1+1,0,none⟩) (by show w.heap.size≤w.heap.size+1+1;omega) (yT t Y s)).setCell (p:=⟨w.heap.size+1+1,1,none⟩) (by show w.heap.size≤w.heap.size+1+1;omega) (yi (p+1))
  obtain⟨x0,x1⟩:=z7.cs2;refine bodyPost_ret (v:= .agg #[yT t Y s,yi (p+1)]) (by simp[results,results178,go_sem,x0,x1]) rfl ?_;exact⟨_,rfl,o7.lower (Nat.le_trans a8 a5.size),b7⟩
 ·obtain⟨h3,h4⟩:=W.out (fun h=>M (N.2 h))
  subst h3;subst h4;have a9:(cc==0)=false:=by simp;exact M
  clear N Z W k0 k1 k2 k3 k4 k5 c0 c1 c2 c3 c4 d0 o3 q J o S y z3 o1 Q I a0 k n F B U j0 j1 j2 j3 j4 K;have j6:=T.c 1 rfl;obtain⟨y0,y1⟩:=j.cs2;have f0:=j.f 0;have f1:=j.f 1
  go_goals
  go_wp2
  have z7:au _ _ _ [.slice b m g,yi p]:=(j.set 0 (.slice b m g)).set 1 (yi p);have o7:=(a6.setE j (by decide) 0 (.slice b m g)).setE (j.set 0 (.slice b m g)) (by decide) 1 (yi p);have b7:=(a1.setCell (p:=⟨w.heap.size+1+1,0,none⟩) (by show w.heap.size≤w.heap.size+1+1;omega) (.slice b m g)).setCell (p:=⟨w.heap.size+1+1,1,none⟩) (by show w.heap.size≤w.heap.size+1+1;omega) (yi p)
  obtain⟨x0,x1⟩:=z7.cs2;refine bodyPost_ret (v:= .agg #[.slice b m g,yi p]) (by simp[results,results178,go_sem,x0,x1]) rfl ?_;exact⟨_,rfl,a4.out▸o7,b7⟩
theorem Iq (d:Value)(n k L:Nat)(w:World)(o:Rd w .u32 d (Dg.dg 4294967296 n))(F:n<4294967296^L)(a0:L*k≤400000)(a1:L≤400000)(hk:k≤1000000):
  yC 45 #[d,yi k] w (Num w (n^k)):=by
 have M:Hid (Rd w .u32 d (Dg.dg 4294967296 n)):=o;have W:(Dg.dg 4294967296 n).length≤L:=Dg.dg_len_le 4294967296 n L (by omega) F;have f: ∀j,j≤k→(Dg.dg 4294967296 (n^j)).length≤400001:=fun j a=>by
  have hp:=aaT (j:=j) F;have a2:L*j≤L*k:=Nat.mul_le_mul (Nat.le_refl _) a;omega
 have A:Hid (∀j v wr,j≤k→yB w wr→Rd wr .u32 v (Dg.dg 4294967296 (n^j))→yC 78 #[v,d] wr (Num wr (n^ (j+1)))):=fun j v wr a b r=>by
  have:=qC v d _ _ wr r (o.l b) (Dg.small_dg _ _ (by omega)) (Dg.small_dg _ _ (by omega)) (by have:=f j a;omega) (by omega);rw[Dg.vl_dg _ _ (by omega),Dg.vl_dg _ _ (by omega),←Nat.pow_succ] at this;exact this
 have N:Hid (∀j v wr,j≤k→Rd wr .u32 v (Dg.dg 4294967296 (n^j))→yC 78 #[v,v] wr (Num wr (n^ (j+j)))):=fun j v wr a r=>by
  have:=qC v v _ _ wr r r (Dg.small_dg _ _ (by omega)) (Dg.small_dg _ _ (by omega)) (by have:=f j a;omega) (by have:=f j a;omega);rw[Dg.vl_dg _ _ (by omega),←Nat.pow_add] at this;exact this
 have y:Hid (∀wr,yC 87 #[.int .u64 k] wr fun e w'=>e= .returned (yi (bitLen k:Nat))∧w'=wr):=fun wr=>LZ k wr (by omega)
 have S:bitLen k≤20:=bF k 20 (by omega);have J:k/2^bitLen k=0:=Nat.div_eq_of_lt (bitLen_spec k).1;have K:=zf w w.heap.size 105 1 (Nat.le_refl _);have C:yB w (w.alloc (.cells #[.int .u32 ((1:Nat):Int)] 105)):=(Below.refl _ _).alloc (Nat.le_refl _) _;obtain⟨ao,ca,rfl⟩:=o.shape;obtain⟨ma,I⟩: ∃m,(Dg.dg 4294967296 n).length=m:=⟨_,rfl⟩;rw[I] at A M⊢;clear o I W f;obtain⟨h,G⟩: ∃b,bitLen k=b:=⟨_,rfl⟩;rw[G] at y S J;clear G
 go_enter func45,ntmps45
 go_wp2_with fail
 refine(y.out _).mono ?_;rintro e w' ⟨rfl,rfl⟩
 go_wp2
 have B:aex w n k h (.slice (some ⟨w.heap.size,0,none⟩) 1 1) (yi ((h:Int)-1)) (w.alloc (.cells #[.int .u32 ((1:Nat):Int)] 105)):=⟨h,Nat.le_refl _,rfl,by rw[J];exact K,C⟩
 go_loopw [5,6] (aex w n k h) (fun _ Y _=>(intOf Y+1).toNat)
 case atStart=>exact B
 case round=>
  clear B K C;obtain⟨j,a,rfl,own,q⟩:=hrel
  rcases Nat.eq_zero_or_pos j with E|E
  ·subst E
   go_wp2
   go_ret
   refine⟨_,rfl, ?_,q⟩;rw[show k/2^0=k by simp] at own
   exact own
  ·obtain⟨i,rfl⟩: ∃i,j=i+1:=⟨j-1,by omega⟩
   have U:k/2^ (i+1)≤k:=Nat.div_le_self _ _;have H:=aaU k i;have Q:((i+1:Nat):Int)-1=(i:Int):=by omega
   rw[Q]
   go_wp2_with fail
   refine(N.out _ _ _ U own.rd).mono ?_;rintro z w2 ⟨Z,rfl,c,D⟩;have g:=aa q D;have c:=c.lower q.size;clear own D;have p:((k:Int)/2^i).tmod 2=((k/2^i % 2:Nat):Int):=by
    have R:(k:Int)/2^i=((k/2^i:Nat):Int):=by rw[Int.natCast_ediv,Int.natCast_pow];rfl
    rw[R,Int.ofNat_tmod];rfl
   by_cases s:k/2^i % 2=1
   ·have T:(((k:Int)/2^i).tmod 2==1)=true:=by rw[p,s];rfl
    have X:k/2^ (i+1)+k/2^ (i+1)≤k:=by have:=Nat.div_le_self k (2^i);omega
    have t:k/2^ (i+1)+k/2^ (i+1)+1=k/2^i:=by omega
    have x:Hid _:=A.out _ Z w2 X g c.rd;rw[t] at x;clear p H s
    go_wp2_with fail
    refine Calls.mono x.out ?_;rintro z w3 ⟨v3,rfl,u,P⟩;have u:=u.lower g.size;have O:=aa g P
    go_wp2
    go_roundw
    case rel=>exact⟨i,by omega,rfl,u,O⟩
    case measure=>simp[intOf]
   ·have T:(((k:Int)/2^i).tmod 2==1)=false:=by
     rw[p];have:k/2^i % 2=0:=by omega
     rw[this];rfl
    have t:k/2^ (i+1)+k/2^ (i+1)=k/2^i:=by omega
    rw[t] at c;clear p H s
    go_wp2
    go_roundw
    case rel=>exact⟨i,by omega,rfl,c,g⟩
    case measure=>simp[intOf]
def aZ (k:Nat)(s:ByteArray):Bool:=decide (eH (wG k s) 0 1=1)
def aR (k:Nat)(s:ByteArray):Nat:=eH (wG k s) 1 (exN k)
def aU (k:Nat)(s:ByteArray):Nat:=eH (wG k s) (1+exN k) (frN k)
theorem special_nan_mg:
  (∀(R D L G:Int) (gr:Bool) (sz e:Nat) (F:Nat) (w:World) (on wr j:Nat) (_:wr<18446744073709551616) (_:j<18446744073709551616)
  (_:yJ 125 #[ylV R D L G gr sz e 1 F] (yi on))
  (_:yJ 126 #[ylV R D L G gr sz e 1 F] (.int .u64 wr))
  (_:yJ 127 #[ylV R D L G gr sz e 1 F] (.int .u64 j)),
  yC 74 #[ylV R D L G gr sz e 1 F,yi 4] w (yR w (.tuple #[yfV false on ((wr|||j/2:Nat):Int),.bool true])))∧
  (∀(R D L G:Int) (gr:Bool) (sz e:Nat) (F:Nat) (w:World) (on wr:Nat)
  (_:yJ 125 #[ylV R D L G gr sz e 1 F] (yi on))
  (_:yJ 126 #[ylV R D L G gr sz e 1 F] (.int .u64 wr)),
  yC 74 #[ylV R D L G gr sz e 1 F,yi 3] w (yR w (.tuple #[yfV false on wr,.bool true]))):=by
 refine⟨?_, ?_⟩;have _z:Mgk 0:=mgkI 0
 all_goals
  first| (rename Mgk 0=>_z;intro R D L G gr sz e F w on wr j a5 a8 K M Y)| (intro R D L G gr sz e F w on wr K M)
  have a9:=cD;have T:=af (w.alloc (.cells (ylA R D L G gr sz e 1 F) 93)) (.cells (yfA false 0 0) 134);have Q:=(ah w (ylL R D L G gr sz e 1 F) 93).l T;have k:=ah (w.alloc (.cells (ylA R D L G gr sz e 1 F) 93)) (yfL false 0 0) 134;have S:=aa (af w (.cells (ylA R D L G gr sz e 1 F) 93)) T;rw[World.size_alloc] at k;clear T;obtain⟨v,y,A,B,C,E,H,I,J⟩:=Q.cs9;obtain⟨s,t,u⟩:=k.cs3;have p:=k.f 0;have q:=k.f 1;have r:=k.f 2;have Z:Hid _:=K;have a0:Hid _:=M
  first| (rename Mgk 0=>_z;have a3:Hid _:=Y;have a4:bits .or .u64 wr ((j/2:Nat):Int)=((wr|||j/2:Nat):Int):=u64_or_nat wr (j/2) a5 (by omega);(have a7:(j:Int)/2=((j/2:Nat):Int):=by omega);obtain⟨n,a1⟩: ∃x,wr|||j/2=x:=⟨_,rfl⟩;rw[a1] at a4⊢;generalize j/2=lh at*;clear a1)|skip
  have c:XU w (ylL R D L G gr sz e 1 F) _:=⟨Q.drew,k.drew,S.drew⟩
  first| (rename Mgk 0=>_z;clear Q k S K M Y)| (clear Q k S K M)
  go_enter func74,ntmps74
  go_wp2_with fail
  first
  |
   rename Mgk 0=>_z
   go_region_held3 (fun d=>d.cell? ⟨w.heap.size,0,none⟩=some (yi R)∧d.cell? ⟨w.heap.size,1,none⟩=some (yi D)∧d.cell? ⟨w.heap.size,2,none⟩=some (yi L)∧d.cell? ⟨w.heap.size,3,none⟩=some (yi G)∧d.cell? ⟨w.heap.size,4,none⟩=some (.bool gr)∧d.cell? ⟨w.heap.size,5,none⟩=some (yi sz)∧d.cell? ⟨w.heap.size,6,none⟩=some (yi e)∧d.cell? ⟨w.heap.size,7,none⟩=some (yi 1)∧d.cell? ⟨w.heap.size,8,none⟩=some (.func (.func F) #[] #[])) (go_keep) (first
    | (go_at_call 125;refine(Z.out _).mono ?_;rintro z a6 ⟨rfl,h⟩;have g:=c.l h;clear c;have c:=g;clear g h;obtain⟨i,a,-⟩:=id c;obtain⟨v,y,A,B,C,E,H,I,J⟩:=i.cs9;obtain⟨s,t,u⟩:=a.cs3;have p:=a.f 0;have q:=a.f 1;have r:=a.f 2;clear i a)
    | (go_at_call 126;refine(a0.out _).mono ?_;rintro z X ⟨rfl,h⟩;have g:=c.l h;clear c;have c:=g;clear g h;obtain⟨i,a,-⟩:=id c;obtain⟨v,y,A,B,C,E,H,I,J⟩:=i.cs9;obtain⟨s,t,u⟩:=a.cs3;have p:=a.f 0;have q:=a.f 1;have r:=a.f 2;clear i a)
    | (go_at_call 127;refine(a3.out _).mono ?_;rintro z a2 ⟨rfl,h⟩;have g:=c.l h;clear c;have c:=g;clear g h;obtain⟨i,a,-⟩:=id c;obtain⟨v,y,A,B,C,E,H,I,J⟩:=i.cs9;obtain⟨s,t,u⟩:=a.cs3;have p:=a.f 0;have q:=a.f 1;have r:=a.f 2;clear i a))
  |
   go_region_held3 (fun d=>d.cell? ⟨w.heap.size,0,none⟩=some (yi R)∧d.cell? ⟨w.heap.size,1,none⟩=some (yi D)∧d.cell? ⟨w.heap.size,2,none⟩=some (yi L)∧d.cell? ⟨w.heap.size,3,none⟩=some (yi G)∧d.cell? ⟨w.heap.size,4,none⟩=some (.bool gr)∧d.cell? ⟨w.heap.size,5,none⟩=some (yi sz)∧d.cell? ⟨w.heap.size,6,none⟩=some (yi e)∧d.cell? ⟨w.heap.size,7,none⟩=some (yi 1)∧d.cell? ⟨w.heap.size,8,none⟩=some (.func (.func F) #[] #[])) (go_keep) (first
    | (go_at_call 125;refine(Z.out _).mono ?_;rintro z a6 ⟨rfl,h⟩;have g:=c.l h;clear c;have c:=g;clear g h;obtain⟨i,a,-⟩:=id c;obtain⟨v,y,A,B,C,E,H,I,J⟩:=i.cs9;obtain⟨s,t,u⟩:=a.cs3;have p:=a.f 0;have q:=a.f 1;have r:=a.f 2;clear i a)
    | (go_at_call 126;refine(a0.out _).mono ?_;rintro z X ⟨rfl,h⟩;have g:=c.l h;clear c;have c:=g;clear g h;obtain⟨i,a,-⟩:=id c;obtain⟨v,y,A,B,C,E,H,I,J⟩:=i.cs9;obtain⟨s,t,u⟩:=a.cs3;have p:=a.f 0;have q:=a.f 1;have r:=a.f 2;clear i a))
  have W:=c.m;have bz:=c.b
  first| (rename Mgk 0=>_z;have U:=((ag a2 (w.heap.size+1) 0 (.bool false)).trans (ag _ (w.heap.size+1) 1 (yi on))).trans (ag _ (w.heap.size+1) 2 (.int .u64 (n:Int))))| (have U:=((ag X (w.heap.size+1) 0 (.bool false)).trans (ag _ (w.heap.size+1) 1 (yi on))).trans (ag _ (w.heap.size+1) 2 (.int .u64 wr)))
  first| (rename Mgk 0=>_z;have O:au (((a2.setCell ⟨w.heap.size+1,0,none⟩ (.bool false)).setCell ⟨w.heap.size+1,1,none⟩ (yi on)).setCell ⟨w.heap.size+1,2,none⟩ (.int .u64 (n:Int))) (w.heap.size+1) 134 (yfL false on (n:Int)):=(((W.set 0 (.bool false)).set 1 (yi on)).set 2 (.int .u64 (n:Int))))| (have O:au (((X.setCell ⟨w.heap.size+1,0,none⟩ (.bool false)).setCell ⟨w.heap.size+1,1,none⟩ (yi on)).setCell ⟨w.heap.size+1,2,none⟩ (.int .u64 wr)) (w.heap.size+1) 134 (yfL false on wr):=(((W.set 0 (.bool false)).set 1 (yi on)).set 2 (.int .u64 wr)))
  have N:=U.below bz (by omega)
  first| (rename Mgk 0=>_z;have o:=run_loadVar_mid (P:=Tryz.prog) _ (w.heap.size+1) 0 134 (yfL false on (n:Int)) _ O.range underlying134 rfl (by kernel_rfl))| (have o:=run_loadVar_mid (P:=Tryz.prog) _ (w.heap.size+1) 0 134 (yfL false on wr) _ O.range underlying134 rfl (by kernel_rfl))
  have HH:Hid (_∧_):=⟨o,N⟩;clear o N O U;clear W bz c
  go_wp2
  obtain⟨o,N⟩:=HH.out;exact bodyPost_ret (aj results74 rfl rfl o) rfl ⟨rfl,N⟩
theorem KE (D L G d:Int)(gr:Bool)(sz b:Nat)(F:Nat)(s k m n:Bool)(g:Option Addr)(i h:Nat)(j:Int)(e f:Nat)(w:World)(hE:IntKind.i64.wrap (j-L)=(e:Int))(_he:e<65536)
  (H: ∀E,yB w E→yC 159 #[.slice g i h] E fun z w'=>z= .returned (.int .u64 f)∧E=w'):
  yC 124 #[ylV 16 D L G gr sz b d F,ypV s (.slice g i h) j k m n] w (yR w (yfV s e f)):=by
 have be:=cD;have I:Hid _:=H;clear H;have N:=af (w.alloc (.cells (ylA 16 D L G gr sz b d F) 93)) (.cells (ypA s (.slice g i h) j k m n) 141);have A:=af ((w.alloc (.cells (ylA 16 D L G gr sz b d F) 93)).alloc (.cells (ypA s (.slice g i h) j k m n) 141)) (.cells (yfA false 0 0) 134);have x:=((ah w (ylL 16 D L G gr sz b d F) 93).l N).l A;have y:=(ah (w.alloc (.cells (ylA 16 D L G gr sz b d F) 93)) (ypL s (.slice g i h) j k m n) 141).l A;have C:=ah ((w.alloc (.cells (ylA 16 D L G gr sz b d F) 93)).alloc (.cells (ypA s (.slice g i h) j k m n) 141)) (yfL false 0 0) 134;have p:=aa (aa (af w (.cells (ylA 16 D L G gr sz b d F) 93)) N) A;rw[World.size_alloc] at y;rw[World.size_alloc,World.size_alloc] at C;have r:=af (((w.alloc (.cells (ylA 16 D L G gr sz b d F) 93)).alloc (.cells (ypA s (.slice g i h) j k m n) 141)).alloc (.cells (yfA false 0 0) 134)) (.cells (yfA false 0 0) 134);have K:=p.drew;have J:=(aa p r).drew;have R:=(x.l r).drew;have U:=(y.l r).drew;have S:=x.drew;have W:=y.drew;obtain⟨ad,ae,al,an,ap,aq,ar,av,aw⟩:=S.cs9;obtain⟨a0,a1,a2,a3,a4,a5⟩:=W.cs6;obtain⟨ax,ay,az,b1,b2,b3,b6,b7,b8⟩:=R.cs9;obtain⟨a6,a7,a8,a9,ab,ac⟩:=U.cs6;have bb:w.heap.size+1+1+1≠w.heap.size:=by omega
 have bc:w.heap.size+1+1+1≠w.heap.size+1:=by omega
 go_enter func124,ntmps124
 go_wp2_with fail
 go_region_held3 (fun a=>(a.cell? ⟨w.heap.size,0,none⟩=some (yi 16)∧a.cell? ⟨w.heap.size,1,none⟩=some (yi D)∧a.cell? ⟨w.heap.size,2,none⟩=some (yi L)∧a.cell? ⟨w.heap.size,3,none⟩=some (yi G)∧a.cell? ⟨w.heap.size,4,none⟩=some (.bool gr)∧a.cell? ⟨w.heap.size,5,none⟩=some (yi sz)∧a.cell? ⟨w.heap.size,6,none⟩=some (yi b)∧a.cell? ⟨w.heap.size,7,none⟩=some (yi d)∧a.cell? ⟨w.heap.size,8,none⟩=some (.func (.func F) #[] #[]))∧(a.cell? ⟨w.heap.size+1,0,none⟩=some (.bool s)∧a.cell? ⟨w.heap.size+1,1,none⟩=some (.slice g i h)∧a.cell? ⟨w.heap.size+1,2,none⟩=some (yi j)∧a.cell? ⟨w.heap.size+1,3,none⟩=some (.bool k)∧a.cell? ⟨w.heap.size+1,4,none⟩=some (.bool m)∧a.cell? ⟨w.heap.size+1,5,none⟩=some (.bool n))) (go_keep) (first
  | (go_at_call 159;(first| (with_reducible (refine(I.out _ K).mono ?_))| (with_reducible (refine(I.out _ J).mono ?_)));rintro z wv ⟨rfl,rfl⟩))
 all_goals (
  have t:=af (((w.alloc (.cells (ylA 16 D L G gr sz b d F) 93)).alloc (.cells (ypA s (.slice g i h) j k m n) 141)).alloc (.cells (yfA false 0 0) 134)) (.cells (yfA s e f) 134);have T:=(x.l t).drew;have X:=(C.l t).drew;have B:=(ah (((w.alloc (.cells (ylA 16 D L G gr sz b d F) 93)).alloc (.cells (ypA s (.slice g i h) j k m n) 141)).alloc (.cells (yfA false 0 0) 134)) (yfL s e f) 134).drew;rw[World.size_alloc,World.size_alloc,World.size_alloc] at B;have M:=(aa p t).drew;clear t r K J R U S W x y C p ad ax ae ay al az an b1 ap b2 aq b3 ar b6 av b7 aw b8 a0 a6 a1 a7 a2 a8 a3 a9 a4 ab a5 ac;generalize((((w.alloc (.cells (ylA 16 D L G gr sz b d F) 93)).alloc (.cells (ypA s (.slice g i h) j k m n) 141)).alloc (.cells (yfA false 0 0) 134)).alloc (.cells (yfA s e f) 134)).drew=w4 at*;have c0:=T.c 0 rfl
  go_wp2_with fail
  go_quiet (fail)
  have u:yB w4 (w4.drewN nq):=aL (Below.refl _ _) _;have o:=X.l u;have b9:=B.l u;have b5:=aa M u;clear c0 T X B M u;generalize w4.drewN nq=Y at*;have O:=((ag Y (w.heap.size+1+1) 0 (.bool s)).trans (ag _ (w.heap.size+1+1) 1 (yi e))).trans (ag _ (w.heap.size+1+1) 2 (.int .u64 f));have Q:au (((Y.setCell ⟨w.heap.size+1+1,0,none⟩ (.bool s)).setCell ⟨w.heap.size+1+1,1,none⟩ (yi e)).setCell ⟨w.heap.size+1+1,2,none⟩ (.int .u64 f)) (w.heap.size+1+1) 134 (yfL s e f):=(((o.set 0 (.bool s)).set 1 (yi e)).set 2 (.int .u64 f));have q:=O.below b5 (by omega);have v:=run_loadVar_mid (P:=Tryz.prog) _ (w.heap.size+1+1) 0 134 (yfL s e f) _ Q.range underlying134 rfl (by kernel_rfl);have Z:Hid (_∧_):=⟨v,q⟩;obtain⟨bm,bn,bo⟩:=o.cs3;have bf:=o.f 0;have bg:=o.f 1;have bh:=o.f 2;obtain⟨bi,bj,bl⟩:=b9.cs3;clear v q Q O
  go_wp2
  obtain⟨v,q⟩:=Z.out;exact bodyPost_ret (br results124 rfl v) rfl ⟨rfl,q⟩
 )
def bM (n:Int)(s:ByteArray):Nat:=if dF n s=0 then dh n.toNat (aZ n.toNat s) (aR n.toNat s) (aU n.toNat s) else 0
def dz (n:Int)(s:ByteArray):Bool:=if dF n s=0 then kt n.toNat (aZ n.toNat s) (aR n.toNat s) (aU n.toNat s) else false
def nxT (k:Nat)(s:ByteArray):ak:=ji k (aZ k s) (aR k s) (aU k s)
def opT (n:Int)(p:ByteArray):ak:=if dF n p=0 then nxT n.toNat p else⟨false,0,0⟩
def opC (n : Int) (p : ByteArray) (v : Value) : List Value := [.int .i64 ((bM n p : Nat) : Int), .bool (dz n p), .bool (opT n p).s, v, .int .i64 (opT n p).e]
def F7 (w:World)(n:Int)(g:Option Nat)(p:ByteArray)(v:Value):Prop:=
 (∃so sc,v= .slice so (Dg.dg 4294967296 (opT n p).n).length sc)∧Rd w .u32 v (Dg.dg 4294967296 (opT n p).n)∧ ∀b,g=some b→wF b v (Dg.dg 4294967296 (opT n p).n)
def sV (w:World)(n:Int)(g:Option Nat):List ByteArray→List Value→Prop
 | [],cs=>cs=[]
 |p::ps,cs=> ∃v rest,cs=opC n p v++rest∧F7 w n g p v∧sV w n g ps rest
theorem sV.mono {w w':World}{n:Int}{g a:Option Nat}(h: ∀p v,F7 w n g p v→F7 w' n a p v): ∀{ps:List ByteArray} {cs:List Value},sV w n g ps cs→sV w' n a ps cs
 | [],_,hc=>hc
 |p::_,_,hc=>by
  obtain⟨v,e,b,c,d⟩:=hc;exact⟨v,e,b,h p v c,sV.mono h d⟩
structure sF (w:World) (n:Int) (ps:List ByteArray) (g cap:Nat):Prop where
 fit:ps.length≤cap
 most:cap≤maxLen
 each: ∀(i:Nat) p,ps[i]? =some p→ ∃so sc,w.rangeAt g (i*5) (opC n p (.slice so (Dg.dg 4294967296 (opT n p).n).length sc))∧Rd w .u32 (.slice so (Dg.dg 4294967296 (opT n p).n).length sc) (Dg.dg 4294967296 (opT n p).n)
def rfG (n:Int)(p:ByteArray):Bool:=zR n.toNat (aZ n.toNat p) (aR n.toNat p) (aU n.toNat p)
def rfT (n:Int)(p:ByteArray):ak:=ji n.toNat (aZ n.toNat p) (aR n.toNat p) (aU n.toNat p)
def rfC (n : Int) (p : ByteArray) (v : Value) : List Value := [.int .i64 ((bM n p : Nat) : Int), .bool (rfG n p), .bool (rfT n p).s, v, .int .i64 (rfT n p).e]
def Gw (w:World)(n:Int)(g:Option Nat)(p:ByteArray)(v:Value):Prop:=
 (∃so sc,v= .slice so (Dg.dg 65536 (rfT n p).n).length sc)∧Rd w .i64 v (Dg.dg 65536 (rfT n p).n)∧ ∀b,g=some b→wF b v (Dg.dg 65536 (rfT n p).n)
def tg (w:World)(n:Int)(g:Option Nat):List ByteArray→List Value→Prop
 | [],cs=>cs=[]
 |p::ps,cs=> ∃v rest,cs=rfC n p v++rest∧Gw w n g p v∧tg w n g ps rest
theorem tg.mono {w w':World}{n:Int}{g a:Option Nat}(h: ∀p v,Gw w n g p v→Gw w' n a p v): ∀{ps:List ByteArray} {cs:List Value},tg w n g ps cs→tg w' n a ps cs
 | [],_,hc=>hc
 |p::_,_,hc=>by
  obtain⟨v,e,b,c,d⟩:=hc;exact⟨v,e,b,h p v c,tg.mono h d⟩
theorem dc_less {x:ak}(h:x.n<2^64)(a: -16500≤x.e)(b:x.e≤16500)(c:x.n≠0)(p:Int):dqN x*10^ (-p).toNat<dqD x*10^p.toNat↔dcP x<p:=by
 have j:=dc_many h a b c;have i:0<10^60:=Nat.pow_pos (by omega);have d:10^ (dcC x-1)≤dcW x:=decS_low (by omega);have f:dcW x<10^dcC x:=decS_big;have g:1≤dcC x:=decS_one _;have:=dg_less (p:=p) (n:=60-dcG x) (C:=dcC x) (show 0<scB x.e (60-dcG x) from Nat.mul_pos (Nat.pow_pos (by omega)) (Nat.pow_pos (by omega))) (dg_cross x.n x.e (60-dcG x)) f d g (show 0<2^ (-x.e).toNat from Nat.pow_pos (by omega))
 unfold dqN dqD;rw[this];unfold dcP;omega
theorem dcP_in {x:ak}(h:x.n<2^64)(b: -16500≤x.e)(f:x.e≤16500)(g:x.n≠0): -5200≤dcP x∧dcP x≤5200:=by
 obtain⟨a,k⟩: ∃a,a=64:=⟨_,rfl⟩;obtain⟨c,o⟩: ∃c,c=16564:=⟨_,rfl⟩;obtain⟨p,t,r⟩:=dqN_in k o (by rw[k];exact h) b f;have i:=dc_less h b f g 5200;have j:=dc_less h b f g (-5200);obtain⟨q,s⟩: ∃q,q=1300:=⟨_,rfl⟩;have l:2^c≤10^ (4*q):=pow2_ten (by omega);rw[show(-(5200:Int)).toNat=0 by decide,show(5200:Int).toNat=4*q by omega,Nat.pow_zero,Nat.mul_one] at i
 rw[show(-(-5200:Int)).toNat=4*q by omega,show(-5200:Int).toNat=0 by decide,Nat.pow_zero,Nat.mul_one] at j
 constructor
 ·rcases Int.lt_or_le (dcP x) (-5200) with d|d
  ·have:=j.2 d
   have m:1≤dqN x:=Nat.mul_pos (Nat.pos_of_ne_zero g) (Nat.pow_pos (by omega));have:=Nat.mul_le_mul m l;omega
  ·exact d
 ·have:dqN x<dqD x*10^ (4*q):=Nat.lt_of_lt_of_le p (Nat.le_trans l (Nat.le_mul_of_pos_left _ r))
  have:=i.1 this;omega
end Go.Proofs.YtlhkndcmbpcpgaaGreatDoor
