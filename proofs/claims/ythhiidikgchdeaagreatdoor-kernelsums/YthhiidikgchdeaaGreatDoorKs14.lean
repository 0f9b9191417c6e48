/- Texts laid together. -/
import Derived.Test.YthhiidikgchdeaaGreatDoorKs05
import Derived.Test.YthhiidikgchdeaaGreatDoorKs06
import Derived.Test.YthhiidikgchdeaaGreatDoorKs07
import Derived.Test.YthhiidikgchdeaaGreatDoorKs08
import Derived.Test.YthhiidikgchdeaaGreatDoorKs09
import Derived.Test.YthhiidikgchdeaaGreatDoorKs10
set_option maxRecDepth 100000
set_option maxHeartbeats 3200000
namespace Go.Proofs.YthhiidikgchdeaaGreatDoor
open _root_.Go.Proofs.Tryz
open Go.RowKit
theorem Bz (v:Value)(zs:List Nat)(w:World)(h:Rd w .u32 v zs)(x:zs.length≤1000000000):
  yC 167 #[v] w fun e w'=>e= .returned (.slice (some ⟨w.heap.size,0,none⟩) zs.length zs.length)∧Own w' w.heap.size 54 .u32 (.slice (some ⟨w.heap.size,0,none⟩) zs.length zs.length) zs∧yB w w':=by
 obtain⟨q,c,o,g,p⟩:=info_parts Tryz.infoU32;have f:(Tryz.prog.info? 54).map (·.size)=some 1:=by rw[c];simp[g]
 obtain⟨t,u,rfl⟩:=h.shape
 go_enter func167,ntmps167
 go_wp2_with (at_make;refine wpList_make_full _ rfl _ _ 78 rfl w.heap.size 54 q (.int .u32 0) 1 underlying78 c o g _ _ _ _ zs.length rfl rfl (by omega) (by omega) ?b2 ?b3 (Nat.le_refl _) ?_)
 case b2=>rw[p];omega
 case b3=>unfold maxLen;omega
 intro s d b;have r:=gL d;have a:yB w s:=(Below.refl _ _).grown b (Nat.le_refl _) (fun k h=>by cases h)
 obtain⟨z,y,i,m⟩:=Nw 78 78 3 underlying78 f r (h.l a) (by simp);have j:=a.grown m a.size (fun k n=>by cases n;exact Nat.le_refl _)
 clear d b f
 go_wp2
 go_ret
 refine⟨rfl, ?_,j⟩;have e:zs++(List.replicate zs.length 0).drop zs.length=zs:=by simp
 rw[e] at i;exact i
theorem aF {zs:List Nat}(h:chk zs=0):Dg.Norm zs∧zs.length≤1200:=by
 unfold chk at h
 by_cases a:0<zs.length∧zs.getD (zs.length-1) 0=0
 ·rw[if_pos a] at h;omega
 ·rw[if_neg a] at h
  by_cases b:1200<zs.length
  ·rw[if_pos b] at h;omega
  ·refine⟨fun c e=>a ⟨List.length_pos_iff.2 c,e⟩,by omega⟩
def bU (t:ak):ak×Int:=
 if 1200< (Dg.dg 4294967296 (bare t).n).length then(⟨false,0,0⟩,2) else if(bare t).e< -20000∨20000< (bare t).e then(⟨false,0,0⟩,3) else(bare t,0)
def gR (w:World)(r:ak×Int)(e:Ending)(w':World):Prop:=
 ∃s,e= .returned (.tuple #[ydV r.1.s s r.1.e,yi r.2])∧Own w' w.heap.size 54 .u32 s (Dg.dg 4294967296 r.1.n)∧yB w w'
theorem aj {P:Program}{d:Func}{a t:Nat}{g:TypeId}{c:Array Value}{w:World}{b:Nat}{v u:Value}(i:d.results= #[.cell a g,.tmp t])(e:c.getD a undef= .pointer (some ⟨b,0,none⟩))(f:c.getD t undef=u)(h:(loadVar g ⟨b,0,none⟩).run P w= .ok v w):(results d c).run P w= .ok (.tuple #[v,u]) w:=by
 rw[Array.getD_eq_getD_getElem?] at e f;unfold results;simp[i,e,f,asAddr,h]
def Bg (zs:List Nat):List Nat:=(List.range zs.length).map fun i=>zs.getD (i+1-2*(i % 2)) 0
def jT (k:Nat)(zs:List Nat):List Nat:=if k=3 then zs.reverse else if 6≤k then Bg zs else zs
def wG (k:Nat)(s:ByteArray):List Nat:=jT k (jr s)
def aZ (k:Nat)(s:ByteArray):Bool:=decide (eH (wG k s) 0 1=1)
def aR (k:Nat)(s:ByteArray):Nat:=eH (wG k s) 1 (exN k)
def aU (k:Nat)(s:ByteArray):Nat:=eH (wG k s) (1+exN k) (frN k)
theorem pM (w:World)(a:TypeId):ZB6 (w.alloc (.cells #[.bool false,yN,yi 0,.bool false,yN,yi 0] a)) w.heap.size:=
 ⟨by simp[World.size_alloc],a,heap_alloc_new _ _⟩
theorem ZB6.rd {w:World}{b:Nat}{v:Value}{zs:List Nat}(h:ZB6 w b)(t:Rd w .i64 v zs)(r:Dg.Norm zs)(u x y z A B:Value):
  Rd ((((((w.setCell ⟨b,0,none⟩ u).setCell ⟨b,1,none⟩ x).setCell ⟨b,2,none⟩ y).setCell ⟨b,3,none⟩ z).setCell ⟨b,4,none⟩ A).setCell ⟨b,5,none⟩ B) .i64 v zs:=by
 obtain⟨C,F,p⟩:=h;obtain⟨k,cap,rfl,l,m,n⟩:=t;refine⟨k,cap,rfl,l,m,fun g=> ?_⟩
 obtain⟨c,j,rfl,f⟩:=n g;refine⟨c,j,rfl,fun i q=> ?_⟩
 have D:c≠b:=by
  intro e;subst e;have a:=f (zs.length-1) (by omega);have E:=r (List.length_pos_iff.1 g);unfold World.cell? at a;simp only[p] at a;obtain⟨o,s⟩: ∃o,j+(zs.length-1)=o:=⟨_,rfl⟩;rw[s] at a;generalize zs.getD (zs.length-1) 0=d at*
  match o,a with
  |0,a=>simp at a
  |1,a=>simp at a
  |2,a=>simp at a;omega
  |3,a=>simp at a
  |4,a=>simp at a
  |5,a=>simp at a;omega
  |o+6,a=>simp at a
 rw[World.cell?_setCell_other (h:=by simp),World.cell?_setCell_other (h:=by simp),World.cell?_setCell_other (h:=by simp),World.cell?_setCell_other (h:=by simp),World.cell?_setCell_other (h:=by simp),World.cell?_setCell_other (h:=by simp)];exact f i q
theorem ZB6.rd32 {w:World}{b:Nat}{v:Value}{zs:List Nat}(h:ZB6 w b)(r:Rd w .u32 v zs)(s t u x y z:Value):
  Rd ((((((w.setCell ⟨b,0,none⟩ s).setCell ⟨b,1,none⟩ t).setCell ⟨b,2,none⟩ u).setCell ⟨b,3,none⟩ x).setCell ⟨b,4,none⟩ y).setCell ⟨b,5,none⟩ z) .u32 v zs:=by
 obtain⟨A,C,m⟩:=h;obtain⟨g,cap,rfl,j,k,l⟩:=r;refine⟨g,cap,rfl,j,k,fun q=> ?_⟩
 obtain⟨c,f,rfl,d⟩:=l q;refine⟨c,f,rfl,fun i n=> ?_⟩
 have B:c≠b:=by
  intro e;subst e;have a:=d (zs.length-1) (by omega);unfold World.cell? at a;simp only[m] at a;obtain⟨o,p⟩: ∃o,f+(zs.length-1)=o:=⟨_,rfl⟩;rw[p] at a
  match o,a with
  |0,a=>simp at a
  |1,a=>simp at a
  |2,a=>simp at a
  |3,a=>simp at a
  |4,a=>simp at a
  |5,a=>simp at a
  |o+6,a=>simp at a
 rw[World.cell?_setCell_other (h:=by simp),World.cell?_setCell_other (h:=by simp),World.cell?_setCell_other (h:=by simp),World.cell?_setCell_other (h:=by simp),World.cell?_setCell_other (h:=by simp),World.cell?_setCell_other (h:=by simp)];exact d i n
theorem jN.vres {w:World}{t:ak}{e:Ending}{w':World}(h:jN w t e w'):Lx w t e w':=by
 obtain⟨s,a,b,c⟩:=h;exact⟨s,a,b.rd,c⟩
def NRd (w:World)(t:ak)(er:Int)(z:Ending)(w':World):Prop:=
 ∃p,z= .returned (.tuple #[ydV t.s p t.e,yi er])∧Rd w' .u32 p (Dg.dg 4294967296 t.n)∧yB w w'
theorem FW (t:ak):(bare t).n≤t.n:=by
 unfold bare
 split
 ·exact Nat.zero_le _
 ·exact Nat.div_le_self _ _
theorem aO {xs:List Nat}{e:Int}(h:aS xs e=0)(f:Dg.Small 4294967296 xs):Dg.Norm xs∧Dg.dg 4294967296 (Dg.vl 4294967296 xs)=xs∧xs.length≤1200∧ -20000≤e∧e≤20000:=by
 obtain⟨b,c,d⟩:=bL h;obtain⟨a,g⟩:=aF b;exact⟨a,(Dg.eq_dg 4294967296 (by omega) xs _ f a rfl).symm,g,c,d⟩
theorem H7 (g N i pc base t:Nat)(R a:List Nat)(O:Value)(w:World)(K:Own w base 54 .u32 (.slice (some ⟨g,0,none⟩) N N) R)(B:Dg.Small 4294967296 R)(sb:Dg.Small 4294967296 a)
  (z: ∀w',w.grownBy w' (some g)→Rd w' .u32 O a) (W:i+a.length<R.length) (X:t<4294967296) (a1:R.length≤2000000000):
  yC 175 #[.slice (some ⟨g,i,none⟩) (a.length+1) pc,O,.int .u32 t] w fun e w'=>
   ∃(b:Nat) (m:List Nat),e= .returned (.bool (decide (b=1)))∧acc R m a i t b∧Own w' base 54 .u32 (.slice (some ⟨g,0,none⟩) N N) m∧w.grownBy w' (some g):=by
 obtain⟨bo,cb,rfl⟩:=(z w (ib _ _)).shape;have P:Hid _:=z
 clear z
 go_enter func175,ntmps175
 go_wp2
 go_loopw [7,8,14] (fun S Q A wr=> ∃(k c b:Nat) (m:List Nat),k≤a.length∧A=yi k∧S= .int .u64 c∧Q= .int .u32 b∧Own wr base 54 .u32 (.slice (some ⟨g,0,none⟩) N N) m∧SX R m a i t k c b∧w.grownBy wr (some g)) (fun _ _ A _=>a.length-(intOf A).toNat)
 case atStart=>exact⟨0,0,0,R,Nat.zero_le _,rfl,rfl,rfl,K,⟨rfl,B,by omega,by omega,fun _ _=>rfl,by simp[Dg.vl]⟩,ib _ _⟩
 case round=>
  clear K;obtain⟨k,c,b,m,hk,rfl,rfl,rfl,own,o,gr⟩:=hrel;have H:=o.1;have T:=o.2.2.1;have D:=o.2.2.2.1
  by_cases J:k<a.length
  ·obtain⟨-,-,F⟩:=iQ (P.out wr gr)
   obtain⟨b2,a5,rfl,G⟩:=F (by omega);have Y:=G k J;have L:=sb k;have v:=own.c (i+k) (by omega);have hf:=own.f (i+k);rw[o.2.2.2.2.1 _ (Nat.le_refl _)] at v;have q:=B (i+k);obtain⟨y,x⟩: ∃y,a.getD k 0=y:=⟨_,rfl⟩;obtain⟨p,n⟩: ∃p,R.getD (i+k) 0=p:=⟨_,rfl⟩;rw[x] at Y L;rw[n] at v q;have a2:=uf L X;have a4:(y:Int)*(t:Int)≤18446744065119617025:=by rw[←Int.natCast_mul];omega
   have a3:0≤(y:Int)*(t:Int):=by rw[←Int.natCast_mul];omega
   have d:=VS o J (by omega) x n q rfl (by omega);have I:(c+y*t) % 4294967296<4294967296:=Nat.mod_lt _ (by omega);have j:=zA p ((c+y*t) % 4294967296) b wr q I D;rw[←Sd] at j;have s:Hid _:=d;obtain⟨l,u⟩: ∃l,(p+4294967296-(c+y*t) % 4294967296-b) % 4294967296=l:=⟨_,rfl⟩;obtain⟨h,r⟩: ∃h,brw p ((c+y*t) % 4294967296) b=h:=⟨_,rfl⟩;rw[u,r] at j s;clear x n G F d I H u r
   go_wp2_with fail
   refine j.mono ?_;rintro e w' ⟨rfl,rfl⟩;clear j
   go_wp2
   go_roundw
   case rel=>
    rw[Se];exact⟨k+1,_,h,_,by omega,by go_num,rfl,rfl,own.store (i+k) _,s.out,eF gr (bI _ _ _ _)⟩
   case measure=>simp[intOf];omega
  ·have U:k=a.length:=by omega
   subst U;have v:=own.c (i+a.length) (by omega);have hf:=own.f (i+a.length);rw[o.2.2.2.2.1 _ (Nat.le_refl _)] at v;have q:=B (i+a.length);obtain⟨p,n⟩: ∃p,R.getD (i+a.length) 0=p:=⟨_,rfl⟩;rw[n] at v q;have d:=VT o W n q;have j:=zA p c b wr q T D;have E:=RN p c b;obtain⟨l,u⟩: ∃l,(p+4294967296-c-b) % 4294967296=l:=⟨_,rfl⟩;obtain⟨h,r⟩: ∃h,brw p c b=h:=⟨_,rfl⟩;rw[u,r] at j d;rw[r] at E;have s:Hid (acc R (m.set (i+a.length) l) a i t h):=⟨d.1,d.2.1,d.2.2.1,E,d.2.2.2⟩;have M:=own.store (i+a.length) l;have C:=eF gr (bI wr g (i+a.length) (.int .u32 (l:Int)));clear n d H u r
   go_wp2_with fail
   refine j.mono ?_;rintro e w' ⟨rfl,rfl⟩;clear j
   by_cases Z:h=0
   ·subst Z
    go_wp2
    go_ret
    exact⟨0,_,rfl,s,M,C⟩
   ·have a0:h=1:=by omega
    subst a0
    go_wp2
    go_ret
    exact⟨1,_,rfl,s,M,C⟩
theorem Mj (g N i O base:Nat)(R a:List Nat)(E:Value)(w:World)(C:Own w base 54 .u32 (.slice (some ⟨g,0,none⟩) N N) R)(t:Dg.Small 4294967296 R)(P:Dg.Small 4294967296 a)
  (q: ∀w',w.grownBy w' (some g)→Rd w' .u32 E a) (K:i+a.length<R.length) (U:R.length≤2000000000):
  yC 176 #[.slice (some ⟨g,i,none⟩) (a.length+1) O,E] w fun e w'=>
   ∃(o:Nat) (d:List Nat),e= .returned (.tuple #[])∧Py R d a i o∧Own w' base 54 .u32 (.slice (some ⟨g,0,none⟩) N N) d∧w.grownBy w' (some g):=by
 obtain⟨S,T,rfl⟩:=(q w (ib _ _)).shape;have F:Hid _:=q
 clear q
 go_enter func176,ntmps176
 go_wp2
 go_loopw [4,9] (fun H s wr=> ∃(k c:Nat) (d:List Nat),k≤a.length∧s=yi k∧H= .int .u32 c∧Own wr base 54 .u32 (.slice (some ⟨g,0,none⟩) N N) d∧Sp R d a i k c∧w.grownBy wr (some g)) (fun _ s _=>a.length-(intOf s).toNat)
 case atStart=>exact⟨0,0,R,Nat.zero_le _,rfl,rfl,C,⟨rfl,t,by omega,fun _ _=>rfl,by simp[Dg.vl]⟩,ib _ _⟩
 case round=>
  clear C;obtain⟨k,c,d,W,rfl,rfl,own,h,gr⟩:=hrel;have B:=h.1;have I:=h.2.2.1
  by_cases L:k<a.length
  ·obtain⟨-,-,z⟩:=iQ (F.out wr gr)
   obtain⟨Q,X,rfl,A⟩:=z (by omega);have M:=A k L;have r:=P k;have l:=own.c (i+k) (by omega);have hf:=own.f (i+k);rw[h.2.2.2.1 _ (Nat.le_refl _)] at l;have j:=t (i+k);obtain⟨y,n⟩: ∃y,a.getD k 0=y:=⟨_,rfl⟩;obtain⟨p,b⟩: ∃p,R.getD (i+k) 0=p:=⟨_,rfl⟩;rw[n] at M r;rw[b] at l j;have m:=TV h (by omega) n b j r;have x:=ur p y c wr j r I;clear n b A z B
   go_wp2_with fail
   refine x.mono ?_;rintro e w' ⟨rfl,rfl⟩;clear x
   go_wp2
   go_roundw
   case rel=>exact⟨k+1,_,_,by omega,by go_num,rfl,own.store (i+k) _,m,eF gr (bI _ _ _ _)⟩
   case measure=>simp[intOf];omega
  ·have J:k=a.length:=by omega
   subst J;have l:=own.c (i+a.length) (by omega);have hf:=own.f (i+a.length);rw[h.2.2.2.1 _ (Nat.le_refl _)] at l;have j:=t (i+a.length);obtain⟨p,b⟩: ∃p,R.getD (i+a.length) 0=p:=⟨_,rfl⟩;rw[b] at l j;have m:=TW h K b j;have u:((p:Int)+(c:Int)) % 4294967296=(((p+c) % 4294967296:Nat):Int):=by omega
   have D:=own.store (i+a.length) ((p+c) % 4294967296);have v:=eF gr (bI wr g (i+a.length) (.int .u32 (((p+c) % 4294967296:Nat):Int)));rw[←u] at D v;have G:Hid _:=m;clear b m B u
   go_wp2
   go_end0
   exact⟨_,_,rfl,G,D,v⟩
theorem XC (x:Nat)(w:World)(h:x<4294967296):yC 173 #[.int .u32 x] w fun e w'=>e= .returned (yi ((32-bitLen x:Nat):Int))∧w'=w:=by
 have a:=IK x w h;have c:=bF x 32 (by omega);obtain⟨l,b⟩: ∃l,bitLen x=l:=⟨_,rfl⟩;rw[b] at a c⊢;clear b
 go_enter func173,ntmps173
 go_wp2_with fail
 refine a.mono ?_;rintro e w' ⟨rfl,rfl⟩
 go_wp2
 go_ret
 exact⟨by go_num,rfl⟩
theorem Pi {A D M N i nn:Nat}{R os a:List Nat}(h:Jm A D M R os N (i+1))(q:Dg.Small 4294967296 a)(p:Dg.vl 4294967296 a=D)(B:2≤nn)(l:2147483648*4294967296^ (nn-1)≤D)(d:D<4294967296^nn):
  2147483648≤a.getD (nn-1) 0∧R.getD (i+nn) 0≤a.getD (nn-1) 0∧
  ∀g,g<4294967296→(∀k,k*(a.getD (nn-1) 0*4294967296+a.getD (nn-2) 0)≤(R.getD (i+nn) 0*4294967296+R.getD (i+(nn-1)) 0)*4294967296+R.getD (i+(nn-2)) 0→k<4294967296→k≤g)→
   g*(a.getD (nn-1) 0*4294967296+a.getD (nn-2) 0)≤(R.getD (i+nn) 0*4294967296+R.getD (i+(nn-1)) 0)*4294967296+R.getD (i+(nn-2)) 0→
   Dg.vl 4294967296 R/4294967296^i/D<4294967296∧(g=Dg.vl 4294967296 R/4294967296^i/D∨g=Dg.vl 4294967296 R/4294967296^i/D+1):=by
 obtain⟨-,-,f,-,-,-,e⟩:=h;obtain⟨m,rfl⟩: ∃m,nn=m+2:=⟨nn-2,by omega⟩;have b:(0:Nat)<4294967296:=by omega
 rw[show m+2-1=m+1 from rfl] at*
 rw[show m+2-2=m from rfl]
 have s:a.getD (m+1) 0=D/4294967296^ (m+1) % 4294967296:=by rw[CG 4294967296 a (m+1) b q,p]
 have r:a.getD m 0=D/4294967296^m % 4294967296:=by rw[CG 4294967296 a m b q,p]
 have p2:=CG 4294967296 R (i+(m+2)) b f;have p1:=CG 4294967296 R (i+(m+1)) b f;have x:=CG 4294967296 R (i+m) b f;have t:Dg.vl 4294967296 R<4294967296^ (i+m+3):=by
  have c:D*4294967296^ (i+1)≤4294967296^ (m+2)*4294967296^ (i+1):=Nat.mul_le_mul_right _ (Nat.le_of_lt d);rw[←Nat.pow_add,show m+2+(i+1)=i+m+3 from by omega] at c
  exact Nat.lt_of_lt_of_le e c
 have j:=adr (n:=m+2) b (by omega) e;rw[show m+2-1=m+1 from rfl] at j
 have o:D/4294967296^ (m+1)<4294967296:=by
  rw[Nat.div_lt_iff_lt_mul (Nat.pow_pos b),Nat.mul_comm,←Nat.pow_succ];exact d
 have z:=aeU 4294967296 (Dg.vl 4294967296 R) (i+m) b t;have y:=two 4294967296 D m b d;rw[s,r,p2,p1,x];rw[show i+(m+2)=i+m+2 from by omega] at j⊢
 rw[show i+(m+1)=i+m+1 from by omega]
 refine⟨?_, ?_, ?_⟩
 ·rw[Nat.mod_eq_of_lt o,Nat.le_div_iff_mul_le (Nat.pow_pos b)]
  exact l
 ·rw[Nat.mod_eq_of_lt o]
  exact Nat.le_trans (Nat.mod_le _ _) j
 ·rw[z,y]
  intro g u v w;refine NC b e ?_ u v w;have c:1*4294967296^ (m+1)≤2147483648*4294967296^ (m+1):=Nat.mul_le_mul_right _ (by omega);rw[Nat.one_mul] at c;exact Nat.le_trans c l
theorem JS (va vb:Value)(xs a:List Nat)(w:World)(ha:Rd w .u32 va xs)(v:Rd w .u32 vb a)(sa:Dg.Small 4294967296 xs)(W:Dg.Small 4294967296 a)(nb:Dg.Norm a)(G:2≤a.length)(K:a.length≤xs.length)(cv:xs.length≤900000000):
  yC 169 #[va,vb] w (Two w (Dg.vl 4294967296 xs/Dg.vl 4294967296 a) (Dg.vl 4294967296 xs % Dg.vl 4294967296 a)):=by
 obtain⟨i0,hi,bq,ar,bt⟩:=info_parts Tryz.infoU32;have d0:(Tryz.prog.info? 54).map (·.size)=some 1:=by rw[hi];simp[ar]
 obtain⟨s,hs⟩: ∃s,32-bitLen (a.getD (a.length-1) 0)=s:=⟨_,rfl⟩;obtain⟨N,a8,a9⟩:=V7 a s W nb G hs.symm;have al:=XC (a.getD (a.length-1) 0) w (W _);rw[hs] at al;have an:=vO vb a s 0 s (2^s) w v W (by omega) (by omega) N rfl (by omega) (by intro e;rw[e] at G;simp at G);have a1:Hid (∀j,yB w j→yC 153 #[va,yi s] j (Num j (Dg.vl 4294967296 xs*2^s))):=fun j b1=>
  vO va xs s 0 s (2^s) j (ha.l b1) sa (by omega) (by omega) N rfl (by omega) (by intro e;rw[e] at K;have h0:a.length≤0:=K;omega)
 obtain⟨ao,ca,rfl⟩:=ha.shape;obtain⟨bo,cb,rfl⟩:=v.shape;obtain⟨-,-,cj⟩:=iQ v;obtain⟨bb,e6,rfl,cl⟩:=cj (by omega);have hy:=cl (a.length-1) (by omega);have d3:=W (a.length-1);have n1:((a.length:Int)-1)=((a.length-1:Nat):Int):=by omega
 have aq:=Dg.vl_lt 4294967296 xs sa;obtain⟨X,hX⟩: ∃X,Dg.vl 4294967296 xs=X:=⟨_,rfl⟩;obtain⟨Y,hY⟩: ∃Y,Dg.vl 4294967296 a=Y:=⟨_,rfl⟩;rw[hX] at a1 aq⊢;rw[hY] at an a8 a9⊢;obtain⟨nn,cx⟩: ∃nn,a.length=nn:=⟨_,rfl⟩;obtain⟨r,cw⟩: ∃r,xs.length=r:=⟨_,rfl⟩;obtain⟨y,d4⟩: ∃y,a.getD (a.length-1) 0=y:=⟨_,rfl⟩;rw[d4] at al hy d3;rw[cx] at a8 a9 an hy n1 G K⊢;rw[cw] at a1 K cv aq⊢;have a0:Hid (2147483648*4294967296^ (nn-1)≤Y*2^s):=a8;have b5:Hid (Y*2^s<4294967296^nn):=a9;have b9:Hid (X<4294967296^r):=aq;clear ha v sa W nb hs cj cl hX hY cx cw d4 a8 a9 aq
 go_enter func169,ntmps169
 go_wp2_with fail
 refine al.mono ?_;rintro e w' ⟨rfl,rfl⟩;clear al
 go_wp2_with fail
 refine an.mono ?_;rintro e j ⟨eb,rfl,U,C⟩;clear an;have p:(Dg.dg 4294967296 (Y*2^s)).length=nn:=V8 nn _ (by omega) (by have:=a0.out;omega) b5.out;obtain⟨gb,cc,rfl,dn,co,ck⟩:=U.form (by omega);rw[p] at U ck⊢;obtain⟨t,ae⟩: ∃t,Dg.dg 4294967296 (Y*2^s)=t:=⟨_,rfl⟩;rw[ae] at U p
 go_wp2_with (at_make;refine wpList_make_full _ rfl _ _ 78 rfl j.heap.size 54 i0 (.int .u32 0) 1 underlying78 hi bq ar _ _ _ _ (r+1) rfl rfl (by omega) (by omega) ?b2 ?b3 (Nat.le_refl _) ?_)
 case b2=>rw[bt];omega
 case b3=>unfold maxLen;omega
 intro w2 cy cp;have d6:=gL cy;have a3:yB j w2:=(Below.refl _ _).grown cp (Nat.le_refl _) (fun k h=>by cases h)
 clear cy cp
 go_wp2_with fail
 refine(a1.out w2 (aa C a3)).mono ?_;rintro e w3 ⟨ec,rfl,bx,a4⟩;obtain⟨az,ad⟩: ∃az,Dg.dg 4294967296 (X*2^s)=az:=⟨_,rfl⟩;rw[ad] at bx;have bd:az.length≤r+1:=by rw[←ad];exact RI X r s b9.out N
 have bz:=bx.rd;obtain⟨e5,e7,rfl⟩:=bz.shape;have d7:=d6.l a4;obtain⟨Z,ds,Q,bc⟩:=Nw 78 78 3 underlying78 d0 d7 bz (by simpa using bd);have c6:=aa C a3;have ba:=aa c6 a4;have c7:Below w'.heap.size w' Z:=ba.grown bc ba.size (fun k E=>by cases E;exact C.size)
 have db:=((U.l a3).l a4).other bc (by omega);have Q:=Q.lower C.size;clear d7 bz bx a1 d6 U d0
 go_wp2_with (at_make;refine wpList_make_full _ rfl _ _ 78 rfl Z.heap.size 54 i0 (.int .u32 0) 1 underlying78 hi bq ar _ _ _ _ (r+1-nn) rfl rfl ?b0 ?b1 ?b2 ?b3 (Nat.le_refl _) ?_)
 case b0=>omega
 case b1=>omega
 case b2=>rw[bt];omega
 case b3=>unfold maxLen;omega
 intro w5 cz cr;have H:=gL cz;have a5:yB Z w5:=(Below.refl _ _).grown cr (Nat.le_refl _) (fun k h=>by cases h)
 have b4:=Q.l a5;have dc:=db.l a5;have c9:=aa c7 a5;have be:j.heap.size<Z.heap.size:=Q.block.2;have bf:w'.heap.size≤j.heap.size:=C.size;clear cz cr Q db c7 a5 C a3 a4 c6 ba bc ds hy d3 n1;have bn:=Pj (nn:=nn) ad bd b9.out N (by omega) (by omega) a0.out;have O:Dg.Small 4294967296 t:=by rw[←ae];exact Dg.small_dg _ _ (by omega)
 have d2:Dg.vl 4294967296 t=Y*2^s:=by rw[←ae];exact Dg.vl_dg _ _ (by omega)
 have cg:0<Y:=by
  rcases Nat.eq_zero_or_pos Y with e|e
  ·have:=a0.out
   rw[e,Nat.zero_mul] at this;have h2:=Nat.pow_pos (n:=nn-1) (show 0<4294967296 by omega)
   omega
  ·exact e
 obtain⟨M,hM⟩: ∃M,r+1=M+nn:=⟨r+1-nn,by omega⟩;rw[hM,Nat.add_sub_cancel] at H bn;rw[hM] at b4;rw[hM,Nat.add_sub_cancel];obtain⟨z,cn⟩: ∃z,Z.heap.size=z:=⟨_,rfl⟩;obtain⟨u,cm⟩: ∃u,j.heap.size=u:=⟨_,rfl⟩;rw[cn] at H be⊢;rw[cm] at b4 be bf co⊢;have H:=H.lower (show w'.heap.size≤z by omega)
 have av:gb≠u:=by omega
 have ax:u≠z:=by omega
 have d5:gb≠z:=by omega
 have ci:w'.heap.size≤z:=by omega
 have e8:M+nn≤900000001:=by omega
 clear ad bd b9 ae hM K cv cn cm
 go_wp2
 go_loopw [10] (fun iv wr=>ae2 w' (X*2^s) (Y*2^s) M (M+nn) u z gb cc t iv wr) (fun iv _=>(intOf iv+1).toNat)
 case atStart=>exact⟨M,_,_,Nat.le_refl _,rfl,bn,b4,H,by rw[p];exact dc,c9⟩
 case round=>
  clear bn H b4 dc c9 dn co ck be hi bq ar bt;obtain⟨k,R,os,E,rfl,d,x,S,I,a2⟩:=hrel
  by_cases dp:k=0
  ·subst dp
   have bg:=Xs cg d;have ro:=S.rd;have rr:=x.rd;clear I
   go_wp2_with fail
   refine(jD _ _ _ _ _ ro).mono ?_;rintro e w6 ⟨m,rfl,hm,rfl⟩;have dd:=jW 4294967296 (by omega) S d.2.2.2.1 hm;rw[bg.1] at dd
   go_wp2_with fail
   refine(jD _ _ _ _ _ rr).mono ?_;rintro e w6 ⟨m2,rfl,bi,rfl⟩;have tr:=jW 4294967296 (by omega) x d.2.2.1 bi;have F:=Dj _ _ s 0 s w6 tr.rd (Dg.small_dg _ _ (by omega)) (by have h1:=bi.1;have h2:=d.1;have h3:=tr.len;omega) (by omega) N (by omega);rw[Dg.vl_dg _ _ (by omega),bg.2] at F;clear ro rr hm bi bg S x tr d
   go_wp2_with fail
   refine F.mono ?_;rintro e w7 ⟨vr,rfl,e2,c8⟩;have e3:=dd.l c8;have B:=aa a2 c8;have dt:=e2.lower a2.size;clear F
   go_wp2
   go_ret2
   exact⟨_,_,rfl,e3,dt,B⟩
  ·obtain⟨i,rfl⟩: ∃i,k=i+1:=⟨k-1,by omega⟩
   have n2:((i+1:Nat):Int)-1=(i:Int):=by omega
   rw[n2];have e9:=d.1;rw[p] at I;have c2:=x.c (i+nn) (by omega);have c1:=x.c (i+(nn-1)) (by omega);have c0:=x.c (i+(nn-2)) (by omega);have e1:=I.c (nn-1) (by omega);have e0:=I.c (nn-2) (by omega);have lg:=Pi d O d2 G a0.out b5.out;have cs:=TX u i nn (M+nn-i) gb 0 cc _ _ _ _ _ wr G (by omega) (by omega) c2 c1 c0 (by rw[Nat.zero_add];exact e1) (by rw[Nat.zero_add];exact e0) (d.2.2.1 _) (d.2.2.1 _) (d.2.2.1 _) (O _) (O _) lg.1 lg.2.1;have LG:=lg.2.2;have c4:Hid _:=LG;clear c2 c1 c0 e1 e0 lg LG
   go_wp2_with fail
   rw[show i+nn+1-i=nn+1 from by omega]
   refine cs.mono ?_;rintro e w6 ⟨g,rfl,bh,F,d1,J⟩;clear cs;have hq:=c4.out g bh F d1;clear c4 F d1;have da:=x.l J;have d9:=S.l J;have bu:=I.l J;have b6:=aa a2 J;clear x S I J a2;have bp:=H7 u (M+nn) i (M+nn-i) w'.heap.size g R t _ w6 da d.2.2.1 O (fun e4 hg=>(bu.other hg av).rd) (by omega) bh (by omega)
   rw[p] at bp;obtain⟨q,bm⟩: ∃q,Dg.vl 4294967296 R/4294967296^i/(Y*2^s)=q:=⟨_,rfl⟩;rw[bm] at hq;have c5:Hid (∀D b,acc R D t i g b→_):=fun D b A=>QR A d.2.2.1 rfl d2 (Nat.mul_pos cg (Nat.pow_pos (by omega))) (by rw[p];exact b5.out) d.2.2.2.2.2.2 bm hq.2
   go_wp2_with fail
   refine bp.mono ?_;rintro e w7 ⟨b,D,rfl,A,bv,a6⟩;have ap:=c5.out D b A;have ea:=A.2.2.2.1;have ce:=A.1;have ac:=A.2.1;have T:=d9.other a6 ax.symm;have ay:=bu.other a6 av;have B:=b6.grown a6 b6.size (fun k E=>by cases E;exact bf)
   have dq:=hq.1;have ct:i<M:=by omega
   clear c5 A bp hq bm da d9 bu b6 a6
   by_cases v:b=0
   ·subst v
    obtain⟨rfl,P,L⟩:=ap.1 rfl;have bj:=Iv d ct bh ce ac P L;have ed:decide ((0:Nat)=1)=false:=rfl;rw[ed];have hf:=T.f i;have dl:=T.c i (by have:=d.2.1;omega);clear ap P L d ac
    go_wp2
    go_roundw
    case rel=>exact⟨i,D,_,by omega,by go_num,bj,bv.other (bI _ _ _ _) ax,T.store i _,by rw[p];exact ay.other (bI _ _ _ _) d5,B.setCell (by exact ci) _⟩
    case measure=>simp[intOf]
   ·have v:b=1:=by omega
    subst v;obtain⟨rfl,ch⟩:=ap.2 rfl;have bl:=Mj u (M+nn) i (M+nn-i) w'.heap.size D t _ w7 bv ac O (fun e4 hg=>(ay.other hg av).rd) (by omega) (by omega)
    rw[p] at bl;have ed:decide ((1:Nat)=1)=true:=rfl;rw[ed];have n3:((q+1:Nat):Int)-1=(q:Int):=by omega
    have c3:Hid _:=ch;clear ap ch
    go_wp2_with fail
    refine bl.mono ?_;rintro e w8 ⟨o,cd,rfl,hB,dy,a7⟩;obtain⟨P,L⟩:=c3.out cd o hB;have bj:=Iv d ct dq (hB.1.trans ce) hB.2.1 P L;have bw:=T.other a7 ax.symm;have dv:=ay.other a7 av;have b8:=B.grown a7 B.size (fun k E=>by cases E;exact bf)
    have hf:=bw.f i;have dl:=bw.c i (by have:=d.2.1;omega);clear bl c3 P L hB a7 d ac bv T ay B
    go_wp2
    go_roundw
    case rel=>exact⟨i,cd,_,by omega,by go_num,bj,dy.other (bI _ _ _ _) ax,bw.store i _,by rw[p];exact dv.other (bI _ _ _ _) d5,b8.setCell (by exact ci) _⟩
    case measure=>simp[intOf]
def PwStep (w:World)(I:Nat→ak×ak→ak×ak→Prop)(fn:FuncId)(a b x y lo hi:ak)(f B nb:Int)(k:Nat)(s r h v:ak):Prop:=
 k≤100000∧ ∃(i j:Int) (m n p q:ak),(∀w1,yC fn #[yi ((k+1:Nat):Int)] w1 ((yR w1 (.tuple #[yi i,yi j]))))∧(∀ho hc vo vc ao ac bo bc w1,yB w w1→Rd w1 .u32 (yT ho h.n hc) (Dg.dg 4294967296 h.n)→Rd w1 .u32 (yT vo v.n vc) (Dg.dg 4294967296 v.n)→Rd w1 .u32 (yT ao a.n ac) (Dg.dg 4294967296 a.n)→Rd w1 .u32 (yT bo b.n bc) (Dg.dg 4294967296 b.n)→yC 101 #[.agg #[.bool h.s,yT ho h.n hc,yi h.e,.bool v.s,yT vo v.n vc,yi v.e],.agg #[.bool a.s,yT ao a.n ac,yi a.e,.bool b.s,yT bo b.n bc,yi b.e]] w1 (aeT w1 m n))∧(∀mo mc no nc w1,yB w w1→Rd w1 .u32 (yT mo m.n mc) (Dg.dg 4294967296 m.n)→Rd w1 .u32 (yT no n.n nc) (Dg.dg 4294967296 n.n)→yC 128 #[.agg #[.bool m.s,yT mo m.n mc,yi m.e,.bool n.s,yT no n.n nc,yi n.e],yi i,yi j,yi B] w1 (aeT w1 p q))∧
  ((∃(g:Int) (bl:Bool) (c z e u:ak),(bl=true→g<nb)∧(∀po pc qo qc w1,yB w w1→Rd w1 .u32 (yT po p.n pc) (Dg.dg 4294967296 p.n)→Rd w1 .u32 (yT qo q.n qc) (Dg.dg 4294967296 q.n)→yC 129 #[.agg #[.bool p.s,yT po p.n pc,yi p.e,.bool q.s,yT qo q.n qc,yi q.e]] w1 ((yR w1 (.tuple #[yi g,.bool bl]))))∧(∀po pc qo qc xo xc yo yc w1,yB w w1→Rd w1 .u32 (yT po p.n pc) (Dg.dg 4294967296 p.n)→Rd w1 .u32 (yT qo q.n qc) (Dg.dg 4294967296 q.n)→Rd w1 .u32 (yT xo x.n xc) (Dg.dg 4294967296 x.n)→Rd w1 .u32 (yT yo y.n yc) (Dg.dg 4294967296 y.n)→yC 101 #[.agg #[.bool p.s,yT po p.n pc,yi p.e,.bool q.s,yT qo q.n qc,yi q.e],.agg #[.bool x.s,yT xo x.n xc,yi f,.bool y.s,yT yo y.n yc,yi y.e]] w1 (aeT w1 c z))∧(∀so sc ro rc co cc zo zc w1,yB w w1→Rd w1 .u32 (yT so s.n sc) (Dg.dg 4294967296 s.n)→Rd w1 .u32 (yT ro r.n rc) (Dg.dg 4294967296 r.n)→Rd w1 .u32 (yT co c.n cc) (Dg.dg 4294967296 c.n)→Rd w1 .u32 (yT zo z.n zc) (Dg.dg 4294967296 z.n)→yC 103 #[.agg #[.bool s.s,yT so s.n sc,yi s.e,.bool r.s,yT ro r.n rc,yi r.e],.agg #[.bool c.s,yT co c.n cc,yi c.e,.bool z.s,yT zo z.n zc,yi z.e]] w1 (aeT w1 e u))∧(∀eo ec uo uc w1,yB w w1→Rd w1 .u32 (yT eo e.n ec) (Dg.dg 4294967296 e.n)→Rd w1 .u32 (yT uo u.n uc) (Dg.dg 4294967296 u.n)→yC 69 #[.agg #[.bool e.s,yT eo e.n ec,yi e.e,.bool u.s,yT uo u.n uc,yi u.e],yi B] w1 (aeT w1 lo hi)))∨
   (∃(g:Int) (c z e u:ak),¬g<nb∧(∀po pc qo qc w1,yB w w1→Rd w1 .u32 (yT po p.n pc) (Dg.dg 4294967296 p.n)→Rd w1 .u32 (yT qo q.n qc) (Dg.dg 4294967296 q.n)→yC 129 #[.agg #[.bool p.s,yT po p.n pc,yi p.e,.bool q.s,yT qo q.n qc,yi q.e]] w1 ((yR w1 (.tuple #[yi g,.bool true]))))∧(∀so sc ro rc po pc qo qc w1,yB w w1→Rd w1 .u32 (yT so s.n sc) (Dg.dg 4294967296 s.n)→Rd w1 .u32 (yT ro r.n rc) (Dg.dg 4294967296 r.n)→Rd w1 .u32 (yT po p.n pc) (Dg.dg 4294967296 p.n)→Rd w1 .u32 (yT qo q.n qc) (Dg.dg 4294967296 q.n)→yC 103 #[.agg #[.bool s.s,yT so s.n sc,yi s.e,.bool r.s,yT ro r.n rc,yi r.e],.agg #[.bool p.s,yT po p.n pc,yi p.e,.bool q.s,yT qo q.n qc,yi q.e]] w1 (aeT w1 c z))∧(∀co cc zo zc w1,yB w w1→Rd w1 .u32 (yT co c.n cc) (Dg.dg 4294967296 c.n)→Rd w1 .u32 (yT zo z.n zc) (Dg.dg 4294967296 z.n)→yC 69 #[.agg #[.bool c.s,yT co c.n cc,yi c.e,.bool z.s,yT zo z.n zc,yi z.e],yi B] w1 (aeT w1 e u))∧I (k+1) (e,u) (p,q)))
theorem expNext_any (k:Nat)(w:World):yC 76 #[yi ((k+1:Nat):Int)] w (yR w (.tuple #[yi ((nxE (k+1)).1:Int),yi ((nxE (k+1)).2:Int)])):=by
 go_enter func76,ntmps76
 go_wp2
 go_ret2
 exact⟨rfl,Below.refl _ _⟩
def bM (n:Int)(s:ByteArray):Nat:=if dF n s=0 then dh n.toNat (aZ n.toNat s) (aR n.toNat s) (aU n.toNat s) else 0
def dz (n:Int)(s:ByteArray):Bool:=if dF n s=0 then kt n.toNat (aZ n.toNat s) (aR n.toNat s) (aU n.toNat s) else false
def ji (k:Nat)(ng:Bool)(E FF:Nat):ak:=
 if k=3 then(if E+1=2^exN k∨0<E∧FF<2^ (dgN k-1) then⟨false,0,0⟩ else bare ⟨ng,FF,wdI (rdN k)*(lsI k+(((E-1:Nat):Nat):Int))⟩)
 else if k≤2 then(if E+1=2^exN k then⟨false,0,0⟩ else bare ⟨ng,FF+(if 0<E then 2^ (dgN k-1) else 0),wdI (rdN k)*(lsI k+(((E-1:Nat):Nat):Int))⟩)
 else if k≤5 then bare ⟨ng,FF,wdI (rdN k)*(lsI k+(E:Int))⟩
 else(if E=0 then⟨false,0,0⟩ else bare ⟨ng,FF+2^ (dgN k-1),wdI (rdN k)*(lsI k+(E:Int)-1)⟩)
def nxT (k:Nat)(s:ByteArray):ak:=ji k (aZ k s) (aR k s) (aU k s)
def opT (n:Int)(p:ByteArray):ak:=if dF n p=0 then nxT n.toNat p else⟨false,0,0⟩
def opC (n : Int) (p : ByteArray) (v : Value) : List Value := [.int .i64 ((bM n p : Nat) : Int), .bool (dz n p), .bool (opT n p).s, v, .int .i64 (opT n p).e]
def F7 (w:World)(n:Int)(g:Option Nat)(p:ByteArray)(v:Value):Prop:=
 (∃so sc,v= .slice so (Dg.dg 4294967296 (opT n p).n).length sc)∧Rd w .u32 v (Dg.dg 4294967296 (opT n p).n)∧ ∀b,g=some b→wF b v (Dg.dg 4294967296 (opT n p).n)
def sV (w:World)(n:Int)(g:Option Nat):List ByteArray→List Value→Prop
 | [],cs=>cs=[]
 |p::ps,cs=> ∃v rest,cs=opC n p v++rest∧F7 w n g p v∧sV w n g ps rest
theorem sV.mono {w w':World}{n:Int}{g a:Option Nat}(h: ∀p v,F7 w n g p v→F7 w' n a p v): ∀{ps:List ByteArray} {cs:List Value},sV w n g ps cs→sV w' n a ps cs
 | [],_,hc=>hc
 |p::_,_,hc=>by
  obtain⟨v,e,b,c,d⟩:=hc;exact⟨v,e,b,h p v c,sV.mono h d⟩
structure sF (w:World) (n:Int) (ps:List ByteArray) (g cap:Nat):Prop where
 fit:ps.length≤cap
 most:cap≤maxLen
 each: ∀(i:Nat) p,ps[i]? =some p→ ∃so sc,w.rangeAt g (i*5) (opC n p (.slice so (Dg.dg 4294967296 (opT n p).n).length sc))∧Rd w .u32 (.slice so (Dg.dg 4294967296 (opT n p).n).length sc) (Dg.dg 4294967296 (opT n p).n)
theorem ut.mono {J K:Int}{e c f d:Nat}{a b:Int}(h:ut J e c a f d b)(i:J≤K):ut K e c a f d b:=fun j g=>h j (by omega)
def numR (s:Bool)(xs:List Nat)(e b:Int):Int:=
 if aS xs e≠0 then aS xs e else if b<20∨600<b then 3
 else if 1200<bitLen (bare ⟨s,Dg.vl 4294967296 xs,e⟩).n∨(bare ⟨s,Dg.vl 4294967296 xs,e⟩).e< -18000 then 2 else 0
end Go.Proofs.YthhiidikgchdeaaGreatDoor
