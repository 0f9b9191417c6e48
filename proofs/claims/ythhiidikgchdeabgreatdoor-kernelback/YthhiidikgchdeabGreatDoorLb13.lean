/- Texts laid together. -/
import Derived.Test.YthhiidikgchdeabGreatDoorLb06
import Derived.Test.YthhiidikgchdeabGreatDoorLb07
import Derived.Test.YthhiidikgchdeabGreatDoorLb08
import Derived.Test.YthhiidikgchdeabGreatDoorLb09
set_option maxRecDepth 100000
set_option maxHeartbeats 1600000
namespace Go.Proofs.YthhiidikgchdeabGreatDoor
open _root_.Go.Proofs.Tryz
open Go.RowKit
theorem jF (J K:Value)(xs a:List Nat)(w:World)(N:Rd w .u32 J xs)(O:Rd w .u32 K a)(H:Dg.Small 4294967296 xs)(I:Dg.Small 4294967296 a)(na:Dg.Norm xs)(nb:Dg.Norm a):
  yC 69 #[J,K] w (yR w (yi (dm (Dg.vl 4294967296 xs) (Dg.vl 4294967296 a)))):=by
 obtain⟨ao,ca,rfl,Q,R,u⟩:=N;obtain⟨bo,cb,rfl,a1,S,D⟩:=O;unfold maxLen at R S;obtain⟨r,l⟩: ∃r,dm (Dg.vl 4294967296 xs) (Dg.vl 4294967296 a)=r:=⟨_,rfl⟩;have c:=AM (xs.length:Int) (a.length:Int) w
 by_cases B:xs.length<a.length
 ·have U:=Dg.vl_lt_of_len 4294967296 (by omega) xs a H nb B
  rw[gX (by omega)] at l;subst l;rw[gX (by omega)] at c;rw[gX (by omega)]
  go_enter func69,ntmps69
  go_wp2_with fail
  refine c.mono ?_;rintro e w' ⟨rfl,rfl⟩
  go_wp2
  go_ret
  exact⟨rfl,Below.refl _ _⟩
 ·by_cases C:a.length<xs.length
  ·have U:=Dg.vl_lt_of_len 4294967296 (by omega) a xs I na C
   rw[sO (by omega)] at c;rw[sO (by omega)];clear l
   go_enter func69,ntmps69
   go_wp2_with fail
   refine c.mono ?_;rintro e w' ⟨rfl,rfl⟩
   go_wp2
   go_ret
   exact⟨rfl,Below.refl _ _⟩
  ·have q:xs.length=a.length:=by omega
   rw[q,Bh] at c;rw[l];have A:Hid _:=l;have n:Hid _:=q;rw[q] at Q u⊢;clear l q B C
   go_enter func69,ntmps69
   go_wp2_with fail
   refine c.mono ?_;rintro e w' ⟨rfl,rfl⟩;clear c
   go_wp2
   go_loopw [6] (fun z wr=> ∃k:Nat,k≤a.length∧z=yi ((k:Int)-1)∧Hid (∀j,k≤j→xs.getD j 0=a.getD j 0)∧Below w'.heap.size w' wr) (fun z _=>(intOf z+1).toNat)
   case atStart=>exact⟨a.length,Nat.le_refl _,rfl,fun j o=>by rw[Dg.getD_of_le xs j (by rw[n.out];exact o),Dg.getD_of_le a j o],Below.refl _ _⟩
   case round=>
    obtain⟨k,hk,rfl,p,g⟩:=hrel
    by_cases P:k=0
    ·subst P
     have G:=Dg.eq_of_all xs a n.out (fun j=>p j (by omega))
     have T:r=0:=by rw[←A.out,G,Bh]
     subst T;clear G
     go_wp2
     go_ret
     exact⟨rfl,g⟩
    ·obtain⟨m,rfl⟩: ∃m,k=m+1:=⟨k-1,by omega⟩
     obtain⟨b,a3,rfl,E⟩:=u (by omega);obtain⟨b2,a4,rfl,F⟩:=D (by omega);have W:=cell_later g (E m (by omega));have Z:=cell_later g (F m (by omega));have d:xs.getD m 0<a.getD m 0→dm (Dg.vl 4294967296 xs) (Dg.vl 4294967296 a)= -1:=fun h=>
      gX (by have:=Dg.vl_lt_of_digit 4294967296 xs a m n.out (by rw[n.out];omega) p h H;omega)
     have f:a.getD m 0<xs.getD m 0→dm (Dg.vl 4294967296 xs) (Dg.vl 4294967296 a)=1:=fun h=>
      sO (by have:=Dg.vl_lt_of_digit 4294967296 a xs m n.out.symm (by omega) (fun j o=>(p j o).symm) h I;omega)
     rw[A.out] at d f;obtain⟨x,s⟩: ∃x,xs.getD m 0=x:=⟨_,rfl⟩;obtain⟨y,t⟩: ∃y,a.getD m 0=y:=⟨_,rfl⟩;have L:Hid _:=s;have M:Hid _:=t;rw[s] at W d f;rw[t] at Z d f;clear s t E F u D;have i:=fun wx=>RF (x:Int) (y:Int) wx
     have a2:((m+1:Nat):Int)-1=(m:Int):=by omega
     by_cases Y:x<y
     ·have v:=d Y
      subst v;rw[gX (by omega)] at i;clear d f
      go_wp2
      go_quiet ((go_at_call 105;exact Calls.quiet_of_same (i _)))
      go_wp2
      go_ret
      exact⟨rfl,aL g _⟩
     ·by_cases a0:y<x
      ·have v:=f a0
       subst v;rw[sO (by omega)] at i;clear d f
       go_wp2
       go_quiet ((go_at_call 105;exact Calls.quiet_of_same (i _)))
       go_wp2
       go_ret
       exact⟨rfl,aL g _⟩
      ·have X:x=y:=by omega
       subst X;rw[Bh] at i;clear d f
       go_wp2
       go_quiet ((go_at_call 105;exact Calls.quiet_of_same (i _)))
       go_wp2
       go_roundw
       case rel=>exact⟨m,by omega,by go_num,fun j o=>by
        by_cases e:j=m
        ·rw[e];exact L.out.trans M.out.symm
        ·exact p j (by omega),aL g _⟩
       case measure=>simp[intOf]
theorem Dv.l {w w':World}{v:Value}{t:ak}(h:Dv w v t)(a:yB w w'):Dv w' v t:=by
 obtain⟨s,c,b⟩:=h;exact⟨s,c,b.l a⟩
theorem Loc.l {w w':World}{b:Nat}{f g i:Value}(h:Loc w b f g i)(c:yB w w'):Loc w' b f g i:=by
 obtain⟨e,⟨j,k,m⟩,n,o,p⟩:=h;have d:=c.block b e;refine⟨Nat.lt_of_lt_of_le e c.size,⟨cell_later c j,cell_later c k,cell_later c m⟩, ?_, ?_, ?_⟩
 ·rw[World.frozen?_of_block (w:=w) (a:=⟨b,0,none⟩) d];exact n
 ·rw[World.frozen?_of_block (w:=w) (a:=⟨b,1,none⟩) d];exact o
 ·rw[World.frozen?_of_block (w:=w) (a:=⟨b,2,none⟩) d];exact p
theorem au.l {w w':World}{b:Nat}{a:TypeId}{c:List Value}(h:au w b a c)(d:yB w w'):au w' b a c:=(d.block b h.lt).trans h
theorem au.drew {w:World}{b:Nat}{a:TypeId}{c:List Value}(h:au w b a c):au w.drew b a c:=h.l (Below.refl _ _).drew
theorem Rv.l {w w':World}{v:Value}{t:ak}(h:Rv w v t)(a:yB w w'):Rv w' v t:=by
 obtain⟨s,c,b⟩:=h;exact⟨s,c,b.l a⟩
theorem ZB.l {w w':World}{b:Nat}(h:ZB w b)(a:yB w w'):ZB w' b:=by
 obtain⟨c,e,d⟩:=h;exact⟨Nat.lt_of_lt_of_le c a.size,e,(a.block b c).trans d⟩
theorem ik.l {w w':World}{g:Nat}{zs:List Nat}(h:ik w g zs)(a:yB w w'):ik w' g zs:=
 ⟨fun i b=>cell_later a (h.c i b),fun i b=>(Eu (a.block g h.lt)).trans (h.f i b),Nat.lt_of_lt_of_le h.lt a.size⟩
theorem ik.drew {w:World}{g:Nat}{zs:List Nat}(h:ik w g zs):ik w.drew g zs:=h.l (Below.refl _ _).drew
def jp (w:World)(base:Nat)(v:Value)(bs:List Bool):Prop:=w.ownsRow base 4 1 v bs.length (bs.map Value.bool)
theorem Tryz.infoB:(Tryz.prog.info? 4).map (fun i=>(i.zero,i.size,i.bytes))=some (some (.bool false),1,1):=by kernel_rfl
theorem jp.l {w w':World}{base:Nat}{v:Value}{c:List Bool}(h:jp w base v c)(e:yB w w'):jp w' base v c:=by
 obtain⟨i,a⟩:=h;refine⟨i, ?_⟩
 rcases a with a| ⟨g,cap,d,j,f,b,r⟩
 ·exact .inl a
 ·refine .inr ⟨g,cap,d,j,f, ?_,r⟩
  rw[e.block g ?_]
  ·exact b
  ·rw[Array.getElem?_eq_some_iff] at b
   exact b.1
theorem ju (w:World)(a b c d e f h i j:Value)(ta g k:TypeId):
  Loc (((w.alloc (.cells #[a,b,c] ta)).alloc (.cells #[d,e,f] g)).alloc (.cells #[h,i,j] k)) w.heap.size a b c∧
  Loc (((w.alloc (.cells #[a,b,c] ta)).alloc (.cells #[d,e,f] g)).alloc (.cells #[h,i,j] k)) (w.heap.size+1) d e f∧
  Loc (((w.alloc (.cells #[a,b,c] ta)).alloc (.cells #[d,e,f] g)).alloc (.cells #[h,i,j] k)) (w.heap.size+1+1) h i j∧
  yB w (((w.alloc (.cells #[a,b,c] ta)).alloc (.cells #[d,e,f] g)).alloc (.cells #[h,i,j] k))∧
  (((w.alloc (.cells #[a,b,c] ta)).alloc (.cells #[d,e,f] g)).alloc (.cells #[h,i,j] k)).heap.size=w.heap.size+1+1+1:=by
 have o:=aA w a b c ta;have p:=aA (w.alloc (.cells #[a,b,c] ta)) d e f g;have q:=aA ((w.alloc (.cells #[a,b,c] ta)).alloc (.cells #[d,e,f] g)) h i j k;have n:=af (w.alloc (.cells #[a,b,c] ta)) (.cells #[d,e,f] g);have m:=af ((w.alloc (.cells #[a,b,c] ta)).alloc (.cells #[d,e,f] g)) (.cells #[h,i,j] k);refine⟨(o.l n).l m, ?_, ?_,aa (aa (af w _) n) m,by simp[World.size_alloc]⟩
 ·have:=p.l m
  rwa [World.size_alloc] at this
 ·rwa [World.size_alloc,World.size_alloc] at q
theorem qB (v:Value)(t:ak)(w:World)(l:Dv w v t):yC 20 #[v] w (yR w (yi (dJ t))):=by
 obtain⟨o,rfl,d⟩:=l;obtain⟨j,k,rfl⟩:=d.shape;obtain⟨i,n,e⟩:=t;have g:=Dg.dg_nil_iff 4294967296 n (by omega);simp only at d⊢;unfold dJ;simp only;obtain⟨m,c⟩: ∃m,(Dg.dg 4294967296 n).length=m:=⟨_,rfl⟩;have a:m=0↔n=0:=by rw[←c,List.length_eq_zero_iff];exact g
 rw[c];have b:=af w (.cells (ydA i (.slice j m k) e) 48);clear c d g
 by_cases h:n=0
 ·rw[if_pos h]
  have f:=a.2 h;subst f;clear a h
  go_enter func20,ntmps20
  go_wp2
  go_ret
  exact⟨rfl,b⟩
 ·rw[if_neg h]
  have f:((m:Int)==0)=false:=by
   have: ¬m=0:=fun e=>h (a.1 e)
   simp;exact this
  clear a h
  cases i
  ·go_enter func20,ntmps20
   go_wp2
   go_ret
   exact⟨rfl,b⟩
  ·go_enter func20,ntmps20
   go_wp2
   go_ret
   exact⟨rfl,b⟩
theorem lE {K:Nat}(A:ak)(b:Int)(f:1≤b)(i: -(K:Int)≤A.e):V K (aY A b false)≤V K A∧V K A≤V K (aY A b true)∧ -(K:Int)≤(aY A b false).e∧ -(K:Int)≤(aY A b true).e:=by
 have one: ∀up,-(K:Int)≤(aY A b up).e:=fun up=>by
  rcases mX A b up f with⟨_,a⟩| ⟨j,q,_,_,_,_,_,_,_,_,_,a⟩
  ·rw[a];exact i
  ·rw[a];show _≤A.e+(j:Int);omega
 have two: ∀up,(up=false→V K (aY A b up)≤V K A)∧(up=true→V K A≤V K (aY A b up)):=fun up=>by
  rcases mX A b up f with⟨_,a⟩| ⟨j,q,_,_,_,_,c,d,_,_,_,a⟩
  ·rw[a];exact⟨fun _=>Int.le_refl _,fun _=>Int.le_refl _⟩
  ·have g:(A.e+(j:Int)+(K:Int)).toNat=j+(A.e+(K:Int)).toNat:=by omega
   rw[a,eV,eV];simp only;rw[g,Nat.pow_add,←Nat.mul_assoc];generalize 2^ (A.e+(K:Int)).toNat=P;generalize 2^j=J at c d;have k:q*J*P≤A.n*P:=Nat.mul_le_mul_right _ c;have l:A.n*P≤(q+1)*J*P:=Nat.mul_le_mul_right _ (Nat.le_of_lt d)
   cases hs:A.s
   ·refine⟨fun h=> ?_,fun h=> ?_⟩
    ·subst h
     simp only[sz,bne_self_eq_false,Bool.false_eq_true,if_false,Nat.add_zero];omega
    ·subst h
     simp only[sz,Bool.true_bne,Bool.not_false,Bool.false_eq_true,if_false,if_true];omega
   ·refine⟨fun h=> ?_,fun h=> ?_⟩
    ·subst h
     simp only[sz,Bool.false_bne,if_true];omega
    ·subst h
     simp only[sz,bne_self_eq_false,Bool.false_eq_true,if_false,Nat.add_zero,if_true];omega
 exact⟨(two false).1 rfl,(two true).2 rfl,one false,one true⟩
theorem FitsT.len {t:ak}(h:FitsT t):(Dg.dg 4294967296 t.n).length≤9000:=by
 obtain⟨⟨k,b,a⟩,-⟩:=h;exact jq a (by omega)
theorem fits_up {t:ak}{n:Nat}(h:FitsT t)(f:n≤10)(d:t.e≤80000):FitsT (upT t n):=by
 obtain⟨a,b,c⟩:=h;exact⟨a,by show-90000≤t.e+(n:Int);omega,by show t.e+(n:Int)≤90000;omega⟩
theorem qT_V {K:Nat}{t:ak}(h: -(K:Int)≤t.e):((V K t:Int):Rat)=qT t*((2^K:Nat):Rat):=by
 unfold V qT;rw[Rat.intCast_mul,Rat.mul_assoc,p2_at h];rfl
theorem le_V {K:Nat}{a b:ak}(d: -(K:Int)≤a.e)(f: -(K:Int)≤b.e):V K a≤V K b↔qT a≤qT b:=by
 rw[←Rat.intCast_le_intCast,qT_V d,qT_V f];have g:=two_posR K;generalize((2^K:Nat):Rat)=z at*
 constructor
 ·intro h
  by_cases c:qT a≤qT b
  ·exact c
  ·have:=Rat.mul_pos (show 0<qT a-qT b by grind) g
   grind
 ·intro h
  exact Rat.mul_le_mul_of_nonneg_right h (by grind)
theorem qlo_le (x:Nat→ak)(i:Nat): ∀j,j≤i→qT (loT x i)≤qT (x j):=fun j a=>by
 obtain⟨K,h⟩:=low_all x i;obtain⟨k,b,e⟩:=Po x i;exact(le_V (by rw[e];exact h k b) (h j a)).1 (Al x i h j a)
theorem qhi_ge (x:Nat→ak)(i:Nat): ∀j,j≤i→qT (x j)≤qT (hiT x i):=fun j a=>by
 obtain⟨K,h⟩:=low_all x i;obtain⟨k,b,e⟩:=Pp x i;exact(le_V (h j a) (by rw[e];exact h k b)).1 (Ao x i h j a)
theorem cut_near (t:ak)(b:Int)(up:Bool)(_hb:1≤b):ab (qT (aY t b up)-qT t)≤p2 (1-b)*ab (qT t):=by
 unfold aY;have p:0≤p2 (1-b)*ab (qT t):=Rat.mul_nonneg (by have:=p2_pos (1-b);grind) (ab_nonneg _)
 by_cases c:(bitLen t.n:Int)-b≤((if t.n=0 then 0 else tz t.n:Nat):Int)
 ·rw[if_pos c]
  have:qT t-qT t=0:=by grind
  rw[this];have:ab 0=0:=by unfold ab;grind
  rw[this];exact p
 ·rw[if_neg c]
  have l:t.n≠0:=fun e=>by
   rw[e,gP] at c;omega
  obtain⟨k,j⟩: ∃k:Nat,(bitLen t.n:Int)-b=(k:Int):=⟨((bitLen t.n:Int)-b).toNat,by omega⟩;rw[j,Int.toNat_natCast];obtain⟨q,-⟩:=qT_top l;have f:qT ⟨t.s,t.n/2^k+(if(up != t.s)=true then 1 else 0),t.e+(k:Int)⟩=(sz t.s ((t.n/2^k+(if(up != t.s)=true then 1 else 0))*2^k):Rat)*p2 t.e:=by
   unfold qT;simp only;rw[p2_add,p2_nat];have:((sz t.s ((t.n/2^k+(if(up != t.s)=true then 1 else 0))*2^k):Int):Rat)=((sz t.s (t.n/2^k+(if(up != t.s)=true then 1 else 0)):Int):Rat)*((2^k:Nat):Rat):=by
    unfold sz
    cases t.s<;>simp<;>grind
   rw[this]
   grind
  rw[f];unfold qT;have v:=Nat.div_add_mod t.n (2^k);have w:=Nat.mod_lt t.n (show 0<2^k from Nat.pow_pos (by omega))
  obtain⟨m,d⟩: ∃m,(t.n/2^k+(if(up != t.s)=true then 1 else 0))*2^k=m:=⟨_,rfl⟩
  have a:m≤t.n+2^k∧t.n≤m+2^k:=by
   rw[←d,Nat.add_mul,Nat.mul_comm (t.n/2^k)]
   split<;>omega
  rw[d];have o:ab (((sz t.s m:Int):Rat)*p2 t.e-((sz t.s t.n:Int):Rat)*p2 t.e)≤((2^k:Nat):Rat)*p2 t.e:=by
   have x:=p2_pos t.e;have h:(m:Rat)≤(t.n:Rat)+((2^k:Nat):Rat):=by rw[←Rat.natCast_add];exact Rat.natCast_le_natCast.2 a.1
   have i:(t.n:Rat)≤(m:Rat)+((2^k:Nat):Rat):=by rw[←Rat.natCast_add];exact Rat.natCast_le_natCast.2 a.2
   have r:=Rat.mul_le_mul_of_nonneg_right h (show 0≤p2 t.e by grind)
   have u:=Rat.mul_le_mul_of_nonneg_right i (show 0≤p2 t.e by grind)
   rw[ab_le];unfold sz
   cases t.s
   ·simp only[Bool.false_eq_true,if_false,Rat.intCast_natCast]
    constructor<;>grind
   ·simp only[if_true,Rat.intCast_natCast,Rat.intCast_neg]
    constructor<;>grind
  refine Rat.le_trans o ?_;have g:((2^k:Nat):Rat)*p2 t.e=p2 (1-b)*p2 (t.e+(bitLen t.n:Int)-1):=by
   rw[←p2_nat,←p2_add,←p2_add]
   congr 1
   omega
  rw[g];exact Rat.mul_le_mul_of_nonneg_left q (by have:=p2_pos (1-b);grind)
theorem cut_lo (t:ak)(b:Int)(g:1≤b):qT (aY t b false)≤qT t∧qT t≤qT (aY t b true):=by
 obtain⟨K,h,-⟩:=low2 t.e 0;obtain⟨a,c,d,f⟩:=lE t b g h;exact⟨(le_V d h).1 a,(le_V h f).1 c⟩
theorem cut_odd (t:ak)(b:Nat)(_hb:1≤b)(up:Bool)(r:t.n % 2=1)(q:b<bitLen t.n):(aY t b up).s=t.s∧
  (up=t.s→((aY t b up).n:Rat)*p2 (aY t b up).e≤((t.n-1:Nat):Rat)*p2 t.e)∧(up≠t.s→((t.n+1:Nat):Rat)*p2 t.e≤((aY t b up).n:Rat)*p2 (aY t b up).e):=by
 have p:tz t.n=0:=by
  obtain⟨m,f⟩:=fO (show t.n≠0 by omega)
  by_cases c:tz t.n=0
  ·exact c
  ·obtain⟨j,l⟩: ∃j,tz t.n=j+1:=⟨tz t.n-1,by omega⟩
   rw[l,Nat.pow_succ,Nat.mul_comm (2^j) 2,Nat.mul_assoc] at f;omega
 unfold aY;rw[if_neg (show¬t.n=0 by omega),p,if_neg (by omega)]
 obtain⟨k,o⟩: ∃k:Nat,(bitLen t.n:Int)-(b:Int)=((k+1:Nat):Int):=⟨bitLen t.n-b-1,by omega⟩;rw[o,Int.toNat_natCast];have v:=p2_pos t.e;have d:=Nat.div_add_mod t.n (2^ (k+1));have f:=Nat.mod_lt t.n (show 0<2^ (k+1) from Nat.pow_pos (by omega))
 obtain⟨c,i⟩: ∃c,t.n/2^ (k+1)=c:=⟨_,rfl⟩;rw[i] at d⊢;have h:2^ (k+1)=2*2^k:=by rw[Nat.pow_succ,Nat.mul_comm]
 have u:t.n % 2^ (k+1)≠0:=fun g=>by
  rw[g,h,Nat.mul_assoc] at d;omega
 refine⟨rfl,fun a=> ?_,fun a=> ?_⟩
 ·have:(up != t.s)=false:=by rw[a];cases t.s<;>rfl
  simp only[this,Bool.false_eq_true,if_false,Nat.add_zero];rw[show t.e+((k+1:Nat):Int)=((k+1:Nat):Int)+t.e by omega,p2_add,p2_nat,←Rat.mul_assoc,←Rat.natCast_mul]
  exact Rat.mul_le_mul_of_nonneg_right (nat_le (by rw[Nat.mul_comm];omega)) (by grind)
 ·have:(up != t.s)=true:=by revert a;cases up<;>cases t.s<;>simp
  simp only[this,if_true];rw[show t.e+((k+1:Nat):Int)=((k+1:Nat):Int)+t.e by omega,p2_add,p2_nat,←Rat.mul_assoc,←Rat.natCast_mul]
  exact Rat.mul_le_mul_of_nonneg_right (nat_le (by rw[Nat.add_mul,Nat.mul_comm c];omega)) (by grind)
theorem cut_zero (t:ak)(b:Nat)(up:Bool)(h:t.n=0):aY t b up=t:=by
 unfold aY;rw[if_pos];rw[h,gP];omega
theorem over_cut (a b:ak)(B:Nat)(k:1≤B)(v:b.n≠0){X:Rat}(o:X*qT b=qT a):qT (aY (cK a b B) B false)≤X∧X≤qT (aY (cK a b B) B true):=by
 by_cases d:a.n=0
 ·have F:qT b≠0:=fun c=>by
   have:=qT_ab b;rw[c] at this;have u:=Rat.mul_pos (nat_pos' (Nat.pos_of_ne_zero v)) (p2_pos b.e);have C:ab 0=0:=by unfold ab;grind
   grind
  have E:X=0:=by
   rw[qT_zero d] at o
   rcases Rat.mul_eq_zero.1 o with h|h
   ·exact h
   ·exact absurd h F
  rw[cut_zero _ _ _ (over_zero a b B d),cut_zero _ _ _ (over_zero a b B d),qT_zero (over_zero a b B d),E];exact⟨Rat.le_refl,Rat.le_refl⟩
 obtain⟨m,e,l,u,C,M,N,D,O,f⟩:=over_parts a b B k d v o;rw[u]
 cases l with
 |false=>
  have G:=D rfl;have I:qT ⟨a.s != b.s,m*2+(if false=true then 1 else 0),e-1⟩=X:=by
   rw[qT_sq,f,←G];simp only[Bool.false_eq_true,if_false,Nat.add_zero];rw[Rat.natCast_mul];have:p2 e=((2:Nat):Rat)*p2 (e-1):=by
    have:=p2_add 1 (e-1);rw[show 1+(e-1)=e by omega,p2_one] at this
    exact this
   rw[this,Rat.mul_assoc]
  have:=cut_lo ⟨a.s != b.s,m*2+(if false=true then 1 else 0),e-1⟩ B (by omega)
  rw[I] at this;exact this
 |true=>
  obtain⟨g,H⟩: ∃g,(a.s != b.s)=g:=⟨_,rfl⟩;rw[H] at f⊢;obtain⟨t,y⟩: ∃t:ak,⟨g,m*2+1,e-1⟩=t:=⟨_,rfl⟩;have p:t.n=m*2+1∧t.s=g∧t.e=e-1:=by subst y;exact⟨rfl,rfl,rfl⟩
  simp only[if_true,y];have w:B<bitLen t.n:=by
   obtain⟨-,-,z⟩:=uB t.n (by omega);have:2^B<2^bitLen t.n:=by
    refine Nat.lt_of_le_of_lt ?_ z;have:2^B=2*2^ (B-1):=by rw[←Nat.pow_succ'];congr 1;omega
    omega
   exact(Nat.pow_lt_pow_iff_right (by omega)).1 this
  have x:p2 e=2*p2 t.e:=by
   have:=p2_add 1 (e-1);rw[show 1+(e-1)=e by omega,p2_one] at this
   rw[this,p.2.2]
  have K:((t.n-1:Nat):Rat)*p2 t.e=(m:Rat)*p2 e:=by
   rw[x,show t.n-1=m*2 by omega,Rat.natCast_mul]
   have:((2:Nat):Rat)=2:=rfl
   grind
  have L:((t.n+1:Nat):Rat)*p2 t.e=((m+1:Nat):Rat)*p2 e:=by
   rw[x,show t.n+1=(m+1)*2 by omega,Rat.natCast_mul]
   have:((2:Nat):Rat)=2:=rfl
   grind
  obtain⟨A,i,j⟩:=cut_odd t B k false (by omega) w;obtain⟨J,q,r⟩:=cut_odd t B k true (by omega) w;rw[K] at i q;rw[L] at j r;rw[qT_sq (aY t B false),qT_sq (aY t B true),A,J,p.2.1];rw[p.2.1] at i j q r
  cases g with
  |false=>
   have:=i rfl;have:=r (by decide);simp only[sqT,Bool.false_eq_true,if_false] at f⊢
   constructor<;>grind
  |true=>
   have:=j (by decide);have:=q rfl;simp only[sqT,if_true] at f⊢
   constructor<;>grind
theorem over_nearR (a b:ak)(B:Nat)(x:1≤B)(z:b.n≠0){X:Rat}(y:X*qT b=qT a):ab (qT (cK a b B)-X)≤p2 (-(B:Int))*ab X∧ ∀k,ab X≤p2 k→ab (qT (cK a b B))≤p2 k:=by
 by_cases t:a.n=0
 ·have f:qT (cK a b B)=0:=qT_zero (over_zero a b B t)
  obtain⟨u,v⟩:=over_cut a b B x z y;rw[cut_zero _ _ _ (over_zero a b B t),f] at u v;have r:X=0:=Rat.le_antisymm v u;have o:ab 0=0:=by unfold ab;grind
  rw[f,r,show(0:Rat)-0=0 by grind,o]
  refine⟨by grind,fun k _=>by have:=p2_pos k;grind⟩
 obtain⟨m,e,l,C,D,E,w,F,G,q⟩:=over_parts a b B x t z y;rw[C];obtain⟨g,K⟩: ∃g,(a.s != b.s)=g:=⟨_,rfl⟩;rw[K] at q⊢;have T:=p2_pos e;have O:p2 e=2*p2 (e-1):=by
  have:=p2_add 1 (e-1)
  rwa [show 1+(e-1)=e by omega,p2_one] at this
 have r:=ab_nonneg X;have f:qT ⟨g,m*2+(if l=true then 1 else 0),e-1⟩=sqT g*(((m:Rat)+(if l=true then 1/2 else 0))*p2 e):=by
  rw[qT_sq,O];simp only;rw[Rat.natCast_add,Rat.natCast_mul];have:((2:Nat):Rat)=2:=rfl
  cases l
  ·simp only[Bool.false_eq_true,if_false]
   have:((0:Nat):Rat)=0:=rfl
   grind
  ·simp only[if_true]
   have:((1:Nat):Rat)=1:=rfl
   grind
 have I:((2^ (B-1):Nat):Rat)*p2 e≤ab X:=Rat.le_trans (Rat.mul_le_mul_of_nonneg_right (nat_le D) (by grind)) E;have R:p2 e≤2*p2 (-(B:Int))*ab X:=by
  have h:=Rat.mul_le_mul_of_nonneg_left I (show 0≤2*p2 (-(B:Int)) by have:=p2_pos (-(B:Int));grind)
  have d:2*p2 (-(B:Int))*(((2^ (B-1):Nat):Rat)*p2 e)=p2 e:=by
   rw[←p2_nat,←p2_one];have:p2 1*p2 (-(B:Int))*(p2 ((B-1:Nat):Int)*p2 e)=p2 1*p2 (-(B:Int))*p2 ((B-1:Nat):Int)*p2 e:=by grind
   rw[this,←p2_add,←p2_add,show 1+ -(B:Int)+((B-1:Nat):Int)=0 by omega,p2_zero]
   grind
  rwa [d] at h
 rw[f]
 cases l with
 |false=>
  have J:=F rfl;have j:sqT g*(((m:Rat)+(if false=true then 1/2 else 0))*p2 e)=X:=by
   rw[q,←J];simp only[Bool.false_eq_true,if_false]
   grind
  rw[j];refine⟨?_,fun k d=>d⟩
  have o:ab (X-X)=0:=by rw[show X-X=0 by grind];unfold ab;grind
  rw[o];exact Rat.mul_nonneg (by have:=p2_pos (-(B:Int));grind) r
 |true=>
  have S:=G rfl;simp only[if_true];rw[Rat.natCast_add] at w;have p:((1:Nat):Rat)=1:=rfl;rw[p] at w
  constructor
  ·have j:sqT g*(((m:Rat)+1/2)*p2 e)-X=sqT g*(((m:Rat)+1/2)*p2 e-ab X):=by
    have:X=sqT g*ab X:=q
    grind
   rw[j,sq_ab,ab_le]
   constructor<;>grind
  ·intro k d
   rw[sq_ab];have M:1≤m:=by
    have:0<2^ (B-1):=Nat.pow_pos (by omega);omega
   have N:(1:Rat)≤(m:Rat):=by
    have:=nat_le M
    rwa [p] at this
   have A:p2 e≤p2 k:=by
    have:=Rat.mul_le_mul_of_nonneg_right N (show 0≤p2 e by grind)
    grind
   obtain⟨i,L⟩: ∃i:Nat,k=(i:Int)+e:=⟨(k-e).toNat,by have:=p2_le A;omega⟩;rw[L,p2_add,p2_nat] at d⊢;have Q:m<2^i:=by
    by_cases c:m<2^i
    ·exact c
    ·have:=Rat.mul_le_mul_of_nonneg_right (nat_le (show 2^i≤m by omega)) (show 0≤p2 e by grind)
     grind
   have H:=Rat.mul_le_mul_of_nonneg_right (nat_le (show m+1≤2^i by omega)) (show 0≤p2 e by grind)
   rw[Rat.natCast_add,p] at H;have P:=Rat.mul_nonneg (show 0≤(m:Rat)+1/2 by grind) (show 0≤p2 e by grind)
   have:ab (((m:Rat)+1/2)*p2 e)=((m:Rat)+1/2)*p2 e:=by unfold ab;grind
   rw[this]
   grind
theorem four_lo (a b p q:ak):ivT (loT (fourT a b p q) 3) (hiT (fourT a b p q) 3)=IvN.times (ivT a b) (ivT p q):=by
 have c:qT (fourT a b p q 0)=qT a*qT p:=qT_times a p;have d:qT (fourT a b p q 1)=qT a*qT q:=qT_times a q;have e:qT (fourT a b p q 2)=qT b*qT p:=qT_times b p;have f:qT (fourT a b p q 3)=qT b*qT q:=qT_times b q;have L:=qlo_le (fourT a b p q) 3;have H:=qhi_ge (fourT a b p q) 3;obtain⟨i,C,s⟩:=Po (fourT a b p q) 3;obtain⟨j,D,t⟩:=Pp (fourT a b p q) 3;have m:=L 0 (by omega);have n:=L 1 (by omega);have o:=L 2 (by omega);have r:=L 3 (by omega);have g:=H 0 (by omega);have h:=H 1 (by omega);have k:=H 2 (by omega);have l:=H 3 (by omega);rw[c] at m g;rw[d] at n h;rw[e] at o k;rw[f] at r l;have v:qT (loT (fourT a b p q) 3)=qT a*qT p∨qT (loT (fourT a b p q) 3)=qT a*qT q∨qT (loT (fourT a b p q) 3)=qT b*qT p∨qT (loT (fourT a b p q) 3)=qT b*qT q:=by
  rw[s,←c,←d,←e,←f]
  rcases(by omega:i=0∨i=1∨i=2∨i=3) with rfl|rfl|rfl|rfl<;>simp
 have u:qT (hiT (fourT a b p q) 3)=qT a*qT p∨qT (hiT (fourT a b p q) 3)=qT a*qT q∨qT (hiT (fourT a b p q) 3)=qT b*qT p∨qT (hiT (fourT a b p q) 3)=qT b*qT q:=by
  rw[t,←c,←d,←e,←f]
  rcases(by omega:j=0∨j=1∨j=2∨j=3) with rfl|rfl|rfl|rfl<;>simp
 unfold ivT IvN.times IvN.mn IvN.mx;simp only;generalize qT (loT (fourT a b p q) 3)=x at*;generalize qT (hiT (fourT a b p q) 3)=y at*;generalize qT a*qT p=w at*;generalize qT a*qT q=z at*;generalize qT b*qT p=A at*;generalize qT b*qT q=B at*
 congr 1<;>grind
def timesS (s t:ak×ak):ak×ak:=(loT (fourT s.1 s.2 t.1 t.2) 3,hiT (fourT s.1 s.2 t.1 t.2) 3)
def upS (s:ak×ak)(n:Int):ak×ak:=(upT s.1 n,upT s.2 n)
def cutSp (s:ak×ak)(B:Nat):ak×ak:=(aY s.1 B false,aY s.2 B true)
def partS (s:ak×ak)(t o B:Nat):ak×ak:=cutSp (cK (aK s.1 (wTr t)) (wTr o) B,cK (aK s.2 (wTr t)) (wTr o) B) B
def grS (s:ak×ak):ak:=hiT (fun i=>if i=0 then sizeT s.1 else sizeT s.2) 1
theorem bits_mul (a b:Nat):bitLen (a*b)≤bitLen a+bitLen b:=bits_le (by
 rw[Nat.pow_add];exact Nat.mul_lt_mul'' (bits_lt a) (bits_lt b))
theorem bits_up (a s:Nat):bitLen (a*2^s)≤bitLen a+s:=bits_le (by
 rw[Nat.pow_add];exact Nat.mul_lt_mul_of_pos_right (bits_lt a) (Nat.pow_pos (by omega)))
theorem bits_mono {a b:Nat}(h:a≤b):bitLen a≤bitLen b:=bits_le (Nat.lt_of_le_of_lt h (bits_lt b))
theorem bits_add {a b k:Nat}(c:bitLen a≤k)(d:bitLen b≤k):bitLen (a+b)≤k+1:=bits_le (by
 have e:=Nat.lt_of_lt_of_le (bits_lt a) (Nat.pow_le_pow_right (show 2>0 by omega) c)
 have f:=Nat.lt_of_lt_of_le (bits_lt b) (Nat.pow_le_pow_right (show 2>0 by omega) d)
 rw[Nat.pow_succ];omega)
theorem RgT.times {E T E' T':Int}{a b:ak}(h:RgT E T a)(g:RgT E' T' b):RgT (E+E') (T+T') (aK a b):=by
 unfold RgT at*;have:=bits_mul a.n b.n
 show _≤a.e+b.e∧a.e+b.e+(bitLen (a.n*b.n):Int)≤_
 omega
theorem RgT.up {E T:Int}{a:ak}(h:RgT E T a)(n:Int):RgT (E-n) (T+n) (upT a n):=by
 unfold RgT at*
 show _≤a.e+n∧a.e+n+(bitLen a.n:Int)≤_
 omega
theorem RgT.w (n k:Nat)(h:n<2^k):RgT 0 k (wTr n):=by
 have:=bits_le h;unfold RgT
 show _≤(0:Int)∧(0:Int)+(bitLen n:Int)≤_
 omega
theorem RgT.over {E T:Int}{a b:ak}{B:Nat}(h:RgT E T a)(g:1≤B):RgT (E+b.e+(bitLen b.n:Int)+(B:Int)+1) (T-b.e+1) (cK a b B):=by
 obtain⟨d,f⟩:=h;have i:gV a b B≤B+bitLen b.n:=by unfold gV;omega
 have j:=bits_up a.n (gV a b B);have l:=bits_mono (Nat.div_le_self (a.n*2^gV a b B) b.n);unfold cK d8 RgT;simp only;have m:bitLen (a.n*2^gV a b B/b.n*2+(if decide (0<a.n*2^gV a b B % b.n)=true then 1 else 0))≤bitLen a.n+gV a b B+2:=by
  have c:=bits_up (a.n*2^gV a b B/b.n) 1;have o:bitLen (if decide (0<a.n*2^gV a b B % b.n)=true then 1 else 0)≤1:=bits_le (by split<;>omega)
  rw[Nat.pow_one] at c;have p:=bits_add (a:=a.n*2^gV a b B/b.n*2) (b:=if decide (0<a.n*2^gV a b B % b.n)=true then 1 else 0) (k:=bitLen a.n+gV a b B+1) (by omega) (by omega)
  omega
 omega
theorem RgT.lo {E T:Int}{x:Nat→ak}{i:Nat}(h: ∀j,j≤i→RgT E T (x j)):RgT E T (loT x i):=by
 obtain⟨j,a,e⟩:=Po x i;rw[e];exact h j a
theorem RgT.hi {E T:Int}{x:Nat→ak}{i:Nat}(h: ∀j,j≤i→RgT E T (x j)):RgT E T (hiT x i):=by
 obtain⟨j,a,e⟩:=Pp x i;rw[e];exact h j a
theorem rg_four {E T E' T':Int}{s t:ak×ak}(h:RgS E T s)(g:RgS E' T' t)(j:Nat):RgT (E+E') (T+T') (fourT s.1 s.2 t.1 t.2 j):=by
 match j with
 |0=>exact h.1.times g.1
 |1=>exact h.1.times g.2
 |2=>exact h.2.times g.1
 |j+3=>exact h.2.times g.2
theorem RgS.times {E T E' T':Int}{s t:ak×ak}(h:RgS E T s)(g:RgS E' T' t):RgS (E+E') (T+T') (timesS s t):=⟨RgT.lo fun j _=>rg_four h g j,RgT.hi fun j _=>rg_four h g j⟩
theorem RgS.up {E T:Int}{s:ak×ak}(h:RgS E T s)(n:Int):RgS (E-n) (T+n) (upS s n):=⟨h.1.up n,h.2.up n⟩
theorem ln_fits (k:Nat)(a:k≤60000):FitsT (lnM k)∧FitsT (lnN k)∧FitsT (lnU k)∧FitsT (lnV k)∧FitsT (lnLo k)∧FitsT (lnHi k):=by
 obtain⟨⟨w,x⟩,⟨y,z⟩,⟨c,d,f,g,h,i⟩,A,B⟩:=ln_V k;obtain⟨-,-,o⟩:=inv_fits 26 k 0 (by omega) (by omega) a;obtain⟨-,-,p⟩:=inv_fits 4801 k 0 (by omega) (by omega) a;obtain⟨-,-,q⟩:=inv_fits 8749 k 0 (by omega) (by omega) a;have n:(2:Nat)^ (k+23)=2^ (k+17)*64:=by rw[show k+23=k+17+6 by omega,Nat.pow_add]
 have b:((2^ (k+23):Nat):Int)=((2^ (k+17):Nat):Int)*64:=by rw[n,Int.natCast_mul];rfl
 have r:(XA 26 0 k:Int)+((3+3*NA 26 0 k:Nat):Int)< ((2^ (k+17):Nat):Int):=by rw[←Int.natCast_add];exact Int.ofNat_lt.2 o
 have s:(XA 4801 0 k:Int)+((3+3*NA 4801 0 k:Nat):Int)< ((2^ (k+17):Nat):Int):=by rw[←Int.natCast_add];exact Int.ofNat_lt.2 p
 have u:(XA 8749 0 k:Int)+((3+3*NA 8749 0 k:Nat):Int)< ((2^ (k+17):Nat):Int):=by rw[←Int.natCast_add];exact Int.ofNat_lt.2 q
 generalize((2^ (k+17):Nat):Int)=P at*;have F: ∀t:ak,t.e=0-(k:Int)→V k t<P*64→ -(P*64)<V k t→FitsT t:=fun t v l m=>fits_of_V (j:=k+23) (by omega) (by omega) a (by omega) (by rw[b];exact l) (by rw[b];exact m)
 exact⟨F _ c (by omega) (by omega),F _ d (by omega) (by omega),F _ f (by omega) (by omega),F _ g (by omega) (by omega),F _ h (by omega) (by omega),F _ i (by omega) (by omega)⟩
end Go.Proofs.YthhiidikgchdeabGreatDoor
