/- Texts laid together. -/
import Derived.Test.YthhiidikgchdeaaGreatDoorKs05
import Derived.Test.YthhiidikgchdeaaGreatDoorKs06
import Derived.Test.YthhiidikgchdeaaGreatDoorKs07
import Derived.Test.YthhiidikgchdeaaGreatDoorKs08
set_option maxRecDepth 100000
set_option maxHeartbeats 1600000
namespace Go.Proofs.YthhiidikgchdeaaGreatDoor
open _root_.Go.Proofs.Tryz
open Go.RowKit
theorem fm (I J:Value)(xs a:List Nat)(w:World)(M:Rd w .i64 I xs)(N:Rd w .i64 J a)(G:Dg.Small 65536 xs)(H:Dg.Small 65536 a)(na:Dg.Norm xs)(nb:Dg.Norm a):
  yC 87 #[I,J] w (yR w (yi (dm (Dg.vl 65536 xs) (Dg.vl 65536 a)))):=by
 obtain⟨ao,ca,rfl,P,Q,p⟩:=M;obtain⟨bo,cb,rfl,a1,R,B⟩:=N;unfold maxLen at Q R
 by_cases z:xs.length<a.length
 ·have U:=Dg.vl_lt_of_len 65536 (by omega) xs a G nb z
  rw[gX (by omega)];have S:((xs.length:Int) != (a.length:Int))=true:=by rw[bne_iff_ne];omega
  go_enter func87,ntmps87
  go_wp2
  go_ret
  exact⟨rfl,Below.refl _ _⟩
 ·by_cases A:a.length<xs.length
  ·have U:=Dg.vl_lt_of_len 65536 (by omega) a xs H na A
   rw[sO (by omega)];have S:((xs.length:Int) != (a.length:Int))=true:=by rw[bne_iff_ne];omega
   go_enter func87,ntmps87
   go_wp2
   go_ret
   exact⟨rfl,Below.refl _ _⟩
  ·have q:xs.length=a.length:=by omega
   obtain⟨r,s⟩: ∃r,dm (Dg.vl 65536 xs) (Dg.vl 65536 a)=r:=⟨_,rfl⟩;rw[s];have v:Hid _:=s;have g:Hid _:=q;rw[q] at P p⊢;clear s q z A
   go_enter func87,ntmps87
   go_wp2
   go_loopw [5] (fun u wr=> ∃k:Nat,k≤a.length∧u=yi ((k:Int)-1)∧Hid (∀j,k≤j→xs.getD j 0=a.getD j 0)∧yB w wr) (fun u _=>(intOf u+1).toNat)
   case atStart=>exact⟨a.length,Nat.le_refl _,rfl,fun j i=>by rw[Dg.getD_of_le xs j (by rw[g.out];exact i),Dg.getD_of_le a j i],Below.refl _ _⟩
   case round=>
    obtain⟨k,hk,rfl,l,f⟩:=hrel
    by_cases O:k=0
    ·subst O
     have E:=Dg.eq_of_all xs a g.out (fun j=>l j (by omega))
     have T:r=0:=by rw[←v.out,E,Bh]
     subst T;clear E
     go_wp2
     go_ret
     exact⟨rfl,f⟩
    ·obtain⟨m,rfl⟩: ∃m,k=m+1:=⟨k-1,by omega⟩
     obtain⟨b,a2,rfl,C⟩:=p (by omega);obtain⟨b2,a3,rfl,D⟩:=B (by omega);have W:=cell_later f (C m (by omega));have Z:=cell_later f (D m (by omega));have c:xs.getD m 0<a.getD m 0→dm (Dg.vl 65536 xs) (Dg.vl 65536 a)= -1:=fun h=>
      gX (by have:=Dg.vl_lt_of_digit 65536 xs a m g.out (by rw[g.out];omega) l h G;omega)
     have d:a.getD m 0<xs.getD m 0→dm (Dg.vl 65536 xs) (Dg.vl 65536 a)=1:=fun h=>
      sO (by have:=Dg.vl_lt_of_digit 65536 a xs m g.out.symm (by omega) (fun j i=>(l j i).symm) h H;omega)
     rw[v.out] at c d;obtain⟨x,n⟩: ∃x,xs.getD m 0=x:=⟨_,rfl⟩;obtain⟨y,o⟩: ∃y,a.getD m 0=y:=⟨_,rfl⟩;have K:Hid _:=n;have L:Hid _:=o;rw[n] at W c d;rw[o] at Z c d;clear n o C D p B;have F:((m+1:Nat):Int)-1=(m:Int):=by omega
     rw[F];clear F
     by_cases Y:x<y
     ·have t:=c Y
      subst t;clear c d
      go_wp2
      go_quiet (fail)
      go_wp2
      go_ret
      exact⟨rfl,aL f _⟩
     ·by_cases a0:y<x
      ·have t:=d a0
       subst t;clear c d
       go_wp2
       go_quiet (fail)
       go_wp2
       go_quiet (fail)
       go_wp2
       go_ret
       exact⟨rfl,aL (aL f _) _⟩
      ·have X:x=y:=by omega
       subst X;clear c d
       go_wp2
       go_quiet (fail)
       go_wp2
       go_quiet (fail)
       go_wp2
       go_roundw
       case rel=>exact⟨m,by omega,by go_num,fun j i=>by
        by_cases e:j=m
        ·rw[e];exact K.out.trans L.out.symm
        ·exact l j (by omega),aL f _⟩
       case measure=>simp[intOf]
def Sv (xs ys ps:List Nat)(i:Nat):Prop:=
 ps.length=xs.length+ys.length∧Dg.Small 65536 ps∧(∀j,i+ys.length≤j→ps.getD j 0=0)∧Dg.vl 65536 ps=Dg.vl 65536 (xs.take i)*Dg.vl 65536 ys
def M5 (xs ys ps:List Nat)(i k c:Nat):Prop:=
 ps.length=xs.length+ys.length∧Dg.Small 65536 ps∧c<65536∧(∀j,i+ys.length+1≤j→ps.getD j 0=0)∧(k≤ys.length→ps.getD (i+ys.length) 0=0)∧(ys.length<k→c=0)∧k≤ys.length+1∧
  Dg.vl 65536 ps+65536^ (i+k)*c=Dg.vl 65536 (xs.take i)*Dg.vl 65536 ys+65536^i*(xs.getD i 0*Dg.vl 65536 (ys.take k))
theorem M6 (xs a:List Nat):Sv xs a (List.replicate (xs.length+a.length) 0) 0:=by
 refine⟨by simp,Dg.small_replicate _ _ (by omega),fun j _=> ?_, ?_⟩
 ·by_cases h:j<xs.length+a.length<;>simp[List.getD_eq_getElem?_getD,h]
 ·simp[Dg.vl_replicate_zero,Dg.vl]
theorem M7 {xs b a:List Nat}{i:Nat}(h:Sv xs b a i):M5 xs b a i 0 0:=
 ⟨h.1,h.2.1,by omega,fun j c=>h.2.2.1 j (by omega),fun _=>h.2.2.1 _ (by omega),fun _=>rfl,by omega,by rw[h.2.2.2];simp[Dg.vl]⟩
theorem Qk {xs a b:List Nat}{i k c:Nat}(h:M5 xs a b i k c)(n:i<xs.length)(t: ¬(k<a.length∨0<c)):Sv xs a b (i+1):=by
 obtain⟨d,f,o,g,p,q,r,l⟩:=h;have m:c=0:=by omega
 subst m;refine⟨d,f,fun j s=>g j (by omega), ?_⟩
 rw[Dg.vl_take_succ _ _ _ n,Nat.add_mul,Nat.mul_assoc];have e:a.take k=a:=List.take_of_length_le (by omega);rw[e] at l;omega
theorem xh {w:World}{base e:Nat}{g n cap m:Nat}{zs:List Nat}(h:Own w base e .i64 (.slice (some ⟨g,0,none⟩) n cap) zs)(b:Dg.Small 65536 zs)(a:Ou zs m)(c:zs.length≤3000000):Rd w .i64 (.slice (some ⟨g,0,none⟩) m m) (Dg.dg 65536 (Dg.vl 65536 zs)):=
 uE 65536 (by omega) h.rd b a (Nat.le_refl _) (by have:=a.1;unfold maxLen;omega)
theorem C6 (b a:Nat)(f:a<16):(List.replicate (b+1) 0).set b (2^a)=Dg.dg 65536 (2^ (16*b+a)):=by
 have c:2^a<65536:=by
  have:2^a≤2^15:=Nat.pow_le_pow_right (by omega) (by omega);omega
 have e:0<2^a:=Nat.pow_pos (by omega);refine Dg.eq_dg 65536 (by omega) _ _ (Dg.small_set (Dg.small_replicate _ _ (by omega)) _ _ c) (fun _=> ?_) ?_
 ·simp only[List.length_set,List.length_replicate,Nat.add_sub_cancel]
  rw[Dg.getD_set _ _ _ _ (by simp),if_pos rfl];omega
 ·have:=Dg.vl_set 65536 (List.replicate (b+1) 0) b (2^a) (by simp)
  have d:(List.replicate (b+1) 0).getD b 0=0:=by simp[List.getD_eq_getElem?_getD]
  rw[d,Dg.vl_replicate_zero] at this;rw[Nat.pow_add,Nat.pow_mul,show(2:Nat)^16=65536 from by decide]
  omega
theorem pf (n a b:Nat)(w:World)(q:n=16*a+b)(z:b<16)(K:n≤1000000):
  yC 134 #[yi n] w (cG w (2^n)):=by
 have e:=C6 a b z;rw[←q] at e;obtain⟨D,x,A,B,C⟩:=info_parts Tryz.infoI64;have L:(n:Int)/16=(a:Int):=by omega
 have M:(n:Int) % 16=(b:Int):=by omega
 have N:a≤1000000:=by omega
 have s:Hid _:=e;clear e q
 go_enter func134,ntmps134
 go_wp2_with (at_make;refine wpList_make_full _ rfl _ _ 57 rfl w.heap.size 3 D (yi 0) 1 underlying57 x A B _ _ _ _ (a+1) rfl rfl (by omega) (by omega) ?b2 ?b3 (Nat.le_refl _) ?_)
 case b2=>rw[C];omega
 case b3=>unfold maxLen;omega
 intro F r o;have j:=gL r;have t:yB w F:=(Below.refl _ _).grown o (Nat.le_refl _) (fun k h=>by cases h)
 clear r o
 go_wp2
 go_loop [4,5] (fun v i=> ∃k d:Nat,k≤b∧i=yi k∧v=yi d∧Hid (d=2^k)) (fun _ i=>b-(intOf i).toNat)
 case atStart=>exact⟨0,1,Nat.zero_le _,rfl,rfl,rfl⟩
 case round=>
  obtain⟨k,d,I,rfl,rfl,g⟩:=hrel;have H:d≤65536:=by
   rw[g.out];have:2^k≤2^15:=Nat.pow_le_pow_right (by omega) (by omega);omega
  by_cases J:k<b
  ·go_wp2
   go_round
   case rel=>exact⟨k+1,2*d,by omega,by go_num,by go_num,by rw[show d=2^k from g.out,Nat.pow_succ];exact Nat.mul_comm _ _⟩
   case measure=>simp[intOf];omega
  ·have y:k=b:=by omega
   subst y;have G:=j.c a (by simp);have hf:=j.f a;have l:=j.store a d;have u:=t.setCell (p:=⟨w.heap.size,a,none⟩) (by exact Nat.le_refl _) (yi (d:Int));have m:=g.out;rw[show(List.replicate (a+1) 0).set a d=Dg.dg 65536 (2^n) from by rw[m];exact s.out] at l
   have E:=l.rd;clear m l
   go_wp2
   go_ret
   exact⟨_,rfl,E,u⟩
theorem Fr (n:Nat):(Dg.dg 65536 (2^n)).length≤n/16+1:=by
 refine Dg.dg_len_le _ _ _ (by omega) ?_;rw[show(65536:Nat)=2^16 from by decide,←Nat.pow_mul]
 exact Nat.pow_lt_pow_right (by omega) (by omega)
theorem aD {w:World}{b:Nat}{q d e:Value}(h:Loc w b q d e)(a c f:Value):
  Loc (((w.setCell ⟨b,0,none⟩ a).setCell ⟨b,1,none⟩ c).setCell ⟨b,2,none⟩ f) b a c f:=by
 obtain⟨n,⟨g,i,j⟩,k,l,m⟩:=h;refine⟨by simpa using n,⟨?_, ?_, ?_⟩, ?_, ?_, ?_⟩
 ·rw[World.cell?_setCell_other (h:=by simp),World.cell?_setCell_other (h:=by simp)]
  exact World.cell?_setCell_same _ _ _ g
 ·have o:(w.setCell ⟨b,0,none⟩ a).cell? ⟨b,1,none⟩=some d:=by rw[World.cell?_setCell_other (h:=by simp)];exact i
  rw[World.cell?_setCell_other (h:=by simp)];exact World.cell?_setCell_same _ _ _ o
 ·have p:((w.setCell ⟨b,0,none⟩ a).setCell ⟨b,1,none⟩ c).cell? ⟨b,2,none⟩=some e:=by rw[World.cell?_setCell_other (h:=by simp),World.cell?_setCell_other (h:=by simp)];exact j
  exact World.cell?_setCell_same _ _ _ p
 ·simpa using k
 ·simpa using l
 ·simpa using m
def di (w:World)(t:ak)(e:Ending)(w':World):Prop:= ∃s,e= .returned (ydV t.s s t.e)∧Rd w' .i64 s (Dg.dg 65536 t.n)∧Far w.heap.size s∧yB w w'
def Xi (B:Nat)(w:World)(t:ak)(z:Ending)(w':World):Prop:=
 ∃s,z= .returned (ydV t.s s t.e)∧Rd w' .i64 s (Dg.dg 65536 t.n)∧yB w w'∧Hid (Far B s)
theorem ju (w:World)(a b c d e f h i j:Value)(ta g k:TypeId):
  Loc (((w.alloc (.cells #[a,b,c] ta)).alloc (.cells #[d,e,f] g)).alloc (.cells #[h,i,j] k)) w.heap.size a b c∧
  Loc (((w.alloc (.cells #[a,b,c] ta)).alloc (.cells #[d,e,f] g)).alloc (.cells #[h,i,j] k)) (w.heap.size+1) d e f∧
  Loc (((w.alloc (.cells #[a,b,c] ta)).alloc (.cells #[d,e,f] g)).alloc (.cells #[h,i,j] k)) (w.heap.size+1+1) h i j∧
  yB w (((w.alloc (.cells #[a,b,c] ta)).alloc (.cells #[d,e,f] g)).alloc (.cells #[h,i,j] k))∧
  (((w.alloc (.cells #[a,b,c] ta)).alloc (.cells #[d,e,f] g)).alloc (.cells #[h,i,j] k)).heap.size=w.heap.size+1+1+1:=by
 have o:=aA w a b c ta;have p:=aA (w.alloc (.cells #[a,b,c] ta)) d e f g;have q:=aA ((w.alloc (.cells #[a,b,c] ta)).alloc (.cells #[d,e,f] g)) h i j k;have n:=af (w.alloc (.cells #[a,b,c] ta)) (.cells #[d,e,f] g);have m:=af ((w.alloc (.cells #[a,b,c] ta)).alloc (.cells #[d,e,f] g)) (.cells #[h,i,j] k);refine⟨(o.l n).l m, ?_, ?_,aa (aa (af w _) n) m,by simp[World.size_alloc]⟩
 ·have:=p.l m
  rwa [World.size_alloc] at this
 ·rwa [World.size_alloc,World.size_alloc] at q
theorem jZ (n k L j:Nat)(h:(Dg.dg 65536 n).length≤L)(l:k≤16*j):(Dg.dg 65536 (n*2^k)).length≤L+j:=by
 apply Dg.dg_len_le 65536 _ _ (by omega);have a:=Dg.vl_lt 65536 (Dg.dg 65536 n) (Dg.small_dg _ _ (by omega));rw[Dg.vl_dg _ _ (by omega)] at a;have f:65536^ (Dg.dg 65536 n).length≤65536^L:=Nat.pow_le_pow_right (by omega) h;have b:2^k≤65536^j:=by
  rw[show(65536:Nat)=2^16 from rfl,←Nat.pow_mul]
  exact Nat.pow_le_pow_right (by omega) (by omega)
 rw[Nat.pow_add];have e:0<65536^j:=Nat.pow_pos (by omega);generalize 65536^j=c at*;generalize 65536^L=d at*;have g:n*2^k≤n*c:=Nat.mul_le_mul_left _ b;have i:n*c<d*c:=Nat.mul_lt_mul_of_pos_right (by omega) e;omega
theorem og (x y L:Nat)(c:(Dg.dg 65536 x).length≤L)(d:(Dg.dg 65536 y).length≤L):(Dg.dg 65536 (x+y)).length≤L+1:=by
 apply Dg.dg_len_le 65536 _ _ (by omega);have a:=Dg.vl_lt 65536 (Dg.dg 65536 x) (Dg.small_dg _ _ (by omega));have b:=Dg.vl_lt 65536 (Dg.dg 65536 y) (Dg.small_dg _ _ (by omega));rw[Dg.vl_dg _ _ (by omega)] at a b;have e:65536^ (Dg.dg 65536 x).length≤65536^L:=Nat.pow_le_pow_right (by omega) c;have f:65536^ (Dg.dg 65536 y).length≤65536^L:=Nat.pow_le_pow_right (by omega) d;rw[Nat.pow_succ];omega
theorem qB (v:Value)(t:ak)(w:World)(l:Dv w v t):yC 24 #[v] w (yR w (yi (dJ t))):=by
 obtain⟨o,rfl,d⟩:=l;obtain⟨j,k,rfl⟩:=d.shape;obtain⟨i,n,e⟩:=t;have g:=Dg.dg_nil_iff 4294967296 n (by omega);simp only at d⊢;unfold dJ;simp only;obtain⟨m,c⟩: ∃m,(Dg.dg 4294967296 n).length=m:=⟨_,rfl⟩;have a:m=0↔n=0:=by rw[←c,List.length_eq_zero_iff];exact g
 rw[c];have b:=af w (.cells (ydA i (.slice j m k) e) 41);clear c d g
 by_cases h:n=0
 ·rw[if_pos h]
  have f:=a.2 h;subst f;clear a h
  go_enter func24,ntmps24
  go_wp2
  go_ret
  exact⟨rfl,b⟩
 ·rw[if_neg h]
  have f:((m:Int)==0)=false:=by
   have: ¬m=0:=fun e=>h (a.1 e)
   simp;exact this
  clear a h
  cases i
  ·go_enter func24,ntmps24
   go_wp2
   go_ret
   exact⟨rfl,b⟩
  ·go_enter func24,ntmps24
   go_wp2
   go_ret
   exact⟨rfl,b⟩
def Ag (W:World)(base:Nat)(v:Value):Prop:= ∃p,v= .pointer (some ⟨p,0,none⟩)∧base≤p∧Loc W p (.bool false) yN (yi 0)
theorem EvN.mono {p q:Nat→Prop}(h:EvN p)(g: ∀n,p n→q n):EvN q:=by
 obtain⟨a,b⟩:=h;exact⟨a,fun n c=>g n (b n c)⟩
theorem awg_aw (w:Rat)(n:Nat):awg 0 w n=aw w n:=by
 unfold awg aw;exact rs_congr fun j _=>by unfold sgt;rw[if_pos (by omega)];grind
theorem qT_inj {K:Nat}{x y:Rat}(h:x*((2^K:Nat):Rat)=y*((2^K:Nat):Rat)):x=y:=by
 have a:=two_posR K;generalize((2^K:Nat):Rat)=z at*;have b:z≠0:=by grind
 grind
theorem cut_zero (t:ak)(b:Nat)(up:Bool)(h:t.n=0):aY t b up=t:=by
 unfold aY;rw[if_pos];rw[h,gP];omega
theorem over_zero (a b:ak)(B:Nat)(c:a.n=0):(cK a b B).n=0:=by
 unfold cK d8;simp[c]
def timesS (s t:ak×ak):ak×ak:=(loT (fourT s.1 s.2 t.1 t.2) 3,hiT (fourT s.1 s.2 t.1 t.2) 3)
def negS (s:ak×ak):ak×ak:=(dV s.2,dV s.1)
def upS (s:ak×ak)(n:Int):ak×ak:=(upT s.1 n,upT s.2 n)
def cutSp (s:ak×ak)(B:Nat):ak×ak:=(aY s.1 B false,aY s.2 B true)
def partS (s:ak×ak)(t o B:Nat):ak×ak:=cutSp (cK (aK s.1 (wTr t)) (wTr o) B,cK (aK s.2 (wTr t)) (wTr o) B) B
def grS (s:ak×ak):ak:=hiT (fun i=>if i=0 then sizeT s.1 else sizeT s.2) 1
abbrev smallS (s:ak×ak)(B:Nat):Prop:=(grS s).n=0∨(grS s).e+(bitLen (grS s).n:Int)< -(B:Int)
def restS:ak×ak:=(upT (wTr 1) (-1),wTr 2)
def nearT (y:ak):Nat:=
 let m:=aG y (upT (wTr 1) (-1))
 if 0≤m.e then m.n*2^m.e.toNat else m.n/2^ (-m.e).toNat
def SIn (S:IvN)(f:Nat→Rat):Prop:= ∃g,NrN f g∧EvN fun n=>S.has (g n)
theorem SIn.cut {d:Rat}{S a:IvN}{f:Nat→Rat}(h:SIn S f)(c:IvN.Cut d S a):SIn a f:=by
 obtain⟨g,b,N,e⟩:=h;exact⟨g,b,N,fun n i=>c.has (e n i)⟩
def restE (x:ak)(B:Nat)(one:ak×ak):Nat×(ak×ak):=
 if x.e+(bitLen x.n:Int)<0 then(0,cutSp (x,x) B)
 else
  let N:=nearT (cK x one.1 ((x.e+(bitLen x.n:Int)).toNat+32))
  (N,cutSp (plusS (x,x) (negS (timesS one (wTr N,wTr N)))) B)
theorem bit_pos {t:ak}{b:Nat}(c: ¬(bitLen t.n:Int)-(b:Int)≤((if t.n=0 then 0 else tz t.n:Nat):Int)): ∃k:Nat,(bitLen t.n:Int)-(b:Int)=((k+1:Nat):Int)∧t.n≠0∧t.n % 2^ (k+1)≠0:=by
 have a:t.n≠0:=fun e=>by
  rw[e,gP] at c;omega
 rw[if_neg a] at c;refine⟨((bitLen t.n:Int)-(b:Int)-1).toNat,by omega,a,fun h=> ?_⟩
 obtain⟨k,g⟩: ∃k,((bitLen t.n:Int)-(b:Int)-1).toNat=k:=⟨_,rfl⟩;rw[g] at h;obtain⟨m,i⟩:=fO a;have o:tz t.n<k+1:=by omega
 obtain⟨j,p⟩: ∃j,k+1=tz t.n+1+j:=⟨k-tz t.n,by omega⟩;have f:2^ (tz t.n+1)∣t.n:=Nat.dvd_trans (Nat.pow_dvd_pow 2 (by omega)) (Nat.dvd_of_mod_eq_zero h);obtain⟨q,d⟩:=f;clear h c;generalize tz t.n=z at*;rw[i,Nat.pow_succ,Nat.mul_assoc] at d;have l:0<2^z:=Nat.pow_pos (by omega);have:=Nat.eq_of_mul_eq_mul_left l d;omega
theorem RgT.mono {E T E' T':Int}{t:ak}(h:RgT E T t)(a:E≤E')(b:T≤T'):RgT E' T' t:=by
 unfold RgT at*;omega
theorem RgT.neg {E T:Int}{a:ak}(h:RgT E T a):RgT E T (dV a):=h
theorem RgT.up {E T:Int}{a:ak}(h:RgT E T a)(n:Int):RgT (E-n) (T+n) (upT a n):=by
 unfold RgT at*
 show _≤a.e+n∧a.e+n+(bitLen a.n:Int)≤_
 omega
theorem RgT.plus {E T:Int}{a b:ak}(h:RgT E T a)(g:RgT E T b):RgT E (T+1) (aG a b):=by
 obtain⟨l,m⟩:=h;obtain⟨i,j⟩:=g;obtain⟨e,c⟩: ∃e,min a.e b.e=e:=⟨_,rfl⟩;have d:e≤a.e:=by omega
 have f:e≤b.e:=by omega
 have p:=bits_up a.n (a.e-e).toNat;have q:=bits_up b.n (b.e-e).toNat;obtain⟨k,o⟩: ∃k:Nat,k=max (bitLen (a.n*2^ (a.e-e).toNat)) (bitLen (b.n*2^ (b.e-e).toNat)):=⟨_,rfl⟩;have r:=bits_add (a:=a.n*2^ (a.e-e).toNat) (b:=b.n*2^ (b.e-e).toNat) (k:=k) (by omega) (by omega);have s:=bits_mono (Nat.sub_le (b.n*2^ (b.e-e).toNat) (a.n*2^ (a.e-e).toNat));have t:=bits_mono (Nat.sub_le (a.n*2^ (a.e-e).toNat) (b.n*2^ (b.e-e).toNat));unfold aG;simp only[c];generalize a.n*2^ (a.e-e).toNat=x at*;generalize b.n*2^ (b.e-e).toNat=y at*;unfold RgT
 split
 ·simp only;omega
 ·split<;>simp only<;>omega
theorem RgT.over {E T:Int}{a b:ak}{B:Nat}(h:RgT E T a)(g:1≤B):RgT (E+b.e+(bitLen b.n:Int)+(B:Int)+1) (T-b.e+1) (cK a b B):=by
 obtain⟨d,f⟩:=h;have i:gV a b B≤B+bitLen b.n:=by unfold gV;omega
 have j:=bits_up a.n (gV a b B);have l:=bits_mono (Nat.div_le_self (a.n*2^gV a b B) b.n);unfold cK d8 RgT;simp only;have m:bitLen (a.n*2^gV a b B/b.n*2+(if decide (0<a.n*2^gV a b B % b.n)=true then 1 else 0))≤bitLen a.n+gV a b B+2:=by
  have c:=bits_up (a.n*2^gV a b B/b.n) 1;have o:bitLen (if decide (0<a.n*2^gV a b B % b.n)=true then 1 else 0)≤1:=bits_le (by split<;>omega)
  rw[Nat.pow_one] at c;have p:=bits_add (a:=a.n*2^gV a b B/b.n*2) (b:=if decide (0<a.n*2^gV a b B % b.n)=true then 1 else 0) (k:=bitLen a.n+gV a b B+1) (by omega) (by omega)
  omega
 omega
theorem RgT.cut {E T:Int}{t:ak}{b:Nat}(h:RgT E T t)(a:1≤b)(up:Bool):RgT E (T+1) (aY t b up):=by
 obtain⟨f,g⟩:=h;unfold aY
 by_cases c:(bitLen t.n:Int)-(b:Int)≤((if t.n=0 then 0 else tz t.n:Nat):Int)
 ·rw[if_pos c]
  unfold RgT;omega
 ·rw[if_neg c]
  obtain⟨k,d,i,-⟩:=bit_pos c;rw[d,Int.toNat_natCast];have e:t.n/2^ (k+1)<2^b:=by
   refine Nat.div_lt_of_lt_mul ?_;rw[←Nat.pow_add];exact Nat.lt_of_lt_of_le (bits_lt t.n) (Nat.pow_le_pow_right (by omega) (by omega))
  have j:bitLen (t.n/2^ (k+1)+(if(up != t.s)=true then 1 else 0))≤b+1:=bits_add (bits_le e) (bits_le (by
   have:=Nat.pow_le_pow_right (show 2>0 by omega) a
   split<;>omega))
  unfold RgT;simp only;omega
theorem RgT.lo {E T:Int}{x:Nat→ak}{i:Nat}(h: ∀j,j≤i→RgT E T (x j)):RgT E T (loT x i):=by
 obtain⟨j,a,e⟩:=Po x i;rw[e];exact h j a
theorem RgT.hi {E T:Int}{x:Nat→ak}{i:Nat}(h: ∀j,j≤i→RgT E T (x j)):RgT E T (hiT x i):=by
 obtain⟨j,a,e⟩:=Pp x i;rw[e];exact h j a
theorem RgS.mono {E T E' T':Int}{s:ak×ak}(h:RgS E T s)(a:E≤E')(b:T≤T'):RgS E' T' s:=⟨h.1.mono a b,h.2.mono a b⟩
theorem RgS.plus {E T:Int}{s t:ak×ak}(h:RgS E T s)(g:RgS E T t):RgS E (T+1) (plusS s t):=⟨h.1.plus g.1,h.2.plus g.2⟩
theorem RgS.cut {E T:Int}{s:ak×ak}{b:Nat}(h:RgS E T s)(a:1≤b):RgS E (T+1) (cutSp s b):=⟨h.1.cut a _,h.2.cut a _⟩
theorem RgS.neg {E T:Int}{s:ak×ak}(h:RgS E T s):RgS E T (negS s):=⟨h.2,h.1⟩
theorem RgS.up {E T:Int}{s:ak×ak}(h:RgS E T s)(n:Int):RgS (E-n) (T+n) (upS s n):=⟨h.1.up n,h.2.up n⟩
theorem rest_rg:RgS 1 2 restS:=⟨(RgT.w 1 1 (by omega)).up (-1)|>.mono (by omega) (by omega),(RgT.w 2 2 (by omega)).mono (by omega) (by omega)⟩
theorem RgT.fit {E T:Int}{t:ak}(h:RgT E T t)(a:E≤1000000000)(b:T≤1000000000):Fit9 t:=h.mono a b
theorem xa_ord {n k tn:Nat}(a:2≤n)(b:tn≤1):(lp (n*n) tn (k+1) 0 (2^k/n) 0 0).2.2≤(lp (n*n) tn (k+1) 0 (2^k/n) 0 0).2.1:=(inv_ord a b _ _ _ _ _ _ (inv_zero a)).1
theorem ln_VV (k:Nat):V k (lnLo k)=18*((XA 26 0 k:Int)-((3+3*NA 26 0 k:Nat):Int))-2*((XA 4801 0 k:Int)+((3+3*NA 4801 0 k:Nat):Int))+8*((XA 8749 0 k:Int)-((3+3*NA 8749 0 k:Nat):Int))∧V k (lnHi k)=18*((XA 26 0 k:Int)+((3+3*NA 26 0 k:Nat):Int))-2*((XA 4801 0 k:Int)-((3+3*NA 4801 0 k:Nat):Int))+8*((XA 8749 0 k:Int)+((3+3*NA 8749 0 k:Nat):Int))∧(lnLo k).e=0-(k:Int)∧(lnHi k).e=0-(k:Int):=by
 obtain⟨-,⟨c,d⟩,⟨-,-,-,-,a,b⟩,-⟩:=ln_V k;exact⟨c,d,a,b⟩
theorem FitsT.rg {t:ak}(h:FitsT t):RgT 90000 160000 t:=by
 obtain⟨⟨k,b,a⟩,c,d⟩:=h;have:=bits_le a;exact⟨by omega,by omega⟩
def lnSpan (x:ak)(B:Nat):ak×ak:=(lnLo (B+(x.e+(bitLen x.n:Int)).toNat),lnHi (B+(x.e+(bitLen x.n:Int)).toNat))
theorem often_le {N a:Nat}(h:(N:Rat)≤2*p2 a+1):N<2^ (a+2):=by
 rw[p2_nat] at h;have b:(N:Rat)≤((2*2^a+1:Nat):Rat):=by
  rw[Rat.natCast_add,Rat.natCast_mul];exact h
 have c:=Rat.natCast_le_natCast.1 b;have d:=Nat.pow_pos (n:=a) (show 0<2 by omega)
 rw[Nat.pow_add];omega
end Go.Proofs.YthhiidikgchdeaaGreatDoor
