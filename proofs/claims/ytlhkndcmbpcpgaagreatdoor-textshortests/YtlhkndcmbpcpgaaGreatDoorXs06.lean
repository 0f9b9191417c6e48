/- Texts laid together. -/
import Derived.Test.YtlhkndcmbpcpgaaGreatDoorXs01
import Derived.Test.YtlhkndcmbpcpgaaGreatDoorXs02
set_option maxRecDepth 100000
set_option maxHeartbeats 4000000
namespace Go.Proofs.YtlhkndcmbpcpgaaGreatDoor
open _root_.Go.Proofs.Tryz
open Go.RowKit
def bare (a:ak):ak:=if a.n=0 then⟨false,0,0⟩ else⟨a.s,a.n/2^tz a.n,a.e+tz a.n⟩
theorem AM (a b:Int)(w:World):yC 89 #[yi a,yi b] w fun e w'=>e= .returned (yi (dm a b))∧w'=w:=by
 unfold dm
 by_cases c:a<b
 ·rw[if_pos c]
  go_enter func89,ntmps89
  go_wp2
  go_ret
  exact⟨rfl,rfl⟩
 ·by_cases d:b<a
  ·rw[if_neg c,if_pos d]
   go_enter func89,ntmps89
   go_wp2
   go_ret
   exact⟨rfl,rfl⟩
  ·rw[if_neg c,if_neg d]
   go_enter func89,ntmps89
   go_wp2
   go_ret
   exact⟨rfl,rfl⟩
theorem RF (a b:Int)(w:World):yC 90 #[.int .u32 a,.int .u32 b] w fun e w'=>e= .returned (yi (dm a b))∧w'=w:=by
 unfold dm
 by_cases c:a<b
 ·rw[if_pos c]
  go_enter func90,ntmps90
  go_wp2
  go_ret
  exact⟨rfl,rfl⟩
 ·by_cases d:b<a
  ·rw[if_neg c,if_pos d]
   go_enter func90,ntmps90
   go_wp2
   go_ret
   exact⟨rfl,rfl⟩
  ·rw[if_neg c,if_neg d]
   go_enter func90,ntmps90
   go_wp2
   go_ret
   exact⟨rfl,rfl⟩
theorem Vb (a b y:Nat)(w:World)(g:a<y)(f:b<4294967296)(k:y<4294967296):
  yC 130 #[.int .u32 a,.int .u32 b,.int .u32 y] w (yR w (.tuple #[.int .u32 ((a*4294967296+b)/y:Nat),.int .u32 ((a*4294967296+b) % y:Nat)])):=by
 have h:=KJ a b (by omega) f;obtain⟨t,e⟩: ∃t,a*4294967296+b=t:=⟨_,rfl⟩;have i:=I6 g f e.symm;have o:t<18446744073709551616:=by omega
 rw[e] at h⊢;have j:t % y<y:=Nat.mod_lt _ (by omega);obtain⟨q,c⟩: ∃q,t/y=q:=⟨_,rfl⟩;obtain⟨r,d⟩: ∃r,t % y=r:=⟨_,rfl⟩;have m:(t:Int)/(y:Int)=(q:Int):=by rw[←c];exact(Int.natCast_ediv t y).symm
 have n:(t:Int) % (y:Int)=(r:Int):=by rw[←d];exact(Int.natCast_emod t y).symm
 rw[c] at i⊢;rw[d] at j⊢;clear c d e;have l:decide (y≤a)=false:=by simp;omega
 have p:((y:Int) != 0)=true:=by rw[bne_iff_ne];omega
 go_enter func130,ntmps130
 go_wp2
 go_quiet (fail)
 go_wp2
 go_ret2
 exact⟨rfl,aL (Below.refl _ _) _⟩
theorem IJ {zs a:List Nat}{i:Nat}(h:XT zs a i)(l:i<zs.length-1-i):XT zs ((a.set i (a.getD (zs.length-1-i) 0)).set (zs.length-1-i) (a.getD i 0)) (i+1):=by
 obtain⟨f,j,d⟩:=h;refine⟨by simpa using f,by omega,fun k g=> ?_⟩
 rw[Dg.getD_set _ _ _ _ (by simp;omega),Dg.getD_set _ _ _ _ (by omega)]
 by_cases b:zs.length-1-i=k
 ·rw[if_pos b,if_pos (by omega),d i (by omega),if_neg (by omega)]
  rw[←b,show zs.length-1-(zs.length-1-i)=i from by omega]
 ·rw[if_neg b]
  by_cases c:i=k
  ·rw[if_pos c,if_pos (by omega),d _ (by omega),if_neg (by omega),←c]
  ·rw[if_neg c,d k g]
   by_cases e:k<i∨zs.length-1-i<k
   ·rw[if_pos e,if_pos (by omega)]
   ·rw[if_neg e,if_neg (by omega)]
theorem MG {zs a:List Nat}{i:Nat}(h:XT zs a i)(m: ¬i<zs.length-1-i):a=zs.reverse:=by
 obtain⟨e,l,f⟩:=h;apply List.ext_getElem (by simpa using e);intro k j n;have g:k<zs.length:=by omega
 have:=f k g;have c:a.getD k 0=a[k]:=by simp[List.getD_eq_getElem?_getD,j]
 have d:zs.reverse[k]=zs.getD (zs.length-1-k) 0:=by
  rw[List.getElem_reverse];simp[List.getD_eq_getElem?_getD,show zs.length-1-k<zs.length from by omega]
 rw[←c,this,d]
 by_cases b:k<i∨zs.length-1-i<k
 ·rw[if_pos b]
 ·rw[if_neg b,show zs.length-1-k=k from by omega]
theorem Tryz.infoU8:(Tryz.prog.info? 5).map (fun i=>(i.zero,i.size,i.bytes))=some (some (.int .u8 0),1,1):=by kernel_rfl
def cF (zs:List Nat):ByteArray:=⟨(zs.map (fun n=>UInt8.ofNat n)).toArray⟩
def oW (n:Nat):ByteArray:=if n=0 then⟨#[48]⟩ else cF (((Dg.dg 10 n).map (fun d=>48+d)).reverse)
theorem Iu: ∀(zs:List Nat) (s:ByteArray),((zs.map (fun n:Nat=>(n:Int))).foldl (fun r n=>r.push (UInt8.ofNat n.toNat)) s)=⟨s.data++(zs.map (fun n=>UInt8.ofNat n)).toArray⟩:=by
 intro zs
 induction zs with
 |nil=>intro s;simp
 |cons z zs ih=>
  intro s;simp only[List.map_cons,List.foldl_cons];rw[ih];simp[ByteArray.push]
theorem lQ {P:Program}{w:World}{base e g n cap:Nat}{zs:List Nat}(d a:TypeId)(o:P.underlying d=some (.slice e))(l:P.underlying e=some (.int .u8))(k:P.underlying a=some .string)
  (h:Own w base e .u8 (.slice (some ⟨g,0,none⟩) n cap) zs):(convert d a (.slice (some ⟨g,0,none⟩) n cap)).run P w= .ok (.string (cF zs)) w:=by
 rw[run_convert_bytes_string w d a e _ _ _ o l k];have m:=h.len;subst m;have i:=run_loadCells_list (P:=P) w ⟨g,0,none⟩ (zs.map (fun n:Nat=>Value.int .u8 n)) (by
  intro j u b;have f:j<zs.length:=by have:=(List.getElem?_eq_some_iff.1 b).1;simpa using this
  rw[j9 _ zs j f] at b;rw[rO,Nat.zero_add,h.c j f];exact b)
 rw[List.length_map] at i;have:=run_bytesToString (P:=P) w ⟨g,0,none⟩ zs.length cap (zs.map (fun n:Nat=>(n:Int))) (by
  rw[i];simp)
 rw[this,Iu];simp[cF]
theorem Own.keep {w w':World}{base e:Nat}{k:IntKind}{v:Value}{zs:List Nat}{G:Nat}(h:Own w base e k v zs)(b:w.grownBy w' (some G))(c:G<base):Own w' base e k v zs:=by
 refine World.ownsRow.kept h b ?_
 by_cases a:v.ownBlock=some G
 ·have:=(World.ownsRow.lt h G a).1
  omega
 ·exact .inr a
theorem Own.keep2 {w w':World}{base a e c:Nat}{k j:IntKind}{b:Value}{zs l:List Nat}{g n cap:Nat}(h:Own w base e k (.slice (some ⟨g,0,none⟩) n cap) zs)(d:Own w a c j b l)(m:g<a)(f:w.grownBy w' b.ownBlock):
  Own w' base e k (.slice (some ⟨g,0,none⟩) n cap) zs:=by
 have i:=h.len;subst i;refine World.ownsRow.kept h f (.inr ?_);intro e;have:=(World.ownsRow.lt d g e.symm).1;omega
def L5 (n:Nat)(ds:List Nat)(m:Nat):Prop:=Dg.Small 10 ds∧n=Dg.vl 10 ds+10^ds.length*m
def Xp (n m:Nat)(ds:List Nat)(j g:Nat):Prop:=Dg.Small 10 ds∧j≤9∧g<10^ (9-j)∧n=Dg.vl 10 ds+10^ds.length*(g+10^ (9-j)*m)
theorem qP {B:Nat}{l:List Nat}{x:Nat}(h:Dg.Small B l)(c:x<B):Dg.Small B (l++[x]):=by
 intro i;rw[List.getD_eq_getElem?_getD,List.getElem?_append]
 by_cases a:i<l.length
 ·rw[if_pos a];simpa[List.getD_eq_getElem?_getD] using h i
 ·rw[if_neg a]
  by_cases b:i-l.length=0
  ·simp[b];exact c
  ·rw[List.getElem?_eq_none (by simp;omega)];simp;omega
theorem Pd {n m:Nat}{a:List Nat}(h:L5 n a m):Xp n (m/1000000000) a 0 (m % 1000000000):=by
 refine⟨h.1,by omega,by simp;omega, ?_⟩;rw[h.2];have:m % 1000000000+10^ (9-0)*(m/1000000000)=m:=by simpa using Nat.mod_add_div m 1000000000
 rw[this]
theorem TJ {n m:Nat}{a:List Nat}{j g:Nat}(h:Xp n m a j g)(k:j<9):Xp n m (a++[g % 10]) (j+1) (g/10):=by
 obtain⟨d,i,f,b⟩:=h;have e:9-j=(9-(j+1))+1:=by omega
 rw[e,Nat.pow_succ] at f b;refine⟨qP d (Nat.mod_lt _ (by omega)),by omega,by omega, ?_⟩;rw[Dg.vl_append];simp only[Dg.vl,List.length_append,List.length_cons,List.length_nil,Nat.pow_succ];rw[b];generalize 10^ (9-(j+1))=p at*;have c:g+p*10*m=g % 10+10*(g/10+p*m):=by
  have:=Nat.mod_add_div g 10;rw[Nat.mul_add,Nat.mul_comm p 10,Nat.mul_assoc];omega
 rw[c,Nat.mul_add];simp only[Nat.mul_zero,Nat.add_zero];rw[Nat.mul_assoc];omega
theorem Xq {n m:Nat}{a:List Nat}{g:Nat}(h:Xp n m a 9 g):L5 n a m:=by
 obtain⟨b,e,c,d⟩:=h;have:g=0:=by simpa using c
 subst this;exact⟨b,by simpa using d⟩
theorem TK (a b:Nat)(h:10^a<4294967296^b):a<32*b:=by
 have c:2^a≤10^a:=Nat.pow_le_pow_left (by omega) a;have d:(4294967296:Nat)^b=2^ (32*b):=by rw[Nat.pow_mul]
 rw[d] at h;exact(Nat.pow_lt_pow_iff_right (by omega)).1 (Nat.lt_of_le_of_lt c h)
theorem Xr {n m:Nat}{a:List Nat}{L:Nat}(h:L5 n a m)(b:m≠0)(c:n<4294967296^L):a.length<32*L:=by
 apply TK;have:10^a.length≤10^a.length*m:=Nat.le_mul_of_pos_right _ (by omega);have:=h.2;omega
theorem cE {w:World}{k:IntKind}{e:Nat}(zs:List Nat)(a:Array Value)(b:a=(zs.map (fun n:Nat=>Value.int k (n:Int))).toArray)(d:zs.length≤maxLen):
  Rd (w.alloc (.cells a e)) k (.slice (some ⟨w.heap.size,0,none⟩) zs.length zs.length) zs:=by
 refine⟨_,zs.length,rfl,Nat.le_refl _,d,fun _=>⟨w.heap.size,0,rfl,fun i c=> ?_⟩⟩
 rw[World.cell?_alloc_at _ _ _ _ rfl,b,Nat.zero_add];simp only[List.getElem?_toArray];exact j9 k zs i c
theorem zA (x y c:Nat)(w:World)(h:x<4294967296)(i:y<4294967296)(g:c≤1):
  yC 160 #[.int .u32 x,.int .u32 y,.int .u32 c] w fun e w'=>e= .returned (.tuple #[.int .u32 ((x+4294967296-y-c) % 4294967296:Nat),.int .u32 ((brw x y c:Nat):Int)])∧w'=w:=by
 have j:=NE x y c h i g;have k: ¬IntKind.u32.signed=true:=by decide
 have a:(((x:Int)-(y:Int)) % 4294967296-(c:Int)) % 4294967296=(((x+4294967296-y-c) % 4294967296:Nat):Int):=by omega
 obtain⟨d,b⟩: ∃d,(x+4294967296-y-c) % 4294967296=d:=⟨_,rfl⟩;rw[b] at a⊢;have f:Hid _:=a;clear a b
 go_enter func160,ntmps160
 go_wp2
 go_ret2
 exact⟨by rw[←f.out];rfl,rfl⟩
theorem jF (J K:Value)(xs a:List Nat)(w:World)(N:Rd w .u32 J xs)(O:Rd w .u32 K a)(H:Dg.Small 4294967296 xs)(I:Dg.Small 4294967296 a)(na:Dg.Norm xs)(nb:Dg.Norm a):
  yC 47 #[J,K] w (yR w (yi (dm (Dg.vl 4294967296 xs) (Dg.vl 4294967296 a)))):=by
 obtain⟨ao,ca,rfl,Q,R,u⟩:=N;obtain⟨bo,cb,rfl,a1,S,D⟩:=O;unfold maxLen at R S;obtain⟨r,l⟩: ∃r,dm (Dg.vl 4294967296 xs) (Dg.vl 4294967296 a)=r:=⟨_,rfl⟩;have c:=AM (xs.length:Int) (a.length:Int) w
 by_cases B:xs.length<a.length
 ·have U:=Dg.vl_lt_of_len 4294967296 (by omega) xs a H nb B
  rw[gX (by omega)] at l;subst l;rw[gX (by omega)] at c;rw[gX (by omega)]
  go_enter func47,ntmps47
  go_wp2_with fail
  refine c.mono ?_;rintro e w' ⟨rfl,rfl⟩
  go_wp2
  go_ret
  exact⟨rfl,Below.refl _ _⟩
 ·by_cases C:a.length<xs.length
  ·have U:=Dg.vl_lt_of_len 4294967296 (by omega) a xs I na C
   rw[sO (by omega)] at c;rw[sO (by omega)];clear l
   go_enter func47,ntmps47
   go_wp2_with fail
   refine c.mono ?_;rintro e w' ⟨rfl,rfl⟩
   go_wp2
   go_ret
   exact⟨rfl,Below.refl _ _⟩
  ·have q:xs.length=a.length:=by omega
   rw[q,Bh] at c;rw[l];have A:Hid _:=l;have n:Hid _:=q;rw[q] at Q u⊢;clear l q B C
   go_enter func47,ntmps47
   go_wp2_with fail
   refine c.mono ?_;rintro e w' ⟨rfl,rfl⟩;clear c
   go_wp2
   go_loopw [6] (fun z wr=> ∃k:Nat,k≤a.length∧z=yi ((k:Int)-1)∧Hid (∀j,k≤j→xs.getD j 0=a.getD j 0)∧Below w'.heap.size w' wr) (fun z _=>(intOf z+1).toNat)
   case atStart=>exact⟨a.length,Nat.le_refl _,rfl,fun j o=>by rw[Dg.getD_of_le xs j (by rw[n.out];exact o),Dg.getD_of_le a j o],Below.refl _ _⟩
   case round=>
    obtain⟨k,hk,rfl,p,g⟩:=hrel
    by_cases P:k=0
    ·subst P
     have G:=Dg.eq_of_all xs a n.out (fun j=>p j (by omega))
     have T:r=0:=by rw[←A.out,G,Bh]
     subst T;clear G
     go_wp2
     go_ret
     exact⟨rfl,g⟩
    ·obtain⟨m,rfl⟩: ∃m,k=m+1:=⟨k-1,by omega⟩
     obtain⟨b,a3,rfl,E⟩:=u (by omega);obtain⟨b2,a4,rfl,F⟩:=D (by omega);have W:=cell_later g (E m (by omega));have Z:=cell_later g (F m (by omega));have d:xs.getD m 0<a.getD m 0→dm (Dg.vl 4294967296 xs) (Dg.vl 4294967296 a)= -1:=fun h=>
      gX (by have:=Dg.vl_lt_of_digit 4294967296 xs a m n.out (by rw[n.out];omega) p h H;omega)
     have f:a.getD m 0<xs.getD m 0→dm (Dg.vl 4294967296 xs) (Dg.vl 4294967296 a)=1:=fun h=>
      sO (by have:=Dg.vl_lt_of_digit 4294967296 a xs m n.out.symm (by omega) (fun j o=>(p j o).symm) h I;omega)
     rw[A.out] at d f;obtain⟨x,s⟩: ∃x,xs.getD m 0=x:=⟨_,rfl⟩;obtain⟨y,t⟩: ∃y,a.getD m 0=y:=⟨_,rfl⟩;have L:Hid _:=s;have M:Hid _:=t;rw[s] at W d f;rw[t] at Z d f;clear s t E F u D;have i:=fun wx=>RF (x:Int) (y:Int) wx
     have a2:((m+1:Nat):Int)-1=(m:Int):=by omega
     by_cases Y:x<y
     ·have v:=d Y
      subst v;rw[gX (by omega)] at i;clear d f
      go_wp2
      go_quiet ((go_at_call 90;exact Calls.quiet_of_same (i _)))
      go_wp2
      go_ret
      exact⟨rfl,aL g _⟩
     ·by_cases a0:y<x
      ·have v:=f a0
       subst v;rw[sO (by omega)] at i;clear d f
       go_wp2
       go_quiet ((go_at_call 90;exact Calls.quiet_of_same (i _)))
       go_wp2
       go_ret
       exact⟨rfl,aL g _⟩
      ·have X:x=y:=by omega
       subst X;rw[Bh] at i;clear d f
       go_wp2
       go_quiet ((go_at_call 90;exact Calls.quiet_of_same (i _)))
       go_wp2
       go_roundw
       case rel=>exact⟨m,by omega,by go_num,fun j o=>by
        by_cases e:j=m
        ·rw[e];exact L.out.trans M.out.symm
        ·exact p j (by omega),aL g _⟩
       case measure=>simp[intOf]
theorem fm (I J:Value)(xs a:List Nat)(w:World)(M:Rd w .i64 I xs)(N:Rd w .i64 J a)(G:Dg.Small 65536 xs)(H:Dg.Small 65536 a)(na:Dg.Norm xs)(nb:Dg.Norm a):
  yC 23 #[I,J] w (yR w (yi (dm (Dg.vl 65536 xs) (Dg.vl 65536 a)))):=by
 obtain⟨ao,ca,rfl,P,Q,p⟩:=M;obtain⟨bo,cb,rfl,a1,R,B⟩:=N;unfold maxLen at Q R
 by_cases z:xs.length<a.length
 ·have U:=Dg.vl_lt_of_len 65536 (by omega) xs a G nb z
  rw[gX (by omega)];have S:((xs.length:Int) != (a.length:Int))=true:=by rw[bne_iff_ne];omega
  go_enter func23,ntmps23
  go_wp2
  go_ret
  exact⟨rfl,Below.refl _ _⟩
 ·by_cases A:a.length<xs.length
  ·have U:=Dg.vl_lt_of_len 65536 (by omega) a xs H na A
   rw[sO (by omega)];have S:((xs.length:Int) != (a.length:Int))=true:=by rw[bne_iff_ne];omega
   go_enter func23,ntmps23
   go_wp2
   go_ret
   exact⟨rfl,Below.refl _ _⟩
  ·have q:xs.length=a.length:=by omega
   obtain⟨r,s⟩: ∃r,dm (Dg.vl 65536 xs) (Dg.vl 65536 a)=r:=⟨_,rfl⟩;rw[s];have v:Hid _:=s;have g:Hid _:=q;rw[q] at P p⊢;clear s q z A
   go_enter func23,ntmps23
   go_wp2
   go_loopw [5] (fun u wr=> ∃k:Nat,k≤a.length∧u=yi ((k:Int)-1)∧Hid (∀j,k≤j→xs.getD j 0=a.getD j 0)∧yB w wr) (fun u _=>(intOf u+1).toNat)
   case atStart=>exact⟨a.length,Nat.le_refl _,rfl,fun j i=>by rw[Dg.getD_of_le xs j (by rw[g.out];exact i),Dg.getD_of_le a j i],Below.refl _ _⟩
   case round=>
    obtain⟨k,hk,rfl,l,f⟩:=hrel
    by_cases O:k=0
    ·subst O
     have E:=Dg.eq_of_all xs a g.out (fun j=>l j (by omega))
     have T:r=0:=by rw[←v.out,E,Bh]
     subst T;clear E
     go_wp2
     go_ret
     exact⟨rfl,f⟩
    ·obtain⟨m,rfl⟩: ∃m,k=m+1:=⟨k-1,by omega⟩
     obtain⟨b,a2,rfl,C⟩:=p (by omega);obtain⟨b2,a3,rfl,D⟩:=B (by omega);have W:=cell_later f (C m (by omega));have Z:=cell_later f (D m (by omega));have c:xs.getD m 0<a.getD m 0→dm (Dg.vl 65536 xs) (Dg.vl 65536 a)= -1:=fun h=>
      gX (by have:=Dg.vl_lt_of_digit 65536 xs a m g.out (by rw[g.out];omega) l h G;omega)
     have d:a.getD m 0<xs.getD m 0→dm (Dg.vl 65536 xs) (Dg.vl 65536 a)=1:=fun h=>
      sO (by have:=Dg.vl_lt_of_digit 65536 a xs m g.out.symm (by omega) (fun j i=>(l j i).symm) h H;omega)
     rw[v.out] at c d;obtain⟨x,n⟩: ∃x,xs.getD m 0=x:=⟨_,rfl⟩;obtain⟨y,o⟩: ∃y,a.getD m 0=y:=⟨_,rfl⟩;have K:Hid _:=n;have L:Hid _:=o;rw[n] at W c d;rw[o] at Z c d;clear n o C D p B;have F:((m+1:Nat):Int)-1=(m:Int):=by omega
     rw[F];clear F
     by_cases Y:x<y
     ·have t:=c Y
      subst t;clear c d
      go_wp2
      go_quiet (fail)
      go_wp2
      go_ret
      exact⟨rfl,aL f _⟩
     ·by_cases a0:y<x
      ·have t:=d a0
       subst t;clear c d
       go_wp2
       go_quiet (fail)
       go_wp2
       go_quiet (fail)
       go_wp2
       go_ret
       exact⟨rfl,aL (aL f _) _⟩
      ·have X:x=y:=by omega
       subst X;clear c d
       go_wp2
       go_quiet (fail)
       go_wp2
       go_quiet (fail)
       go_wp2
       go_roundw
       case rel=>exact⟨m,by omega,by go_num,fun j i=>by
        by_cases e:j=m
        ·rw[e];exact K.out.trans L.out.symm
        ·exact l j (by omega),aL f _⟩
       case measure=>simp[intOf]
theorem Un (x:Int)(w:World)(b:0≤x)(c:x≤4294967295):
  yC 77 #[.int .u32 x] w fun e w'=>e= .returned (yi (bitLen x.toNat:Nat))∧w'=w:=by
 go_enter func77,ntmps77
 go_wp2
 all_goals try (exfalso;have f:=Lib.len8tab_size;omega)
 all_goals (go_ret;refine⟨congrArg Ending.returned (congrArg (Value.int IntKind.i64) ?_),rfl⟩)
 all_goals simp only[X4]
 ·exact qz 24 _ x.toNat (by have:=bitLen_shift x.toNat 24 (by omega);rw[this];congr 2;omega) (by omega)
 ·exact qz 16 _ x.toNat (by have:=bitLen_shift x.toNat 16 (by omega);rw[this];congr 2;omega) (by omega)
 ·exact qz 8 _ x.toNat (by have:=bitLen_shift x.toNat 8 (by omega);rw[this];congr 2;omega) (by omega)
 ·have d:=bitLen_le8 x.toNat (by omega)
  have a:=IntWalk.wrap64_in ((bitLen x.toNat:Nat):Int) ⟨by omega,by omega⟩;rw[a,a]
theorem IK (x:Nat)(w:World)(h:x<4294967296):
  yC 77 #[.int .u32 x] w fun e w'=>e= .returned (yi (bitLen x:Nat))∧w'=w:=by
 have:=Un x w (by omega) (by omega);rw[Int.toNat_natCast] at this;exact this
theorem Y9 {xs b:List Nat}{a P Q k v:Nat}(h:abK xs b a P Q k)(i:k<xs.length-a)(g:v=xs.getD (a+k) 0/P+xs.getD (a+k+1) 0 % P*Q):abK xs (b.set k v) a P Q (k+1):=by
 obtain⟨d,f⟩:=h;refine⟨by simpa using d,fun j=> ?_⟩
 rw[Dg.getD_set _ _ _ _ (by omega)]
 by_cases e:k=j
 ·subst e;rw[if_pos rfl,if_pos (by omega)];exact g
 ·rw[if_neg e,f j]
  by_cases c:j<k
  ·rw[if_pos c,if_pos (by omega)]
  ·rw[if_neg c,if_neg (by omega)]
theorem XR (P Q:Nat)(l:List Nat)(k:Nat)(h:k<l.length):(low P Q l).take (k+1)=(low P Q l).take k++[l.getD k 0/P+l.getD (k+1) 0 % P*Q]:=by
 rw[Dg.take_succ' _ k (by rw[mA];exact h),Gb P Q l k h]
theorem Ug (P Q:Nat)(l:List Nat)(a:P*Q=65536)(f:Dg.Small 65536 l):Dg.Small 65536 (low P Q l):=by
 intro j
 by_cases d:j<l.length
 ·rw[Gb P Q l j d]
  have b:0<P:=by
   rcases Nat.eq_zero_or_pos P with e|e
   ·subst e;simp at a
   ·exact e
  have g:l.getD j 0/P<Q:=by rw[Nat.div_lt_iff_lt_mul b,Nat.mul_comm,a];exact f j
  have c:(l.getD (j+1) 0 % P+1)*Q≤P*Q:=Nat.mul_le_mul_right _ (Nat.mod_lt _ b);rw[Nat.add_mul,a] at c;omega
 ·rw[Dg.getD_of_le _ _ (by rw[mA];omega)];omega
theorem Zx (l:List Nat)(k t m:Nat)(o:k<l.length)(h: ∀j,j<k→l.getD j 0=0)(n:l.getD k 0=2^t*(2*m+1))(q:t<32):tz (Dg.vl 4294967296 l)=32*k+t:=by
 have a:=Dg.vl_split 4294967296 l k o;have g:Dg.vl 4294967296 (l.take k)=0:=Dg.vl_zeros 4294967296 (l.take k) (fun i=>by
  by_cases b:i<k
  ·have:=h i b
   simpa[List.getD_eq_getElem?_getD,List.getElem?_take,b] using this
  ·simp[List.getD_eq_getElem?_getD,List.getElem?_take,b])
 rw[g,n,Nat.zero_add] at a;obtain⟨u,p⟩: ∃u,Dg.vl 4294967296 (l.drop (k+1))=u:=⟨_,rfl⟩;rw[p] at a;have f:(4294967296:Nat)=2^t*(2*2^ (31-t)):=by
  have:(4294967296:Nat)=2^ (t+(1+(31-t))):=by rw[show t+(1+(31-t))=32 from by omega]
  rw[this,Nat.pow_add,Nat.pow_add,Nat.pow_one]
 have d:(2:Nat)^ (32*k)=4294967296^k:=by rw[Nat.pow_mul]
 refine F8 (m:=m+2^ (31-t)*u) ?_;rw[a,Nat.pow_add,d,Nat.mul_assoc]
 congr 1
 generalize 2^ (31-t)=c at*;have e:4294967296*u=2^t*(2*(c*u)):=by rw[f];simp only[Nat.mul_assoc]
 rw[e,←Nat.mul_add]
 congr 1
 omega
theorem li (s:ByteArray)(i:Nat)(h:i<s.size): ∀w,(Instr.index 9 (.string s) (yi i)).run Tryz.prog w= .ok (.int .u8 ((byt s i:Nat):Int)) w:=by
 intro w;rw[run_index_string w 9 s .i64 i underlying9,dif_pos ⟨by omega,by omega⟩];have:=KD s i h;simp only[Int.toNat_natCast];rw[this]
theorem au.ne {w:World}{b c:Nat}{d tz:TypeId}{i f:List Value}(h:au w b d i)(g:au w c tz f)(a:i≠f∨d≠tz):c≠b:=fun e=>by
 subst e;unfold au at h g;rw[h] at g;simp only[Option.some.injEq,Obj.cells.injEq] at g
 rcases a with a|a
 ·exact a (by simpa using congrArg Array.toList g.1)
 ·exact a g.2.1
theorem QY (l:List Nat)(k t m:Nat)(o:k<l.length)(h: ∀j,j<k→l.getD j 0=0)(n:l.getD k 0=2^t*(2*m+1))(q:t<16):tz (Dg.vl 65536 l)=16*k+t:=by
 have a:=Dg.vl_split 65536 l k o;have g:Dg.vl 65536 (l.take k)=0:=Dg.vl_zeros 65536 (l.take k) (fun i=>by
  by_cases b:i<k
  ·have:=h i b
   simpa[List.getD_eq_getElem?_getD,List.getElem?_take,b] using this
  ·simp[List.getD_eq_getElem?_getD,List.getElem?_take,b])
 rw[g,n,Nat.zero_add] at a;obtain⟨u,p⟩: ∃u,Dg.vl 65536 (l.drop (k+1))=u:=⟨_,rfl⟩;rw[p] at a;have f:(65536:Nat)=2^t*(2*2^ (15-t)):=by
  have:(65536:Nat)=2^ (t+(1+(15-t))):=by rw[show t+(1+(15-t))=16 from by omega]
  rw[this,Nat.pow_add,Nat.pow_add,Nat.pow_one]
 have d:(2:Nat)^ (16*k)=65536^k:=by rw[Nat.pow_mul]
 refine F8 (m:=m+2^ (15-t)*u) ?_;rw[a,Nat.pow_add,d,Nat.mul_assoc]
 congr 1
 generalize 2^ (15-t)=c at*;have e:65536*u=2^t*(2*(c*u)):=by rw[f];simp only[Nat.mul_assoc]
 rw[e,←Nat.mul_add]
 congr 1
 omega
theorem XC (x:Nat)(w:World)(h:x<4294967296):yC 132 #[.int .u32 x] w fun e w'=>e= .returned (yi ((32-bitLen x:Nat):Int))∧w'=w:=by
 have a:=IK x w h;have c:=bF x 32 (by omega);obtain⟨l,b⟩: ∃l,bitLen x=l:=⟨_,rfl⟩;rw[b] at a c⊢;clear b
 go_enter func132,ntmps132
 go_wp2_with fail
 refine a.mono ?_;rintro e w' ⟨rfl,rfl⟩
 go_wp2
 go_ret
 exact⟨by go_num,rfl⟩
def GsR (w:World)(g at0 top d1 d0 p0:Nat)(gv rv:Value)(wr:World):Prop:=
 ∃(t r:Nat),gv= .int .u64 t∧rv= .int .u64 r∧Hid (GsI top d1 d0 p0 t r)∧r<4294967296∧t≤4294967297∧wr.cell? ⟨g,at0,none⟩=some (.int .u32 p0)∧yB w wr
theorem V7 (a:List Nat)(s:Nat)(f:Dg.Small 4294967296 a)(l:Dg.Norm a)(c:2≤a.length)(t:s=32-bitLen (a.getD (a.length-1) 0)):
  s<32∧2147483648*4294967296^ (a.length-1)≤Dg.vl 4294967296 a*2^s∧Dg.vl 4294967296 a*2^s<4294967296^a.length:=by
 have k:a.getD (a.length-1) 0≠0:=l (by intro e;rw[e] at c;simp at c);have u:=f (a.length-1);have b:=Dg.vl_split 4294967296 a (a.length-1) (by omega);have j:=Dg.vl_lt 4294967296 (a.take (a.length-1)) (Dg.small_take f _ (by omega));rw[List.length_take,Nat.min_eq_left (by omega)] at j;rw[show a.length-1+1=a.length from by omega,List.drop_length] at b
 simp only[Dg.vl,Nat.mul_zero,Nat.add_zero] at b;generalize a.getD (a.length-1) 0=y at*;generalize Dg.vl 4294967296 (a.take (a.length-1))=d at*;have⟨h1,h2,h3⟩:=uB y k;have r:=bF y 32 (by omega);have p:2^ (bitLen y-1)*2^s=2147483648:=by rw[←Nat.pow_add,show bitLen y-1+s=31 from by omega]
 have q:2^bitLen y*2^s=4294967296:=by rw[←Nat.pow_add,show bitLen y+s=32 from by omega]
 have i:(4294967296:Nat)^a.length=4294967296^ (a.length-1)*4294967296:=by rw[←Nat.pow_succ,show(a.length-1).succ=a.length from by omega]
 have m:2^ (bitLen y-1)*2^s≤y*2^s:=Nat.mul_le_mul_right _ h2;have n:(y+1)*2^s≤2^bitLen y*2^s:=Nat.mul_le_mul_right _ h3;refine⟨by omega, ?_, ?_⟩
 ·rw[b,Nat.add_mul,Nat.mul_assoc]
  have:4294967296^ (a.length-1)*2147483648≤4294967296^ (a.length-1)*(y*2^s):=Nat.mul_le_mul_left _ (by omega);rw[Nat.mul_comm 2147483648];omega
 ·rw[b,i]
  have g:(d+4294967296^ (a.length-1)*y)<4294967296^ (a.length-1)*(y+1):=by rw[Nat.mul_add,Nat.mul_one];omega
  have h:(d+4294967296^ (a.length-1)*y)*2^s<4294967296^ (a.length-1)*(y+1)*2^s:=Nat.mul_lt_mul_of_pos_right g (Nat.pow_pos (by omega));rw[Nat.mul_assoc (4294967296^ (a.length-1)) (y+1)] at h;have o:4294967296^ (a.length-1)*((y+1)*2^s)≤4294967296^ (a.length-1)*4294967296:=Nat.mul_le_mul_left _ (by omega);omega
theorem tY (R D L G:Int)(gr:Bool)(w:World):
  yC 154 #[ygV R D L G gr] w (yR w (yi (xg R))):=by
 have a:=af w (.cells (ygA R D L G gr) 193);unfold xg
 by_cases h:R=16
 ·rw[if_pos h]
  subst h
  go_enter func154,ntmps154
  go_wp2
  go_ret
  exact⟨rfl,a⟩
 ·rw[if_neg h]
  have e:(R==16)=false:=by simp;exact h
  go_enter func154,ntmps154
  go_wp2
  go_ret
  exact⟨rfl,a⟩
theorem FE (R D L G:Int)(gr:Bool)(a:Int)(w:World)(F:1≤D)(H:D≤120)(N: -1000000≤a)(O:a≤1000000):
  yC 175 #[ygV R D L G gr,yi a] w (yR w (yi (aT R D a))):=by
 have j:=af w (.cells (ygA R D L G gr) 193);have p:=ah w (ygL R D L G gr) 193;have h:Hid (yJ 154 #[ygV R D L G gr] (yi (xg R))):=fun s=>tY R D L G gr s
 have x:=eN R;have f:=Qd a (ai R) (by omega);unfold aT;rw[jf] at h;obtain⟨d,o⟩: ∃k,ai R=k:=⟨_,rfl⟩;rw[o] at h x f⊢;have J:((d:Int)==0)=false:=by simp;omega
 have K: ¬(d:Int)=0:=by omega
 have A: -1000000≤a.tdiv d∧a.tdiv d≤1000000:=by
  have:=Int.natAbs_tdiv_le_natAbs a d;omega
 have r: -1000004≤a.tdiv d*d∧a.tdiv d*d≤1000004:=by
  have e:=Int.tmod_add_mul_tdiv a d;have E:(d:Int)*a.tdiv d=a.tdiv d*d:=Int.mul_comm _ _;have M:=Int.tmod_lt_of_pos a (b:=(d:Int)) (by omega);have y:=Int.tmod_lt_of_pos (-a) (b:=(d:Int)) (by omega);rw[Int.neg_tmod] at y;omega
 obtain⟨q,v⟩: ∃q,a.tdiv d=q:=⟨_,rfl⟩;rw[v] at f A r;obtain⟨m,u⟩: ∃m,q*(d:Int)=m:=⟨_,rfl⟩;rw[u] at f r;have P:IntKind.i64.wrap q=q:=IntWalk.i64_in _ ⟨by omega,by omega⟩;have s:IntKind.i64.wrap m=m:=IntWalk.i64_in _ ⟨by omega,by omega⟩;have Q:IntKind.i64.wrap (D-1)=D-1:=IntWalk.i64_in _ ⟨by omega,by omega⟩;clear o
 by_cases n:a<m
 ·rw[f.1 n]
  have S:IntKind.i64.wrap (q-1)=q-1:=IntWalk.i64_in _ ⟨by omega,by omega⟩;have C:IntKind.i64.wrap (q-1-(D-1))=q-1-(D-1):=IntWalk.i64_in _ ⟨by omega,by omega⟩;clear f
  go_enter func175,ntmps175
  go_wp2_with fail
  refine(h.out _).mono ?_;rintro z B ⟨rfl,g⟩;have i:=aa j g;have t:=(p.l g).c 1 rfl
  go_wp2
  go_ret
  exact⟨rfl,i⟩
 ·rw[f.2 n]
  have I:decide (a<m)=false:=by simp;omega
  have C:IntKind.i64.wrap (q-(D-1))=q-(D-1):=IntWalk.i64_in _ ⟨by omega,by omega⟩;clear f
  go_enter func175,ntmps175
  go_wp2_with fail
  refine(h.out _).mono ?_;rintro z B ⟨rfl,g⟩;have i:=aa j g;have t:=(p.l g).c 1 rfl
  go_wp2
  go_ret
  exact⟨rfl,i⟩
theorem oP {a L:Nat}(h:(Dg.dg 4294967296 a).length≤L):bitLen a≤32*L:=by
 refine bF a _ ?_;rw[Nat.pow_mul];have b:=Dg.vl_lt 4294967296 _ (Dg.small_dg 4294967296 a (by omega));rw[Dg.vl_dg _ _ (by omega)] at b;exact Nat.lt_of_lt_of_le b (Nat.pow_le_pow_right (by omega) h)
def Fk (w:World)(t:fz)(e:Ending)(w':World):Prop:=
 ∃v,e= .returned (ypV t.s v t.p t.ex t.ov t.un)∧Own w' w.heap.size 105 .u32 v (Dg.dg 4294967296 t.d)∧yB w w'
theorem BC (N M a b:Nat)(r:N≠0)(i:M≠0):M*2^b≤N*2^a↔(b:Int)≤dY N M 0+a:=by
 obtain⟨u,p,q⟩:=uB N r;obtain⟨t,n,o⟩:=uB M i;obtain⟨d,k⟩: ∃d,bitLen N=d:=⟨_,rfl⟩;obtain⟨e,j⟩: ∃e,bitLen M=e:=⟨_,rfl⟩;have m:dY N M 0=0+(((d:Int)-(e:Int))-(if eZ N (-((d:Int)-(e:Int)))/dX M (-((d:Int)-(e:Int)))=0 then 1 else 0)):=by
  unfold dY;rw[k,j]
 rw[k] at u p q;rw[j] at t n o;have low:M*2^ (d-1)≤N*2^e:=by
  rw[Nat.mul_comm];exact Nat.mul_le_mul p (Nat.le_of_lt o)
 have s: ¬M*2^d≤N*2^ (e-1):=by
  have v:N*2^ (e-1)<2^d*2^ (e-1):=Nat.mul_lt_mul_of_pos_right q (bG _);have w:2^d*2^ (e-1)≤M*2^d:=by
   rw[Nat.mul_comm (2^d)];exact Nat.mul_le_mul_right _ n
  omega
 have l:eZ N (-((d:Int)-(e:Int)))/dX M (-((d:Int)-(e:Int)))=0↔ ¬M*2^ (d-e)≤N*2^ (e-d):=by
  rw[fw,eM,show(-((d:Int)-(e:Int))).toNat=e-d by omega,show(-(-((d:Int)-(e:Int)))).toNat=d-e by omega,Nat.div_eq_zero_iff]
  have:=Nat.mul_pos (Nat.pos_of_ne_zero i) (bG (d-e));omega
 by_cases f:eZ N (-((d:Int)-(e:Int)))/dX M (-((d:Int)-(e:Int)))=0
 ·rw[if_pos f] at m
  have g:=l.1 f
  constructor
  ·intro h
   refine Decidable.byContradiction fun c=>g (DS h ?_)
   omega
  ·intro h
   exact DS low (by omega)
 ·rw[if_neg f] at m
  have g:M*2^ (d-e)≤N*2^ (e-d):=Decidable.byContradiction fun c=>f (l.2 c)
  constructor
  ·intro h
   refine Decidable.byContradiction fun c=>s (DS h ?_)
   omega
  ·intro h
   exact DS g (by omega)
theorem Ho {P:Program}{w:World}{base e:Nat}{k:IntKind}{v u:Value}{xs a:List Nat}(t r:Nat)(i:TypeInfo)(d:Nat)(m:P.underlying t=some (.slice e))(h:P.info? e=some i)
  (I:i.zero=some (.int k 0)) (E:i.size=1) (z:i.bytes=d) (x:d≤8)
  (l:Own w base e k v xs) (D:Rd w k u a) (B:xs.length+a.length≤3000000) (y:base≤w.heap.size):
  ∃c w',(Builtin.append_ #[t,t] r #[v,u]).run P w= .ok c w'∧Own w' base e k c (xs++a)∧w.grownBy w' v.ownBlock:=by
 obtain⟨s,cap,rfl,O,Q,o⟩:=D
 cases s with
 |none=>
  have G:a.length=0:=by
   rcases Nat.eq_zero_or_pos a.length with e|e
   ·exact e
   ·obtain⟨b,J,f,_⟩:=o e;cases f
  have H:a=[]:=List.length_eq_zero_iff.1 G;subst H;refine⟨v,w, ?_,by rw[List.append_nil];exact l,ib _ _⟩
  rcases l.2 with⟨rfl,_⟩| ⟨g,cap',N,rfl,_,_,C,_⟩
  ·simp[Builtin.append_,run_underlying m,sizeOf,typeInfo,h,Builtin.lenOf,Builtin.firstCells]
  ·simp[Builtin.append_,run_underlying m,sizeOf,typeInfo,h,Builtin.lenOf,Builtin.firstCells,C,storeCells]
 |some ad=>
  obtain⟨c,w',K,L,M,_⟩:=run_append_own (P:=P) (w:=w) base t r e i (.int k 0) 1 d m h I E z rfl (by omega) v xs.length _ l ad a.length cap (a.map (fun n:Nat=>Value.int k (n:Int))) (by simp) (fun j u p=>by
    have q:j<a.length:=by
     have:=(List.getElem?_eq_some_iff.1 p).1
     simpa using this
    obtain⟨b,J,f,A⟩:=o (by omega)
    cases f
    rw[rO,A j q];rw[←p,j9 k a j q]) (fun u F=>by
    obtain⟨n,_,rfl⟩:=List.mem_map.1 F;rfl) (by unfold maxLen;omega) (Nat.le_trans (Nat.mul_le_mul (show xs.length+a.length≤3000000 from B) x) (by omega)) y
  exact⟨c,w',K,by unfold Own;rw[List.map_append,List.length_append];exact L,M⟩
theorem Wm {rs:List Nat}(h:Dg.Small 65536 rs)(n j:Nat):sJ rs n j<65536^j:=by
 induction j with
 |zero=>simp[sJ]
 |succ j ih=>
  have:=h (n-j);simp only[sJ,Nat.pow_succ];omega
def GT (w:World)(t:fz)(e:Ending)(w':World):Prop:=
 ∃v,e= .returned (ypV t.s v t.p t.ex t.ov t.un)∧Rd w' .i64 v (Dg.dg 65536 t.d)∧yB w w'
theorem TH (x:Int)(w:World)(b:0≤x)(c:x≤4294967295):
  yC 131 #[.int .u64 x] w fun e w'=>e= .returned (yi (bitLen x.toNat:Nat))∧w'=w:=by
 go_enter func131,ntmps131
 go_wp2
 all_goals try (exfalso;have f:=Lib.len8tab_size;omega)
 all_goals (go_ret;refine⟨congrArg Ending.returned (congrArg (Value.int IntKind.i64) ?_),rfl⟩)
 all_goals simp only[X4]
 ·exact qz 24 _ x.toNat (by have:=bitLen_shift x.toNat 24 (by omega);rw[this];congr 2;omega) (by omega)
 ·exact qz 16 _ x.toNat (by have:=bitLen_shift x.toNat 16 (by omega);rw[this];congr 2;omega) (by omega)
 ·exact qz 8 _ x.toNat (by have:=bitLen_shift x.toNat 8 (by omega);rw[this];congr 2;omega) (by omega)
 ·have d:=bitLen_le8 x.toNat (by omega)
  have a:=IntWalk.wrap64_in ((bitLen x.toNat:Nat):Int) ⟨by omega,by omega⟩;rw[a,a]
theorem LZ (k:Nat)(w:World)(h:k≤4294967295):
  yC 87 #[.int .u64 k] w fun e w'=>e= .returned (yi (bitLen k:Nat))∧w'=w:=by
 have a:=TH k w (by omega) (by omega);rw[Int.toNat_natCast] at a;have H:Hid _:=a;clear a
 go_enter func87,ntmps87
 go_wp2_with fail
 refine Calls.mono H.out ?_;rintro e w' ⟨rfl,rfl⟩
 go_wp2
 go_ret
 exact⟨rfl,rfl⟩
theorem zU (s:ByteArray):Dg.Small 256 (jr s):=by
 intro i;unfold jr;simp only[List.getD_eq_getElem?_getD,List.getElem?_map]
 cases h:s.data.toList[i]? with
 |none=>simp
 |some b=>simpa using b.toNat_lt
def pv (s:ByteArray):Nat→Nat
 |0=>0
 |k+1=>pv s k*10+(byt s k-48)
theorem EE (a:ak):(bare a).n=0↔a.n=0:=by
 by_cases h:a.n=0
 ·unfold bare
  rw[if_pos h];exact⟨fun _=>h,fun _=>rfl⟩
 ·unfold bare
  rw[if_neg h];obtain⟨m,c⟩:=fO h;have:=lI c;exact⟨fun b=>by simp only at b;omega,fun b=>absurd b h⟩
theorem O9 {a t:ak}(e:bare a=t)(h:t.n=0):t.s=false∧t.e=0:=by
 subst e;have b:=(EE a).1 h;unfold bare;rw[if_pos b];exact⟨rfl,rfl⟩
theorem fS (zs : List Nat) : (cF zs).size = zs.length := by
 unfold cF
 show (zs.map (fun n => UInt8.ofNat n)).toArray.size = _
 simp
def ji (k:Nat)(ng:Bool)(E FF:Nat):ak:=
 if k=3 then(if E+1=2^exN k∨0<E∧FF<2^ (dgN k-1) then⟨false,0,0⟩ else bare ⟨ng,FF,wdI (rdN k)*(lsI k+(((E-1:Nat):Nat):Int))⟩)
 else if k≤2 then(if E+1=2^exN k then⟨false,0,0⟩ else bare ⟨ng,FF+(if 0<E then 2^ (dgN k-1) else 0),wdI (rdN k)*(lsI k+(((E-1:Nat):Nat):Int))⟩)
 else if k≤5 then bare ⟨ng,FF,wdI (rdN k)*(lsI k+(E:Int))⟩
 else(if E=0 then⟨false,0,0⟩ else bare ⟨ng,FF+2^ (dgN k-1),wdI (rdN k)*(lsI k+(E:Int)-1)⟩)
theorem ut.trans {J K:Int}{i d k e l f:Nat}{a b c:Int}(h:ut J i d a k e b)(g:ut K k e b l f c):ut (max J K) i d a l f c:=fun j q=>by
 obtain⟨m,n⟩:=h j (by omega);obtain⟨o,p⟩:=g j (by omega);exact⟨m.trans o,n.trans p⟩
theorem ut.mono {J K:Int}{e c f d:Nat}{a b:Int}(h:ut J e c a f d b)(i:J≤K):ut K e c a f d b:=fun j g=>h j (by omega)
theorem decS_le {n k:Nat}(h:n<10^k)(a:1≤k):(oW n).size≤k:=by
 unfold oW
 split
 ·exact a
 ·rw[fS,List.length_reverse,List.length_map]
  exact Dg.dg_len_le 10 n k (by omega) h
def dcG (x:ak):Int:=pbV ((bitLen x.n:Int)-1+x.e)
def dcW (x:ak):Nat:=scA x.n x.e (60-dcG x)/scB x.e (60-dcG x)
def dcL (x:ak):Bool:=decide (0< (Dg.dg 4294967296 (scA x.n x.e (60-dcG x) % scB x.e (60-dcG x))).length)
def dcH (x:ak):Nat:=if dcL x=true then dcW x*2+1 else dcW x*2
def dcC (x:ak):Nat:=(oW (dcW x)).size
def dcP (x:ak):Int:=dcG x+(dcC x:Int)-1-60
theorem dc_in {x:ak}(d:x.n<2^64)(k: -16500≤x.e)(h:x.e≤16500)(i:x.n≠0):(-5000≤dcG x∧dcG x≤5000)∧(∃c,c=36964∧dcW x<2^c)∧dcC x≤36964:=by
 have l:=bF x.n 64 d;have m:=Gq i;have j: -5000≤dcG x∧dcG x≤5000:=pb_in (by omega) (by omega);obtain⟨a,g⟩: ∃a,a=64:=⟨_,rfl⟩;obtain⟨c,b⟩: ∃c,c=36964:=⟨_,rfl⟩;rw[←g] at d;have f:dcW x<2^c:=Nat.lt_of_le_of_lt (Nat.div_le_self _ _) (sc_in g b d h (n:=60-dcG x) (by omega)).1;refine⟨j,⟨c,b,f⟩, ?_⟩;rw[←b];exact decS_le (Nat.lt_of_lt_of_le f (Nat.pow_le_pow_left (by omega) c)) (by omega)
theorem dc_many {x:ak}(E:x.n<2^64)(F: -16500≤x.e)(G:x.e≤16500)(j:x.n≠0):10^60≤dcW x:=by
 have H:=bF x.n 64 E;have I:=Gq j;have y:2^ (bitLen x.n-1)≤x.n:=(uB x.n j).2.1;obtain⟨b,C⟩: ∃b,bitLen x.n-1=b:=⟨_,rfl⟩;rw[C] at y;have D:(bitLen x.n:Int)-1+x.e=(b:Int)+x.e:=by omega
 have h:=pb_key (n:=(b:Int)+x.e) (by omega) (by omega);have B:dcG x=pbV ((b:Int)+x.e):=by unfold dcG;rw[D]
 unfold dcW;rw[B];have w:=pb_in (n:=(b:Int)+x.e) (by omega) (by omega);generalize pbV ((b:Int)+x.e)=g at h w⊢;obtain⟨d,m⟩: ∃k,g.toNat=k:=⟨_,rfl⟩;obtain⟨a,o⟩: ∃k,(-g).toNat=k:=⟨_,rfl⟩;obtain⟨f,p⟩: ∃k,((b:Int)+x.e).toNat=k:=⟨_,rfl⟩;obtain⟨nm,q⟩: ∃k,(-((b:Int)+x.e)).toNat=k:=⟨_,rfl⟩;rw[m,o,p,q] at h;unfold scA scB;rw[Nat.le_div_iff_mul_le (Nat.mul_pos (Nat.pow_pos (by omega)) (Nat.pow_pos (by omega)))];obtain⟨up,s⟩: ∃k,(60-g).toNat=k:=⟨_,rfl⟩;obtain⟨um,t⟩: ∃k,(-(60-g)).toNat=k:=⟨_,rfl⟩;obtain⟨i,u⟩: ∃k,(x.e+(60-g)).toNat=k:=⟨_,rfl⟩;obtain⟨tm,v⟩: ∃k,(-(x.e+(60-g))).toNat=k:=⟨_,rfl⟩;rw[s,t,u,v];refine Nat.le_trans ?_ (Nat.mul_le_mul_right _ (Nat.mul_le_mul_right _ y));have z:60+um+a=up+d:=by omega
 have A:60+tm+f+a=b+i+d+nm:=by omega
 clear m o p q s t u v w;refine Nat.le_of_mul_le_mul_right (c:=2^f*10^a) (Nat.le_trans (Nat.le_of_eq ?_) (Nat.mul_le_mul_left _ h)) (Nat.mul_pos (Nat.pow_pos (by omega)) (Nat.pow_pos (by omega)));rw[ten_parts 60,ten_parts a,ten_parts d];have l:2^60*5^60*(5^um*2^tm)*(2^f*(2^a*5^a))=2^ (60+tm+f+a)*5^ (60+um+a):=by
  simp only[Nat.pow_add]
  ac_rfl
 have r:2^b*5^up*2^i*(2^d*5^d*2^nm)=2^ (b+i+d+nm)*5^ (up+d):=by
  simp only[Nat.pow_add]
  ac_rfl
 rw[l,r,z,A]
def prN (H C:Nat)(P:Int)(k:Nat):Int:=if k< (oW (prQ H C k)).size then P+1 else P
theorem decS_one (n:Nat):1≤(oW n).size:=by
 unfold oW
 split
 ·exact Nat.le_refl _
 ·rename_i h
  rw[fS,List.length_reverse,List.length_map]
  rcases Nat.eq_zero_or_pos (Dg.dg 10 n).length with c|c
  ·exact absurd ((Dg.dg_nil_iff 10 _ (by omega)).1 (List.length_eq_zero_iff.1 c)) h
  ·exact c
theorem decS_big {W:Nat}:W<10^ (oW W).size:=by
 unfold oW
 split
 ·rename_i h
  subst h;exact Nat.pow_pos (by omega)
 ·rw[fS,List.length_reverse,List.length_map]
  have:=Dg.vl_lt 10 (Dg.dg 10 W) (Dg.small_dg _ _ (by omega));rw[Dg.vl_dg _ _ (by omega)] at this;exact this
theorem dc_all {x:ak}(f:x.n<2^64)(a: -16500≤x.e)(b:x.e≤16500)(d:x.n≠0):dcH x<2*10^dcC x∧dcC x≤37000∧60≤dcC x∧ -100000≤dcP x∧dcP x≤100000:=by
 obtain⟨⟨j,k⟩,-,l⟩:=dc_in f a b d;have h:dcW x<10^dcC x:=decS_big;have i:=dc_many f a b d;have g:60≤dcC x:=by
  rcases Nat.lt_or_ge (dcC x) 60 with c|c
  ·exact absurd (Nat.lt_of_lt_of_le h (Nat.pow_le_pow_right (by omega) (Nat.le_of_lt c))) (Nat.not_lt_of_le i)
  ·exact c
 refine⟨?_,by omega,g, ?_, ?_⟩
 ·unfold dcH
  split<;>omega
 ·unfold dcP
  omega
 ·unfold dcP
  omega
theorem strOf_size8 (l:List Nat):(cF l).size=l.length:=by simp[cF,ByteArray.size]
theorem EY (c:Nat)(l:List Nat):cF [c]++cF l=cF (c::l):=by
 apply ByteArray.ext;simp[cF]
theorem EZ (l:List Nat)(a:Nat):(cF l).extract a (cF l).size=cF (l.drop a):=by
 apply ByteArray.ext;rw[strOf_size8,ByteArray.data_extract];simp[cF,List.map_drop];exact List.take_of_length_le (by simp)
theorem Cj (l:List Nat)(i:Nat)(h:i< (cF l).size)(b: ∀j,l.getD j 0<256):((cF l)[i]'h).toNat=l.getD i 0:=by
 have a:i<l.length:=by rw[strOf_size8] at h;exact h
 have:=b i;simp only[List.getD_eq_getElem?_getD,List.getElem?_eq_getElem a,Option.getD_some] at this⊢
 show((cF l).data[i]).toNat=_
 simp[cF,Nat.mod_eq_of_lt this]
theorem IB {n b:Nat}{a:List Nat}(g:L5 n a 0)(u:b+1≤a.length)(s: ∀i,i<b→a.getD (a.length-1-i) 0=0)(c:b+1=a.length∨a.getD (a.length-1-b) 0≠0):
  cF ((txt a).drop b)=oW n:=by
 have k:=g.2;simp only[Nat.mul_zero,Nat.add_zero] at k;have q:(txt a).drop b=txt (a.take (a.length-b)):=by
  unfold txt;rw[List.drop_reverse];simp[List.map_take]
 have d: ∀i,a.length-b≤i→a.getD i 0=0:=fun i j=>by
  by_cases h:i<a.length
  ·have:=s (a.length-1-i) (by omega)
   rwa [show a.length-1-(a.length-1-i)=i from by omega] at this
  ·exact Dg.getD_of_le _ _ (by omega)
 rw[q];unfold oW
 by_cases f:n=0
 ·rw[if_pos f]
  have o: ∀i,a.getD i 0=0:=by
   rcases c with c|c
   ·have m:Dg.vl 10 a=0:=by omega
    have l:=Dg.vl_take_drop 10 a 1 (by omega);have t:Dg.vl 10 (a.take 1)=0:=by omega
    have p:=Dg.vl_take_succ 10 a 0 (by omega);simp only[Dg.vl,List.take_zero,Nat.zero_add,Nat.pow_zero,Nat.one_mul] at p;intro i
    by_cases j:i=0
    ·subst j;omega
    ·exact d i (by omega)
   ·exfalso
    have l:=Dg.trim_eq 10 (by omega) a (a.length-b) g.1 (by omega) d (fun _=>by rw[show a.length-b-1=a.length-1-b from by omega];exact c)
    rw[show Dg.vl 10 a=0 from by omega,Dg.dg_zero] at l
    have:=congrArg List.length l;simp at this;omega
  rcases c with c|c
  ·have m:a.length-b=1:=by omega
   rw[m,show a.take 1=[0] from ?_]
   ·rfl
   ·rw[Dg.take_succ' a 0 (by omega),o 0];rfl
  ·exact absurd (o _) c
 ·rw[if_neg f]
  have r:a.getD (a.length-b-1) 0≠0:=by
   rcases c with c|c
   ·intro e
    apply f;rw[k];refine Dg.vl_zeros 10 a (fun i=> ?_)
    by_cases j:i<a.length-b
    ·rw[show i=a.length-b-1 from by omega];exact e
    ·exact d i (by omega)
   ·rwa [show a.length-b-1=a.length-1-b from by omega]
  rw[Dg.trim_eq 10 (by omega) a (a.length-b) g.1 (by omega) d (fun _=>r),←k]
  rfl
def afk (w:World)(L n m:Nat)(av sv:Value)(wr:World):Prop:=
 ∃(ds:List Nat) (S:ByteArray),Rd wr .i64 av (Dg.dg 65536 m)∧sv= .string S∧Hid (S=cF (txt ds))∧L5 n ds m∧ds.length≤16*L∧(Dg.dg 65536 m).length≤L∧yB w wr
theorem decS_low {W:Nat}(h:W≠0):10^ ((oW W).size-1)≤W:=by
 unfold oW;rw[if_neg h,fS,List.length_reverse,List.length_map];have:=Dg.vl_ge 10 (Dg.dg 10 W) (fun c=>h ((Dg.dg_nil_iff 10 _ (by omega)).1 c)) (Dg.norm_dg _ _ (by omega))
 rwa [Dg.vl_dg _ _ (by omega)] at this
def dgS (x:ak)(k:Nat):ByteArray:=if k< (oW (prQ (dcH x) (dcC x) k)).size then(oW (prQ (dcH x) (dcC x) k)).extract 0 k else oW (prQ (dcH x) (dcC x) k)
theorem spD_dig (l:List UInt8): ∀b∈(spD l).1,isDg b=true:=by
 induction l with
 |nil=>intro b a;exact absurd a List.not_mem_nil
 |cons c r ih=>
  unfold spD
  split
  ·rename_i h
   intro b a
   rcases List.mem_cons.1 a with rfl|a
   ·exact h
   ·exact ih b a
  ·intro b a
   exact absurd a List.not_mem_nil
theorem nuE_nil {d:List UInt8}{p:Int}(a:d≠[]):nuE d p []=some (d,p):=if_neg a
theorem nuE_bad {d:List UInt8}{p:Int}(r:List UInt8)(h:r≠[])(a:r.head? ≠some 101):nuE d p r=none:=by
 cases r with
 |nil=>exact absurd rfl h
 |cons b r=>
  unfold nuE;exact if_pos (Or.inr fun e=>a (by rw[e];rfl))
theorem nuE_none {p:Int}(r:List UInt8):nuE [] p r=none:=by
 cases r with
 |nil=>rfl
 |cons b r=>
  unfold nuE;exact if_pos (Or.inl rfl)
theorem nuL_pt {l x y:List UInt8}{q:List UInt8×List UInt8}(h:spD l=(x,46::y))(a:spD y=q):nuL l=if q.1=[] then none else nuE (x++q.1) (-(q.1.length:Int)) q.2:=by
 subst a;unfold nuL;rw[h];exact if_pos rfl
theorem isDigit_at (s:ByteArray)(k:Nat)(r:List UInt8)(w:World)(h:RestAt s k r)(_:s.size≤1000):
  yC 98 #[.string s,yi k] w fun e w'=>e= .returned (.bool (hdDg r))∧w'=w:=by
 cases r with
 |nil=>
  have i:=rest_nil h
  show Calls _ _ _ _ fun e w'=>e= .returned (.bool false)∧w'=w
  have m: ¬((k:Int)< (s.size:Int)):=by omega
  clear h
  go_enter func98,ntmps98
  go_wp2
  go_ret
  exact⟨rfl,rfl⟩
 |cons b r=>
  obtain⟨i,f,-,-⟩:=rest_cons h
  show Calls _ _ _ _ fun e w'=>e= .returned (.bool (isDg b))∧w'=w
  have g:=li s k i;have d:=Ay s k;rw[f] at g d;unfold isDg;obtain⟨y,j⟩: ∃y,b.toNat=y:=⟨_,rfl⟩;rw[j] at g d⊢;have m:(k:Int)< (s.size:Int):=by omega
  clear j h f
  by_cases a:48≤y
  ·by_cases c:y≤57
   ·rw[decide_eq_true ⟨a,c⟩]
    have l:decide ((y:Int)≤57)=true:=by simp;omega
    go_enter func98,ntmps98
    go_wp2
    go_ret
    exact⟨rfl,rfl⟩
   ·rw[decide_eq_false (fun h=>c h.2)]
    have l:decide ((y:Int)≤57)=false:=by simp;omega
    go_enter func98,ntmps98
    go_wp2
    go_ret
    exact⟨rfl,rfl⟩
  ·rw[decide_eq_false (fun h=>a h.1)]
   go_enter func98,ntmps98
   go_wp2
   go_ret
   exact⟨rfl,rfl⟩
theorem spD_cons {b:UInt8}{r:List UInt8}(h:isDg b=true):spD (b::r)=(b::(spD r).1,(spD r).2):=if_pos h
theorem spD_stop {r:List UInt8}(h:hdDg r=false):spD r=([],r):=by
 cases r with
 |nil=>rfl
 |cons b r=>exact if_neg (by rw[show isDg b=false from h];decide)
def NuOk (s:ByteArray)(g:Bool)(d:ByteArray)(p:Int)(ok:Bool):Prop:=
 (nuL (undash s).data.toList=none∧ok=false)∨ ∃D P,nuL (undash s).data.toList=some (D,P)∧g=dash s∧d=⟨D.toArray⟩∧p=P∧ok=true
def NuAns (s:ByteArray)(w:World)(z:Ending)(w':World):Prop:=w'=w∧ ∃g d p ok,z= .returned (.tuple #[.bool g,.string d,yi p,.bool ok])∧NuOk s g d p ok
def Dgs (L d r:List UInt8):Prop:=spD L=(d++(spD r).1,(spD r).2)
theorem dgs_start (L:List UInt8):Dgs L [] L:=rfl
theorem dgs_next {L d r:List UInt8}{b:UInt8}(h:Dgs L d (b::r))(a:isDg b=true):Dgs L (d++[b]) r:=by
 unfold Dgs at h⊢;rw[h,spD_cons a];simp
theorem dgs_end {L d r:List UInt8}(h:Dgs L d r)(a:hdDg r=false):spD L=(d,r):=by
 unfold Dgs at h;rw[h,spD_stop a];simp
theorem at_is (s:ByteArray)(k:Nat)(b:UInt8)(r:List UInt8)(h:RestAt s k (b::r)): ∀w,(Instr.index 9 (.string s) (yi k)).run Tryz.prog w= .ok (.int .u8 ((b.toNat:Nat):Int)) w:=by
 obtain⟨a,c,-,-⟩:=rest_cons h;have:=li s k a;rw[c] at this;exact this
theorem nuE_at {D:List UInt8}{P:Int}{y v r:List UInt8}{m:Bool}(b:D≠[])(c:decide (y.head? =some 45)=m)(d:spD (if m=true then y.tail else y)=(v,r)):
  nuE D P (101::y)=if v.length<1∨5<v.length∨r≠[] then none else some (D,P+(if m=true then-(lvD v:Int) else(lvD v:Int))):=by
 subst c;have a:nuE D P (101::y)=if D=[]∨(101:UInt8)≠101 then none else
  if(spD (if decide (y.head? =some 45)=true then y.tail else y)).1.length<1∨5< (spD (if decide (y.head? =some 45)=true then y.tail else y)).1.length∨(spD (if decide (y.head? =some 45)=true then y.tail else y)).2≠[] then none else some (D,P+(if decide (y.head? =some 45)=true then-(lvD (spD (if decide (y.head? =some 45)=true then y.tail else y)).1:Int) else(lvD (spD (if decide (y.head? =some 45)=true then y.tail else y)).1:Int))):=rfl
 rw[a,if_neg (fun h=>Or.elim h b (fun e=>e rfl)),d]
theorem nuE_other {D:List UInt8}{P:Int}{r:List UInt8}(a:D≠[])(h:decide (r.head? =some 101)=false):nuE D P r=if r=[] then some (D,P) else none:=by
 by_cases c:r=[]
 ·subst c
  rw[if_pos rfl,nuE_nil a]
 ·rw[if_neg c,nuE_bad r c (of_decide_eq_false h)]
end Go.Proofs.YtlhkndcmbpcpgaaGreatDoor
