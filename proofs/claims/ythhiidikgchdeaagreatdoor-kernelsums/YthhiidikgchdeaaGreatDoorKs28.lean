/- Texts laid together. -/
import Derived.Test.YthhiidikgchdeaaGreatDoorKs12
import Derived.Test.YthhiidikgchdeaaGreatDoorKs15
import Derived.Test.YthhiidikgchdeaaGreatDoorKs20
set_option maxRecDepth 100000
set_option maxHeartbeats 3200000
namespace Go.Proofs.YthhiidikgchdeaaGreatDoor
open _root_.Go.Proofs.Tryz
open Go.RowKit
theorem Ij (v:Value)(t:ak)(b:Int)(up:Bool)(w:World)(hv:Dv w v t)(X:(Dg.dg 4294967296 t.n).length≤200000000)(ae: -4000000000≤t.e)(al:t.e≤4000000000)(ap:1≤b)(aq:b≤20000)(hT:Tab w):
  yC 122 #[v,yi b,.bool up] w (Lx w (aY t b up)):=by
 obtain⟨U,rfl,O⟩:=hv;obtain⟨G,n,e⟩:=t;simp only at O X ae al⊢;have ad:=gf X;have P:Hid (∀r,yB w r→yC 62 #[U] r fun z w'=>z= .returned (yi (bitLen n:Nat))∧w'=r):=fun r g=>by
  have:=kE U _ r (O.l g) (Dg.small_dg _ _ (by omega)) (Dg.norm_dg _ _ (by omega)) (by omega)
  rwa [Dg.vl_dg _ _ (by omega)] at this
 have Q:Hid (∀r,yB w r→yC 117 #[U] r fun z w'=>z= .returned (yi ((if n=0 then 0 else tz n:Nat):Int))∧w'=r):=fun r g=>Gl U n r (O.l g) (by omega) (hT.l g)
 have an:(if n=0 then 0 else tz n:Nat)≤6400000000:=by
  split
  ·omega
  ·have:=gZ n 200000000 X;omega
 have W:Hid (∀(j:Nat) r,j≤40000000000→yB w r→yC 118 #[U,yi (-(j:Int))] r (Num r (n/2^j))):=fun j r Y g=>by
  have:=eO U _ (-(j:Int)) r (O.l g) (Dg.small_dg _ _ (by omega)) (by omega) (by omega) (by omega);rw[Dg.vl_dg _ _ (by omega)] at this;unfold shN at this
  rcases Nat.eq_zero_or_pos j with h|h
  ·subst h
   simpa using this
  ·rw[if_pos (by omega),Int.neg_neg,Int.toNat_natCast] at this
   exact this
 have a6:Hid (∀v1 v2 x r,(Dg.dg 4294967296 x).length≤200000000→Rd r .u32 v1 (Dg.dg 4294967296 x)→Rd r .u32 v2 [1]→yC 109 #[v1,v2] r (Num r (x+1))):=fun v1 v2 x r hl h1 h2=>by
  have:=rj v1 v2 _ _ r h1 h2 (Dg.small_dg _ _ (by omega)) (Dg.small_cons.2 ⟨by omega,Dg.small_nil _ (by omega)⟩) (by omega) (by simp)
  rwa [Dg.vl_dg _ _ (by omega),show Dg.vl 4294967296 [1]=1 from rfl] at this
 have a5:Hid (∀j,(Dg.dg 4294967296 (n/2^j)).length≤200000000):=fun j=>Nat.le_trans (aH 4294967296 _ n (by omega) (Nat.div_le_self _ _)) X
 have a0:Hid (∀(j:Nat),(bitLen n:Int)-b=(j:Int)→ ¬(j:Int)≤((if n=0 then 0 else tz n:Nat):Int)→aY ⟨G,n,e⟩ b up=⟨G,n/2^j+(if(up != G)=true then 1 else 0),e+(j:Int)⟩):=fun j Y R=>by
  unfold aY;simp only;rw[Y,if_neg R,Int.toNat_natCast]
 have a1:Hid ((bitLen n:Int)-b≤((if n=0 then 0 else tz n:Nat):Int)→aY ⟨G,n,e⟩ b up=⟨G,n,e⟩):=fun R=>if_pos R
 have a3:=Dg.norm_dg 4294967296 n (by omega);obtain⟨A,D,rfl⟩:=O.shape;obtain⟨L,a7⟩: ∃L,bitLen n=L:=⟨_,rfl⟩;obtain⟨k,hk⟩: ∃k,(if n=0 then 0 else tz n:Nat)=k:=⟨_,rfl⟩
 rw[a7] at P ad a0 a1;rw[hk] at Q an a0 a1;obtain⟨s,a4⟩: ∃s,Dg.dg 4294967296 n=s:=⟨_,rfl⟩;rw[a4] at O X P Q W a3⊢;have a8:Hid (Dg.dg 4294967296 n=s):=a4;have a9:Hid _:=a3;have ac:Hid (Rd w .u32 (.slice A s.length D) s):=O;have a:=aa (af w (.cells (ydA G (.slice A s.length D) e) 41)) (af _ (.cells (ydA false yN 0) 41));have c:=(aA w (.bool G) (.slice A s.length D) (yi e) 41).l (af _ (.cells (ydA false yN 0) 41));have d:=aA (w.alloc (.cells (ydA G (.slice A s.length D) e) 41)) (.bool false) yN (yi 0) 41;have f:=dI (w.alloc (.cells (ydA G (.slice A s.length D) e) 41)) 41;rw[World.size_alloc] at d f;clear O a7 hk a4 a3
 by_cases R:(L:Int)-b≤(k:Int)
 ·have hcut:=a1.out R
  rw[hcut]
  go_enter func122,ntmps122
  go_wp2_with fail
  refine(cN G A s.length D e _).mono ?_;rintro z r ⟨rfl,g⟩;replace c:=c.l g;replace d:=d.l g;replace f:=f.l g;replace a:=aa a g;clear g
  go_wp2_with fail
  refine(P.out _ a).mono ?_;rintro z w2 ⟨rfl,rfl⟩;obtain⟨-,⟨m,o,p⟩,-⟩:=id c
  go_wp2_with fail
  refine(cN G A s.length D e _).mono ?_;rintro z w3 ⟨rfl,q⟩;replace c:=c.l q;replace d:=d.l q;replace f:=f.l q;replace a:=aa a q;clear q m o p
  go_wp2_with fail
  refine(Q.out _ a).mono ?_;rintro z w4 ⟨rfl,rfl⟩;obtain⟨-,⟨m,o,p⟩,-⟩:=id c;obtain⟨a2,⟨d0,d1,d2⟩,f0,f1,f2⟩:=id d;have M:=aD d (.bool G) (.slice A s.length D) (yi (e));obtain⟨-,⟨I,J,K⟩,-⟩:=M;have N:=gu (ac.out.l a) f a9.out (.bool G) (.slice A s.length D) (yi (e));have i:=am a (show w.heap.size≤w.heap.size+1 by omega) (.bool G) (.slice A s.length D) (yi (e))
  go_wp2
  refine bodyPost_ret (v:=(ydV G (.slice A s.length D) (e))) (by simp[results,results122,go_sem,I,J,K]) rfl ?_;exact⟨_,rfl,by rw[a8.out];exact N,i⟩
 ·obtain⟨j,Y⟩: ∃j:Nat,(L:Int)-b=(j:Int):=⟨((L:Int)-b).toNat,by omega⟩
  rw[Y] at R;have hcut:=a0.out j Y R;have av:j≤6400000000:=by omega
  have ar:IntKind.i64.wrap (e+(j:Int))=e+(j:Int):=IntWalk.i64_in _ ⟨by omega,by omega⟩;clear a0 a1
  cases up
  ·cases G
   ·rw[if_neg (by decide),Nat.add_zero] at hcut
    rw[hcut]
    go_enter func122,ntmps122
    go_wp2_with fail
    refine(cN false A s.length D e _).mono ?_;rintro z r ⟨rfl,g⟩;replace c:=c.l g;replace d:=d.l g;replace f:=f.l g;replace a:=aa a g;clear g
    go_wp2_with fail
    refine(P.out _ a).mono ?_;rintro z w2 ⟨rfl,rfl⟩;obtain⟨-,⟨m,o,p⟩,-⟩:=id c
    go_wp2_with fail
    refine(cN false A s.length D e _).mono ?_;rintro z w3 ⟨rfl,q⟩;replace c:=c.l q;replace d:=d.l q;replace f:=f.l q;replace a:=aa a q;clear q m o p
    go_wp2_with fail
    refine(Q.out _ a).mono ?_;rintro z w4 ⟨rfl,rfl⟩;obtain⟨-,⟨m,o,p⟩,-⟩:=id c
    go_wp2_with fail
    refine(cN false A s.length D e _).mono ?_;rintro z w5 ⟨rfl,B⟩;replace c:=c.l B;replace d:=d.l B;replace f:=f.l B;replace a:=aa a B;clear B m o p
    go_wp2_with fail
    refine(W.out j _ (by omega) a).mono ?_;rintro z T ⟨v6,rfl,H,C⟩;replace c:=c.l C;replace d:=d.l C;replace f:=f.l C;replace a:=aa a C;have y:=H.rd;clear C H;obtain⟨-,⟨m,o,p⟩,-⟩:=id c;obtain⟨F,E,S⟩:=y.shape;subst S
    go_wp2_with fail
    refine(l9 false F (Dg.dg 4294967296 (n/2^j)).length E (e+(j:Int)) _).mono ?_;rintro z w8 ⟨rfl,i⟩;replace d:=d.l i;replace f:=f.l i;replace a:=aa a i;replace y:=y.l i;clear i m o p c;obtain⟨a2,⟨d0,d1,d2⟩,f0,f1,f2⟩:=id d;have M:=aD d (.bool false) (.slice F (Dg.dg 4294967296 (n/2^j)).length E) (yi (e+(j:Int)));obtain⟨-,⟨I,J,K⟩,-⟩:=M;have N:=gu y f (Dg.norm_dg _ _ (by omega)) (.bool false) (.slice F (Dg.dg 4294967296 (n/2^j)).length E) (yi (e+(j:Int)));have i:=am a (show w.heap.size≤w.heap.size+1 by omega) (.bool false) (.slice F (Dg.dg 4294967296 (n/2^j)).length E) (yi (e+(j:Int)))
    go_wp2
    refine bodyPost_ret (v:=(ydV false (.slice F (Dg.dg 4294967296 (n/2^j)).length E) (e+(j:Int)))) (by simp[results,results122,go_sem,I,J,K]) rfl ?_;exact⟨_,rfl,N,i⟩
   ·rw[if_pos (by decide)] at hcut
    rw[hcut]
    go_enter func122,ntmps122
    go_wp2_with fail
    refine(cN true A s.length D e _).mono ?_;rintro z r ⟨rfl,g⟩;replace c:=c.l g;replace d:=d.l g;replace f:=f.l g;replace a:=aa a g;clear g
    go_wp2_with fail
    refine(P.out _ a).mono ?_;rintro z w2 ⟨rfl,rfl⟩;obtain⟨-,⟨m,o,p⟩,-⟩:=id c
    go_wp2_with fail
    refine(cN true A s.length D e _).mono ?_;rintro z w3 ⟨rfl,q⟩;replace c:=c.l q;replace d:=d.l q;replace f:=f.l q;replace a:=aa a q;clear q m o p
    go_wp2_with fail
    refine(Q.out _ a).mono ?_;rintro z w4 ⟨rfl,rfl⟩;obtain⟨-,⟨m,o,p⟩,-⟩:=id c
    go_wp2_with fail
    refine(cN true A s.length D e _).mono ?_;rintro z w5 ⟨rfl,B⟩;replace c:=c.l B;replace d:=d.l B;replace f:=f.l B;replace a:=aa a B;clear B m o p
    go_wp2_with fail
    refine(W.out j _ (by omega) a).mono ?_;rintro z T ⟨v6,rfl,H,C⟩;replace c:=c.l C;replace d:=d.l C;replace f:=f.l C;replace a:=aa a C;have y:=H.rd;clear C H;obtain⟨-,⟨m,o,p⟩,-⟩:=id c;have u:=af T (.cells #[.int .u32 ((1:Nat):Int)] 54);have rn:=cE (w:=T) (k:= .u32) (e:=54) [1] #[.int .u32 ((1:Nat):Int)] rfl (by unfold maxLen;simp);have Z:=a6.out _ _ (n/2^j) _ (a5.out j) (y.l u) rn;replace c:=c.l u;replace d:=d.l u;replace f:=f.l u;replace a:=aa a u;clear u rn y
    go_wp2_with fail
    refine Z.mono ?_;rintro z w7 ⟨v7,rfl,o7,u⟩;replace c:=c.l u;replace d:=d.l u;replace f:=f.l u;replace a:=aa a u;have y:=o7.rd;clear u o7 Z m o p;obtain⟨-,⟨m,o,p⟩,-⟩:=id c;obtain⟨F,E,S⟩:=y.shape;subst S
    go_wp2_with fail
    refine(l9 true F (Dg.dg 4294967296 (n/2^j+1)).length E (e+(j:Int)) _).mono ?_;rintro z w8 ⟨rfl,i⟩;replace d:=d.l i;replace f:=f.l i;replace a:=aa a i;replace y:=y.l i;clear i m o p c;obtain⟨a2,⟨d0,d1,d2⟩,f0,f1,f2⟩:=id d;have M:=aD d (.bool true) (.slice F (Dg.dg 4294967296 (n/2^j+1)).length E) (yi (e+(j:Int)));obtain⟨-,⟨I,J,K⟩,-⟩:=M;have N:=gu y f (Dg.norm_dg _ _ (by omega)) (.bool true) (.slice F (Dg.dg 4294967296 (n/2^j+1)).length E) (yi (e+(j:Int)));have i:=am a (show w.heap.size≤w.heap.size+1 by omega) (.bool true) (.slice F (Dg.dg 4294967296 (n/2^j+1)).length E) (yi (e+(j:Int)))
    go_wp2
    refine bodyPost_ret (v:=(ydV true (.slice F (Dg.dg 4294967296 (n/2^j+1)).length E) (e+(j:Int)))) (by simp[results,results122,go_sem,I,J,K]) rfl ?_;exact⟨_,rfl,N,i⟩
  ·cases G
   ·rw[if_pos (by decide)] at hcut
    rw[hcut]
    go_enter func122,ntmps122
    go_wp2_with fail
    refine(cN false A s.length D e _).mono ?_;rintro z r ⟨rfl,g⟩;replace c:=c.l g;replace d:=d.l g;replace f:=f.l g;replace a:=aa a g;clear g
    go_wp2_with fail
    refine(P.out _ a).mono ?_;rintro z w2 ⟨rfl,rfl⟩;obtain⟨-,⟨m,o,p⟩,-⟩:=id c
    go_wp2_with fail
    refine(cN false A s.length D e _).mono ?_;rintro z w3 ⟨rfl,q⟩;replace c:=c.l q;replace d:=d.l q;replace f:=f.l q;replace a:=aa a q;clear q m o p
    go_wp2_with fail
    refine(Q.out _ a).mono ?_;rintro z w4 ⟨rfl,rfl⟩;obtain⟨-,⟨m,o,p⟩,-⟩:=id c
    go_wp2_with fail
    refine(cN false A s.length D e _).mono ?_;rintro z w5 ⟨rfl,B⟩;replace c:=c.l B;replace d:=d.l B;replace f:=f.l B;replace a:=aa a B;clear B m o p
    go_wp2_with fail
    refine(W.out j _ (by omega) a).mono ?_;rintro z T ⟨v6,rfl,H,C⟩;replace c:=c.l C;replace d:=d.l C;replace f:=f.l C;replace a:=aa a C;have y:=H.rd;clear C H;obtain⟨-,⟨m,o,p⟩,-⟩:=id c;have u:=af T (.cells #[.int .u32 ((1:Nat):Int)] 54);have rn:=cE (w:=T) (k:= .u32) (e:=54) [1] #[.int .u32 ((1:Nat):Int)] rfl (by unfold maxLen;simp);have Z:=a6.out _ _ (n/2^j) _ (a5.out j) (y.l u) rn;replace c:=c.l u;replace d:=d.l u;replace f:=f.l u;replace a:=aa a u;clear u rn y
    go_wp2_with fail
    refine Z.mono ?_;rintro z w7 ⟨v7,rfl,o7,u⟩;replace c:=c.l u;replace d:=d.l u;replace f:=f.l u;replace a:=aa a u;have y:=o7.rd;clear u o7 Z m o p;obtain⟨-,⟨m,o,p⟩,-⟩:=id c;obtain⟨F,E,S⟩:=y.shape;subst S
    go_wp2_with fail
    refine(l9 false F (Dg.dg 4294967296 (n/2^j+1)).length E (e+(j:Int)) _).mono ?_;rintro z w8 ⟨rfl,i⟩;replace d:=d.l i;replace f:=f.l i;replace a:=aa a i;replace y:=y.l i;clear i m o p c;obtain⟨a2,⟨d0,d1,d2⟩,f0,f1,f2⟩:=id d;have M:=aD d (.bool false) (.slice F (Dg.dg 4294967296 (n/2^j+1)).length E) (yi (e+(j:Int)));obtain⟨-,⟨I,J,K⟩,-⟩:=M;have N:=gu y f (Dg.norm_dg _ _ (by omega)) (.bool false) (.slice F (Dg.dg 4294967296 (n/2^j+1)).length E) (yi (e+(j:Int)));have i:=am a (show w.heap.size≤w.heap.size+1 by omega) (.bool false) (.slice F (Dg.dg 4294967296 (n/2^j+1)).length E) (yi (e+(j:Int)))
    go_wp2
    refine bodyPost_ret (v:=(ydV false (.slice F (Dg.dg 4294967296 (n/2^j+1)).length E) (e+(j:Int)))) (by simp[results,results122,go_sem,I,J,K]) rfl ?_;exact⟨_,rfl,N,i⟩
   ·rw[if_neg (by decide),Nat.add_zero] at hcut
    rw[hcut]
    go_enter func122,ntmps122
    go_wp2_with fail
    refine(cN true A s.length D e _).mono ?_;rintro z r ⟨rfl,g⟩;replace c:=c.l g;replace d:=d.l g;replace f:=f.l g;replace a:=aa a g;clear g
    go_wp2_with fail
    refine(P.out _ a).mono ?_;rintro z w2 ⟨rfl,rfl⟩;obtain⟨-,⟨m,o,p⟩,-⟩:=id c
    go_wp2_with fail
    refine(cN true A s.length D e _).mono ?_;rintro z w3 ⟨rfl,q⟩;replace c:=c.l q;replace d:=d.l q;replace f:=f.l q;replace a:=aa a q;clear q m o p
    go_wp2_with fail
    refine(Q.out _ a).mono ?_;rintro z w4 ⟨rfl,rfl⟩;obtain⟨-,⟨m,o,p⟩,-⟩:=id c
    go_wp2_with fail
    refine(cN true A s.length D e _).mono ?_;rintro z w5 ⟨rfl,B⟩;replace c:=c.l B;replace d:=d.l B;replace f:=f.l B;replace a:=aa a B;clear B m o p
    go_wp2_with fail
    refine(W.out j _ (by omega) a).mono ?_;rintro z T ⟨v6,rfl,H,C⟩;replace c:=c.l C;replace d:=d.l C;replace f:=f.l C;replace a:=aa a C;have y:=H.rd;clear C H;obtain⟨-,⟨m,o,p⟩,-⟩:=id c;obtain⟨F,E,S⟩:=y.shape;subst S
    go_wp2_with fail
    refine(l9 true F (Dg.dg 4294967296 (n/2^j)).length E (e+(j:Int)) _).mono ?_;rintro z w8 ⟨rfl,i⟩;replace d:=d.l i;replace f:=f.l i;replace a:=aa a i;replace y:=y.l i;clear i m o p c;obtain⟨a2,⟨d0,d1,d2⟩,f0,f1,f2⟩:=id d;have M:=aD d (.bool true) (.slice F (Dg.dg 4294967296 (n/2^j)).length E) (yi (e+(j:Int)));obtain⟨-,⟨I,J,K⟩,-⟩:=M;have N:=gu y f (Dg.norm_dg _ _ (by omega)) (.bool true) (.slice F (Dg.dg 4294967296 (n/2^j)).length E) (yi (e+(j:Int)));have i:=am a (show w.heap.size≤w.heap.size+1 by omega) (.bool true) (.slice F (Dg.dg 4294967296 (n/2^j)).length E) (yi (e+(j:Int)))
    go_wp2
    refine bodyPost_ret (v:=(ydV true (.slice F (Dg.dg 4294967296 (n/2^j)).length E) (e+(j:Int)))) (by simp[results,results122,go_sem,I,J,K]) rfl ?_;exact⟨_,rfl,N,i⟩
theorem KH (x:Nat)(q:x<18446744073709551616)(w:World):
  yC 65 #[.int .u64 x] w fun z w'=> ∃v,z= .returned v∧Own w' w.heap.size 54 .u32 v (Dg.dg 4294967296 x)∧yB w w':=by
 have o:(x:Int) % 4294967296=((x % 4294967296:Nat):Int):=by omega
 have m:(x:Int)/4294967296=((x/4294967296:Nat):Int):=by omega
 have j:x/4294967296<4294967296:=by omega
 have h:x % 4294967296<4294967296:=Nat.mod_lt _ (by omega);have c:=Nq x;obtain⟨b,g⟩: ∃n,x % 4294967296=n:=⟨_,rfl⟩;obtain⟨a,f⟩: ∃n,x/4294967296=n:=⟨_,rfl⟩;rw[g] at o c h;rw[f] at m c j;have own:Own (w.alloc (.cells #[.int .u32 (b:Int),.int .u32 (a:Int)] 54)) w.heap.size 54 .u32 (.slice (some ⟨w.heap.size,0,none⟩) 2 2) [b,a]:=
  pr (zs:=[b,a]) (heap_alloc_new _ _) (Nat.le_refl _) (by unfold maxLen;simp)
 have p:=jD (some ⟨w.heap.size,0,none⟩) 2 2 [b,a] _ own.rd;have d:Dg.Small 4294967296 [b,a]:=by
  intro i
  match i with
  |0=>exact h
  |1=>exact j
  |i+2=>simp
 have l:=af w (.cells #[.int .u32 (b:Int),.int .u32 (a:Int)] 54);have k:Hid (_∧_):=⟨c,d⟩;have r:(x:Int)<18446744073709551616:=by omega
 clear g f c d
 go_enter func65,ntmps65
 go_wp2_with fail
 refine p.mono ?_;rintro z s ⟨n,rfl,e,rfl⟩
 go_wp2
 go_ret
 obtain⟨c,d⟩:=k.out;refine⟨_,rfl, ?_,l⟩;have:=Dg.trim_eq 4294967296 (by omega) [b,a] n d e.1 e.2.1 e.2.2;rw[c] at this;rw[←this];exact own.take n e.1
theorem whole_W (n:Nat)(w:World)(B:IntKind.u64.wrap n=(n:Int))(b: ∀a,yC 65 #[.int .u64 n] a fun z w'=> ∃v,z= .returned v∧Rd w' .u32 v (Dg.dg 4294967296 n)∧yB a w')
  (c: ∀h g a,yC 64 (ydA false (yT h n g) 0) a (yR a (ydV false (yT h n g) 0))):
  yC 23 #[yi n] w (Lx w ⟨false,n,0⟩):=by
 replace b:Hid _:=b;replace c:Hid _:=c;obtain⟨A,e,q1,p⟩:=cA w (ydL false yN 0) 41;replace e:Hid _:=e
 go_enter func23,ntmps23
 go_upto_region 1 with fail
 rw[e.out];clear e
 go_wp2_with fail
 refine(b.out _).mono ?_;rintro y E ⟨C,rfl,k,i⟩;have q:=q1.l i;have m:=aa p i;obtain⟨h,g,u⟩:=k.shape;subst u;clear q1 p i b
 go_wp2_with fail
 refine(c.out _ _ _).mono ?_;rintro y D ⟨rfl,d⟩;have f:=q.l d;have j:=k.l d;have o:=aa m d;clear q k m d c;have hf:=afy (P:=Tryz.prog) f o (by omega) underlying41 rfl (by kernel_rfl) (.bool false) (yT h n g) (yi 0);have r:Hid (_∧_∧_):=⟨hf.1,hf.2.2.rd j (aX j f (by simp)),hf.2.1⟩;obtain⟨⟨I,J,K⟩,F,G,H⟩:=afA f;clear hf f j o
 go_wp2
 obtain⟨t,x,s⟩:=r.out;exact bodyPost_ret (br results23 rfl t) rfl ⟨_,rfl,x,s⟩
theorem great_none (a b:ak)(j m:Option Addr)(i k:Nat)(x y:ak)(s:Int)(w:World)(ra:Rd w .u32 (yT j a.n i) (Dg.dg 4294967296 a.n))(rb:Rd w .u32 (yT m b.n k) (Dg.dg 4294967296 b.n))(hs:s=0)
  (H1:yJ 21 #[yDV a j i] (ydV false (yT j a.n i) a.e))
  (H2:yJ 21 #[yDV b m k] (ydV false (yT m b.n k) b.e))
  (D: ∀pb L,yB w L→au L pb 41 [.bool false,yT j a.n i,yi a.e,.bool false,yT m b.n k,yi b.e]→Rd L .u32 (yT j a.n i) (Dg.dg 4294967296 a.n)→Rd L .u32 (yT m b.n k) (Dg.dg 4294967296 b.n)→yC 130 #[.slice (some ⟨pb,0,none⟩) 2 2] L (aeT L x y))
  (E: ∀f d L,yB w L→Rd L .u32 (yT f y.n d) (Dg.dg 4294967296 y.n)→yC 24 #[yDV y f d] L (yR L (yi s))):
  yC 129 #[.agg #[.bool a.s,yT j a.n i,yi a.e,.bool b.s,yT m b.n k,yi b.e]] w (yR w (.tuple #[yi 0,.bool false])):=by
 replace H1:Hid _:=H1;replace H2:Hid _:=H2;replace D:Hid _:=D;replace E:Hid _:=E;obtain⟨W3,c8,q1,b2⟩:=cA w [.bool a.s,yT j a.n i,yi a.e,.bool b.s,yT m b.n k,yi b.e] 49;replace c8:Hid _:=c8;have r5:=ra.l b2;have r6:=rb.l b2;clear ra rb
 go_enter func129,ntmps129
 go_upto_region 1 with fail
 rw[c8.out];clear c8
 go_upto_region 1 with fail
 have bl:yB W3 W3.drew:=(Below.refl _ _).drew;have q8:=q1.l bl;have r9:=r5.l bl;have ba:=r6.l bl;have b3:=aa b2 bl;clear q1 r5 r6 b2 bl;refine wp_region_held_drew (S:=fun wq=>au wq w.heap.size 49 [.bool a.s,yT j a.n i,yi a.e,.bool b.s,yT m b.n k,yi b.e]) (by kernel_rfl) q8 (fun N=> ?_)
 generalize W3.drew=a6 at q8 r9 ba b3 N⊢;refine tq 0 (.pointer (some ⟨w.heap.size,0,none⟩)) rfl (fun _ _=>by kernel_rfl) N ?_
 refine tq 1 (yDV a j i) rfl (fun _ d1=>fy 41 (.tmp 5) rfl w.heap.size 0 (by kernel_rfl) _ _ (kY d1 0 3 rfl) underlying41 rfl (by kernel_rfl)) N ?_
 refine tq 3 (.pointer (some ⟨w.heap.size,3,none⟩)) rfl (fun _ _=>by kernel_rfl) N ?_
 refine tq 4 (yDV b m k) rfl (fun _ d1=>fy 41 (.tmp 8) rfl w.heap.size 3 (by kernel_rfl) _ _ (kY d1 3 3 rfl) underlying41 rfl (by kernel_rfl)) N ?_
 refine wpAnyH_ready (rs:=[2,9]) (by kernel_rfl) (by simp) ?_;refine AllReadyH.cons rfl (fun K c=> ?_) (AllReadyH.cons rfl (fun K c=> ?_) AllReadyH.nil)
 ·go_simp
  refine(H1.out _).mono ?_;rintro A av ⟨rfl,bm⟩;have b9:=q8.l bm;have bw:=r9.l bm;have bx:=ba.l bm;have bj:=aa b3 bm;clear q8 r9 ba b3 bm H1;refine c.out _ _ b9 (fun c7=> ?_)
  clear c K;refine wpAnyH_ready (rs:=[5,9]) (by kernel_rfl) (by simp) ?_;refine AllReadyH.cons rfl (fun K c=> ?_) (AllReadyH.cons rfl (fun K c=> ?_) AllReadyH.nil)
  ·go_simp
   refine(H2.out _).mono ?_;rintro A z ⟨rfl,bn⟩;have ad:=b9.l bn;have O:=bw.l bn;have bb:=bx.l bn;have b4:=aa bj bn;clear b9 bw bx bj bn H2;refine c.out _ _ ad (fun cv=> ?_)
   clear c K;refine wpAnyH_ready (rs:=[6,9]) (by kernel_rfl) (by simp) ?_;refine AllReadyH.cons rfl (fun K c=> ?_) (AllReadyH.cons rfl (fun K c=> ?_) AllReadyH.nil)
   ·go_simp
    have G:=af z (.cells #[.bool false,yT j a.n i,yi a.e,.bool false,yT m b.n k,yi b.e] 41);have h:=ah z [.bool false,yT j a.n i,yi a.e,.bool false,yT m b.n k,yi b.e] 41;have cx:w.heap.size≤z.heap.size:=b4.size;have cy:=ad.lt;have d2:=t9 O (Nat.le_refl z.heap.size);have d3:=t9 bb (Nat.le_refl z.heap.size);have p:=ad.l G;have I:=O.l G;have u:=bb.l G;have F:=aa b4 G;refine c.out _ _ p (fun b8=> ?_)
    clear c K;clear ad O bb b4 G;generalize z.alloc (.cells #[.bool false,yT j a.n i,yi a.e,.bool false,yT m b.n k,yi b.e] 41)=t at p h I u F b8⊢;generalize z.heap.size=P at h cx cy d2 d3⊢;refine wpAnyH_ready (rs:=[7,9]) (by kernel_rfl) (by simp) ?_;refine AllReadyH.cons rfl (fun K c=> ?_) (AllReadyH.cons rfl (fun K c=> ?_) AllReadyH.nil)
    ·go_simp
     refine(D.out _ _ F h I u).mono ?_;rintro A be ⟨fs,fx,rfl,ef,cg,cr⟩;have cc:=p.l cr;have cn:=aa F cr;obtain⟨xo,xc,o⟩:=ef.shape;subst o;obtain⟨f,d,o⟩:=cg.shape;subst o;clear p h I u F cr D;refine c.out _ _ cc (fun e7=> ?_)
     clear c K;refine tq 8 (yDV y f d) rfl (fun _ _=>by kernel_rfl) e7 ?_
     refine wpAnyH_ready (rs:=[9]) (by kernel_rfl) (by simp) ?_;refine AllReadyH.cons rfl (fun K c=> ?_) AllReadyH.nil
     go_simp
     have c0:=af be (.cells (ydA false yN 0) 41);have q:=ah be (ydL false yN 0) 41;have f6:w.heap.size≤be.heap.size:=cn.size;have f7:=cc.lt;have ed:=t9 cg (Nat.le_refl be.heap.size);have cd:=cc.l c0;have dq:=cg.l c0;have co:=aa cn c0;refine c.out _ _ cd (fun ea=> ?_)
     clear c K;clear cc ef cg cn c0;generalize be.alloc (.cells (ydA false yN 0) 41)=az at cd q dq co ea⊢;generalize be.heap.size=a2 at q f6 f7 ed⊢;refine wpAnyH_ready (rs:=[10]) (by kernel_rfl) (by simp) ?_;refine AllReadyH.cons rfl (fun K c=> ?_) AllReadyH.nil
     have g:But a2 az (az.setCells a2 0 (yDL y f d)):=de _ _ _ _;have v:az.there a2 0 3:=dD q;have d9:au (az.setCells a2 0 (yDL y f d)) a2 41 (yDL y f d):=q.sets _ rfl;have ds:=g.rd dq (ed);have r:=g.loc cd (by omega);have M:=g.below co (by omega);rw[if_pos (by kernel_rfl)];refine wp_store_mid 41 (.tmp 4) (.tmp 13) rfl a2 0 (yDA y f d) (by kernel_rfl) (by kernel_rfl) v (by kernel_rfl) (by simp[Value.oneCell']) ?_;refine c.out _ _ r (fun a8=> ?_)
     clear c K;clear q dq cd co g v;refine wpAnyH_done (by kernel_rfl) ?_ _;clear N c7 cv b8 e7 ea a8;change Exit.then _ _ _ _ (World.setCells az a2 0 (yDL y f d));generalize World.setCells az a2 0 (yDL y f d)=fj at r d9 ds M⊢;simp only[Act.put,List.getElem_toArray,List.getElem_cons_succ,List.getElem_cons_zero];obtain⟨eo,ep,es⟩:=d9.cs3
     go_wp2_with fail
     refine(E.out _ _ _ M ds).mono ?_;rintro A g3 ⟨rfl,e2⟩;have el:=aa M e2;clear r d9 ds M e2 E eo ep es
     go_wp2
     go_ret2
     exact⟨by simp,el⟩
    ·go_simp
     have B:=af t (.cells (ydA false yN 0) 41);have X:=ah t (ydL false yN 0) 41;have cz:w.heap.size≤t.heap.size:=F.size;have bt:=p.lt;have a9:=h.lt;have d4:=t9 I (Nat.le_refl t.heap.size);have bv:=t9 u (Nat.le_refl t.heap.size);have Y:=p.l B;have q:=h.l B;have ap:=I.l B;have J:=u.l B;have R:=aa F B;refine c.out _ _ Y (fun bs=> ?_)
     clear c K;clear p h I u F B;generalize t.alloc (.cells (ydA false yN 0) 41)=ek at Y q X ap J R bs⊢;generalize t.heap.size=Q at X cz bt a9 d4 bv⊢;refine wpAnyH_ready (rs:=[7]) (by kernel_rfl) (by simp) ?_;refine AllReadyH.cons rfl (fun K c=> ?_) AllReadyH.nil
     go_simp
     refine(D.out _ _ R q ap J).mono ?_;rintro A C ⟨fd,fe,rfl,bz,Z,U⟩;have ae:=Y.l U;have r:=X.l U;have M:=aa R U;obtain⟨xo,xc,o⟩:=bz.shape;subst o;obtain⟨f,d,o⟩:=Z.shape;subst o;clear Y q X ap J R U D;refine c.out _ _ ae (fun a8=> ?_)
     clear c K;refine tq 8 (yDV y f d) rfl (fun _ _=>by kernel_rfl) a8 ?_
     refine wpAnyH_ready (rs:=[10]) (by kernel_rfl) (by simp) ?_;refine AllReadyH.cons rfl (fun K c=> ?_) AllReadyH.nil
     have g:But Q C (C.setCells Q 0 (yDL y f d)):=de _ _ _ _;have v:C.there Q 0 3:=dD r;have al:au (C.setCells Q 0 (yDL y f d)) Q 41 (yDL y f d):=r.sets _ rfl;have ar:=g.rd Z (aX Z r (by simp));have H:=g.loc ae (by omega);have T:=g.below M (by omega);rw[if_pos (by kernel_rfl)];refine wp_store_mid 41 (.tmp 4) (.tmp 13) rfl Q 0 (yDA y f d) (by kernel_rfl) (by kernel_rfl) v (by kernel_rfl) (by simp[Value.oneCell']) ?_;refine c.out _ _ H (fun cw=> ?_)
     clear c K;clear r bz Z ae M g v;refine wpAnyH_done (by kernel_rfl) ?_ _;clear N c7 cv b8 bs a8 cw;change Exit.then _ _ _ _ (World.setCells C Q 0 (yDL y f d));generalize World.setCells C Q 0 (yDL y f d)=ej at H al ar T⊢;simp only[Act.put,List.getElem_toArray,List.getElem_cons_succ,List.getElem_cons_zero];obtain⟨cs,bq,a7⟩:=al.cs3
     go_wp2_with fail
     refine(E.out _ _ _ T ar).mono ?_;rintro A ff ⟨rfl,bp⟩;have cp:=aa T bp;clear H al ar T bp E cs bq a7
     go_wp2
     go_ret2
     exact⟨by simp,cp⟩
   ·go_simp
    have G:=af z (.cells (ydA false yN 0) 41);have h:=ah z (ydL false yN 0) 41;have cx:w.heap.size≤z.heap.size:=b4.size;have cy:=ad.lt;have d2:=t9 O (Nat.le_refl z.heap.size);have d3:=t9 bb (Nat.le_refl z.heap.size);have p:=ad.l G;have I:=O.l G;have u:=bb.l G;have F:=aa b4 G;refine c.out _ _ p (fun b8=> ?_)
    clear c K;clear ad O bb b4 G;generalize z.alloc (.cells (ydA false yN 0) 41)=t at p h I u F b8⊢;generalize z.heap.size=P at h cx cy d2 d3⊢;refine wpAnyH_ready (rs:=[6]) (by kernel_rfl) (by simp) ?_;refine AllReadyH.cons rfl (fun K c=> ?_) AllReadyH.nil
    go_simp
    have B:=af t (.cells #[.bool false,yT j a.n i,yi a.e,.bool false,yT m b.n k,yi b.e] 41);have X:=ah t [.bool false,yT j a.n i,yi a.e,.bool false,yT m b.n k,yi b.e] 41;have cz:w.heap.size≤t.heap.size:=F.size;have bt:=p.lt;have a9:=h.lt;have d4:=t9 I (Nat.le_refl t.heap.size);have bv:=t9 u (Nat.le_refl t.heap.size);have Y:=p.l B;have q:=h.l B;have ap:=I.l B;have J:=u.l B;have R:=aa F B;refine c.out _ _ Y (fun bs=> ?_)
    clear c K;clear p h I u F B;generalize t.alloc (.cells #[.bool false,yT j a.n i,yi a.e,.bool false,yT m b.n k,yi b.e] 41)=ek at Y q X ap J R bs⊢;generalize t.heap.size=Q at X cz bt a9 d4 bv⊢;refine wpAnyH_ready (rs:=[7]) (by kernel_rfl) (by simp) ?_;refine AllReadyH.cons rfl (fun K c=> ?_) AllReadyH.nil
    go_simp
    refine(D.out _ _ R X ap J).mono ?_;rintro A C ⟨fd,fe,rfl,bz,Z,U⟩;have ae:=Y.l U;have r:=q.l U;have M:=aa R U;obtain⟨xo,xc,o⟩:=bz.shape;subst o;obtain⟨f,d,o⟩:=Z.shape;subst o;clear Y q X ap J R U D;refine c.out _ _ ae (fun a8=> ?_)
    clear c K;refine tq 8 (yDV y f d) rfl (fun _ _=>by kernel_rfl) a8 ?_
    refine wpAnyH_ready (rs:=[10]) (by kernel_rfl) (by simp) ?_;refine AllReadyH.cons rfl (fun K c=> ?_) AllReadyH.nil
    have g:But P C (C.setCells P 0 (yDL y f d)):=de _ _ _ _;have v:C.there P 0 3:=dD r;have al:au (C.setCells P 0 (yDL y f d)) P 41 (yDL y f d):=r.sets _ rfl;have ar:=g.rd Z (aX Z r (by simp));have H:=g.loc ae (by omega);have T:=g.below M (by omega);rw[if_pos (by kernel_rfl)];refine wp_store_mid 41 (.tmp 4) (.tmp 13) rfl P 0 (yDA y f d) (by kernel_rfl) (by kernel_rfl) v (by kernel_rfl) (by simp[Value.oneCell']) ?_;refine c.out _ _ H (fun cw=> ?_)
    clear c K;clear r bz Z ae M g v;refine wpAnyH_done (by kernel_rfl) ?_ _;clear N c7 cv b8 bs a8 cw;change Exit.then _ _ _ _ (World.setCells C P 0 (yDL y f d));generalize World.setCells C P 0 (yDL y f d)=ej at H al ar T⊢;simp only[Act.put,List.getElem_toArray,List.getElem_cons_succ,List.getElem_cons_zero];obtain⟨cs,bq,a7⟩:=al.cs3
    go_wp2_with fail
    refine(E.out _ _ _ T ar).mono ?_;rintro A ff ⟨rfl,bp⟩;have cp:=aa T bp;clear H al ar T bp E cs bq a7
    go_wp2
    go_ret2
    exact⟨by simp,cp⟩
  ·go_simp
   have bi:=af av (.cells (ydA false yN 0) 41);have W:=ah av (ydL false yN 0) 41;have f3:w.heap.size≤av.heap.size:=bj.size;have f4:=b9.lt;have fa:=t9 bw (Nat.le_refl av.heap.size);have fb:=t9 bx (Nat.le_refl av.heap.size);have h:=b9.l bi;have dl:=bw.l bi;have bd:=bx.l bi;have ck:=aa bj bi;refine c.out _ _ h (fun e6=> ?_)
   clear c K;clear b9 bw bx bj bi;generalize av.alloc (.cells (ydA false yN 0) 41)=fo at h W dl bd ck e6⊢;generalize av.heap.size=a1 at W f3 f4 fa fb⊢;refine wpAnyH_ready (rs:=[5]) (by kernel_rfl) (by simp) ?_;refine AllReadyH.cons rfl (fun K c=> ?_) AllReadyH.nil
   go_simp
   refine(H2.out _).mono ?_;rintro A ax ⟨rfl,b6⟩;have p:=h.l b6;have a3:=W.l b6;have u:=dl.l b6;have an:=bd.l b6;have cl:=aa ck b6;clear h W dl bd ck b6 H2;refine c.out _ _ p (fun ev=> ?_)
   clear c K;refine wpAnyH_ready (rs:=[6]) (by kernel_rfl) (by simp) ?_;refine AllReadyH.cons rfl (fun K c=> ?_) AllReadyH.nil
   go_simp
   have b0:=af ax (.cells #[.bool false,yT j a.n i,yi a.e,.bool false,yT m b.n k,yi b.e] 41);have ca:=ah ax [.bool false,yT j a.n i,yi a.e,.bool false,yT m b.n k,yi b.e] 41;have bt:w.heap.size≤ax.heap.size:=cl.size;have a9:=p.lt;have d0:=a3.lt;have bv:=t9 u (Nat.le_refl ax.heap.size);have d5:=t9 an (Nat.le_refl ax.heap.size);have q:=p.l b0;have a4:=a3.l b0;have J:=u.l b0;have aq:=an.l b0;have c1:=aa cl b0;refine c.out _ _ q (fun e8=> ?_)
   clear c K;clear p a3 u an cl b0;generalize ax.alloc (.cells #[.bool false,yT j a.n i,yi a.e,.bool false,yT m b.n k,yi b.e] 41)=fp at q a4 ca J aq c1 e8⊢;generalize ax.heap.size=fg at ca bt a9 d0 bv d5⊢;refine wpAnyH_ready (rs:=[7]) (by kernel_rfl) (by simp) ?_;refine AllReadyH.cons rfl (fun K c=> ?_) AllReadyH.nil
   go_simp
   refine(D.out _ _ c1 ca J aq).mono ?_;rintro A bf ⟨ft,g0,rfl,eg,ch,c5⟩;have r:=q.l c5;have a5:=a4.l c5;have e0:=aa c1 c5;obtain⟨xo,xc,o⟩:=eg.shape;subst o;obtain⟨f,d,o⟩:=ch.shape;subst o;clear q a4 ca J aq c1 c5 D;refine c.out _ _ r (fun eb=> ?_)
   clear c K;refine tq 8 (yDV y f d) rfl (fun _ _=>by kernel_rfl) eb ?_
   refine wpAnyH_ready (rs:=[10]) (by kernel_rfl) (by simp) ?_;refine AllReadyH.cons rfl (fun K c=> ?_) AllReadyH.nil
   have g:But a1 bf (bf.setCells a1 0 (yDL y f d)):=de _ _ _ _;have v:bf.there a1 0 3:=dD a5;have da:au (bf.setCells a1 0 (yDL y f d)) a1 41 (yDL y f d):=a5.sets _ rfl;have dt:=g.rd ch (aX ch a5 (by simp));have db:=g.loc r (by omega);have c3:=g.below e0 (by omega);rw[if_pos (by kernel_rfl)];refine wp_store_mid 41 (.tmp 4) (.tmp 13) rfl a1 0 (yDA y f d) (by kernel_rfl) (by kernel_rfl) v (by kernel_rfl) (by simp[Value.oneCell']) ?_;refine c.out _ _ db (fun ey=> ?_)
   clear c K;clear a5 eg ch r e0 g v;refine wpAnyH_done (by kernel_rfl) ?_ _;clear N c7 e6 ev e8 eb ey;change Exit.then _ _ _ _ (World.setCells bf a1 0 (yDL y f d));generalize World.setCells bf a1 0 (yDL y f d)=fk at db da dt c3⊢;simp only[Act.put,List.getElem_toArray,List.getElem_cons_succ,List.getElem_cons_zero];obtain⟨bq,a7,ct⟩:=da.cs3
   go_wp2_with fail
   refine(E.out _ _ _ c3 dt).mono ?_;rintro A g4 ⟨rfl,e3⟩;have em:=aa c3 e3;clear db da dt c3 e3 E bq a7 ct
   go_wp2
   go_ret2
   exact⟨by simp,em⟩
 ·go_simp
  have bh:=af a6 (.cells (ydA false yN 0) 41);have c9:=ah a6 (ydL false yN 0) 41;have f1:w.heap.size≤a6.heap.size:=b3.size;have f2:=q8.lt;have f8:=t9 r9 (Nat.le_refl a6.heap.size);have f9:=t9 ba (Nat.le_refl a6.heap.size);have W:=q8.l bh;have dd:=r9.l bh;have O:=ba.l bh;have cj:=aa b3 bh;refine c.out _ _ W (fun e5=> ?_)
  clear c K;clear q8 r9 ba b3 bh;generalize a6.alloc (.cells (ydA false yN 0) 41)=fn at W c9 dd O cj e5⊢;generalize a6.heap.size=a0 at c9 f1 f2 f8 f9⊢;refine wpAnyH_ready (rs:=[2]) (by kernel_rfl) (by simp) ?_;refine AllReadyH.cons rfl (fun K c=> ?_) AllReadyH.nil
  go_simp
  refine(H1.out _).mono ?_;rintro A g2 ⟨rfl,b5⟩;have h:=W.l b5;have ee:=c9.l b5;have bd:=dd.l b5;have ei:=O.l b5;have dy:=aa cj b5;clear W c9 dd O cj b5 H1;refine c.out _ _ h (fun eu=> ?_)
  clear c K;refine wpAnyH_ready (rs:=[5]) (by kernel_rfl) (by simp) ?_;refine AllReadyH.cons rfl (fun K c=> ?_) AllReadyH.nil
  go_simp
  refine(H2.out _).mono ?_;rintro A ay ⟨rfl,b7⟩;have a3:=h.l b7;have d6:=ee.l b7;have an:=bd.l b7;have dn:=ei.l b7;have cm:=aa dy b7;clear h ee bd ei dy b7 H2;refine c.out _ _ a3 (fun ex=> ?_)
  clear c K;refine wpAnyH_ready (rs:=[6]) (by kernel_rfl) (by simp) ?_;refine AllReadyH.cons rfl (fun K c=> ?_) AllReadyH.nil
  go_simp
  have b1:=af ay (.cells #[.bool false,yT j a.n i,yi a.e,.bool false,yT m b.n k,yi b.e] 41);have cb:=ah ay [.bool false,yT j a.n i,yi a.e,.bool false,yT m b.n k,yi b.e] 41;have a9:w.heap.size≤ay.heap.size:=cm.size;have d0:=a3.lt;have f5:=d6.lt;have d5:=t9 an (Nat.le_refl ay.heap.size);have fc:=t9 dn (Nat.le_refl ay.heap.size);have a4:=a3.l b1;have d7:=d6.l b1;have aq:=an.l b1;have dp:=dn.l b1;have c2:=aa cm b1;refine c.out _ _ a4 (fun e9=> ?_)
  clear c K;clear a3 d6 an dn cm b1;generalize ay.alloc (.cells #[.bool false,yT j a.n i,yi a.e,.bool false,yT m b.n k,yi b.e] 41)=fr at a4 d7 cb aq dp c2 e9⊢;generalize ay.heap.size=fi at cb a9 d0 f5 d5 fc⊢;refine wpAnyH_ready (rs:=[7]) (by kernel_rfl) (by simp) ?_;refine AllReadyH.cons rfl (fun K c=> ?_) AllReadyH.nil
  go_simp
  refine(D.out _ _ c2 cb aq dp).mono ?_;rintro A bg ⟨fv,g1,rfl,eh,ci,c6⟩;have a5:=a4.l c6;have ce:=d7.l c6;have e1:=aa c2 c6;obtain⟨xo,xc,o⟩:=eh.shape;subst o;obtain⟨f,d,o⟩:=ci.shape;subst o;clear a4 d7 cb aq dp c2 c6 D;refine c.out _ _ a5 (fun ec=> ?_)
  clear c K;refine tq 8 (yDV y f d) rfl (fun _ _=>by kernel_rfl) ec ?_
  refine wpAnyH_ready (rs:=[10]) (by kernel_rfl) (by simp) ?_;refine AllReadyH.cons rfl (fun K c=> ?_) AllReadyH.nil
  have g:But a0 bg (bg.setCells a0 0 (yDL y f d)):=de _ _ _ _;have v:bg.there a0 0 3:=dD ce;have H:au (bg.setCells a0 0 (yDL y f d)) a0 41 (yDL y f d):=ce.sets _ rfl;have dv:=g.rd ci (aX ci ce (by simp));have dc:=g.loc a5 (by omega);have c4:=g.below e1 (by omega);rw[if_pos (by kernel_rfl)];refine wp_store_mid 41 (.tmp 4) (.tmp 13) rfl a0 0 (yDA y f d) (by kernel_rfl) (by kernel_rfl) v (by kernel_rfl) (by simp[Value.oneCell']) ?_;refine c.out _ _ dc (fun f0=> ?_)
  clear c K;clear ce eh ci a5 e1 g v;refine wpAnyH_done (by kernel_rfl) ?_ _;clear N e5 eu ex e9 ec f0;change Exit.then _ _ _ _ (World.setCells bg a0 0 (yDL y f d));generalize World.setCells bg a0 0 (yDL y f d)=fl at dc H dv c4⊢;simp only[Act.put,List.getElem_toArray,List.getElem_cons_succ,List.getElem_cons_zero];obtain⟨a7,ct,et⟩:=H.cs3
  go_wp2_with fail
  refine(E.out _ _ _ c4 dv).mono ?_;rintro A g5 ⟨rfl,e4⟩;have en:=aa c4 e4;clear dc H dv c4 e4 E a7 ct et
  go_wp2
  go_ret2
  exact⟨by simp,en⟩
theorem whole_any (n:Nat)(w:World)(h:n<9223372036854775808):yC 23 #[yi n] w (Lx w ⟨false,n,0⟩):=
 whole_W n w (IntWalk.u64_in _ ⟨by omega,by omega⟩) (fun a=>(KH n (by omega) a).mono fun _ _ ⟨v,b,c,d⟩=>⟨v,b,c.rd,d⟩) (fun f e a=>l9 _ _ _ _ _ a)
end Go.Proofs.YthhiidikgchdeaaGreatDoor
