/- Texts laid together. -/
import Derived.Test.YtlhkndcmbpcpgaaGreatDoorXs07
import Derived.Test.YtlhkndcmbpcpgaaGreatDoorXs08
import Derived.Test.YtlhkndcmbpcpgaaGreatDoorXs10
import Derived.Test.YtlhkndcmbpcpgaaGreatDoorXs12
set_option maxRecDepth 100000
set_option maxHeartbeats 12800000
namespace Go.Proofs.YtlhkndcmbpcpgaaGreatDoor
open _root_.Go.Proofs.Tryz
open Go.RowKit
theorem MH (g n cap base:Nat)(zs:List Nat)(w:World)(t:Own w base 5 .u8 (.slice (some ⟨g,0,none⟩) n cap) zs)(H:zs.length≤1000000000):
  yC 83 #[.slice (some ⟨g,0,none⟩) n cap] w fun e w'=>
   e= .returned (.tuple #[])∧Own w' base 5 .u8 (.slice (some ⟨g,0,none⟩) n cap) zs.reverse∧w.grownBy w' (some g):=by
 have z:=t.len;subst z
 go_enter func83,ntmps83
 go_wp2
 go_loopw [2,3] (fun m o wr=> ∃(i:Nat) (a:List Nat),m=yi i∧o=yi ((zs.length:Int)-1-i)∧Own wr base 5 .u8 (.slice (some ⟨g,0,none⟩) zs.length cap) a∧XT zs a i∧w.grownBy wr (some g))
  (fun m o _=>(intOf o+1-intOf m).toNat)
 case atStart=>exact⟨0,zs,rfl,by go_num,t,⟨rfl,by omega,fun k G=>by rw[if_neg (by omega)]⟩,ib _ _⟩
 case round=>
  obtain⟨i,a,rfl,rfl,own,b,gr⟩:=hrel;have C:=b.1;have D:=b.2.1
  by_cases h:i<zs.length-1-i
  ·obtain⟨j,s⟩: ∃j,zs.length-1-i=j:=⟨_,rfl⟩
   have l:(zs.length:Int)-1-i=(j:Int):=by omega
   have u:=own.c i (by omega);have v:=own.c j (by omega);have A:=own.f i;have B:=own.f j;have d:=IJ b h;rw[s] at d h;rw[l];have F:j<zs.length:=by omega
   have p:Hid _:=l;obtain⟨x,q⟩: ∃x,a.getD i 0=x:=⟨_,rfl⟩;obtain⟨y,r⟩: ∃y,a.getD j 0=y:=⟨_,rfl⟩;rw[q] at u d;rw[r] at v d;clear s l q r b
   go_wp2
   go_region
   all_goals go_wp2
   all_goals go_roundw
   case rel=>exact⟨i+1,_,by go_num,by have:=p.out;go_num,(own.store i y).store j x,d,eF (eF gr (bI _ _ _ _)) ((eF (bI _ _ _ _) (vm _ _)))⟩
   case measure=>have:=p.out;simp[intOf];omega
  ·have E: ¬((i:Int)< (zs.length:Int)-1-i):=by omega
   go_wp2
   go_end0
   rw[←MG b h];exact⟨rfl,own,gr⟩
theorem Kv (g n cap base m:Nat)(w:World)(i:Own w base 105 .u32 (.slice (some ⟨g,0,none⟩) n cap) (Dg.dg 4294967296 m))(h:(Dg.dg 4294967296 m).length≤1000000):
  yC 82 #[.slice (some ⟨g,0,none⟩) n cap,.int .u32 1000000000] w fun e w'=>
   ∃qs,e= .returned (.int .u32 ((m % 1000000000:Nat):Int))∧Own w' base 105 .u32 (.slice (some ⟨g,0,none⟩) n cap) qs∧Dg.Small 4294967296 qs∧Dg.vl 4294967296 qs=m/1000000000∧w.grownBy w' (some g):=by
 have:=uG g n cap base (Dg.dg 4294967296 m) 1000000000 w i (Dg.small_dg _ _ (by omega)) (by omega) (by omega) h;rw[Dg.vl_dg _ _ (by omega)] at this;refine Calls.mono this ?_;rintro e w' ⟨qs,a,b,j,c,d,f⟩;exact⟨qs,a,b,c,d,f⟩
def afn (w:World)(L n m:Nat)(lv rv:Value)(wr:World):Prop:=
 ∃ds len,rv= .slice (some ⟨w.heap.size,0,none⟩) len L∧Own wr w.heap.size 105 .u32 (.slice (some ⟨w.heap.size,0,none⟩) len L) (Dg.dg 4294967296 m)∧Own wr (w.heap.size+1) 5 .u8 lv (ds.map (fun d=>48+d))∧L5 n ds m∧yB w wr∧w.heap.size<wr.heap.size∧len≤L∧ds.length≤32*L+9
def afo (w:World)(L n m len base0:Nat)(qs:List Nat)(lv gv jv:Value)(wr:World):Prop:=
 ∃ds j g,gv= .int .u32 ((g:Nat):Int)∧jv=yi ((j:Nat):Int)∧j≤9∧ds.length=base0+j∧g<1000000000∧Own wr w.heap.size 105 .u32 (.slice (some ⟨w.heap.size,0,none⟩) len L) qs∧Own wr (w.heap.size+1) 5 .u8 lv (ds.map (fun d=>48+d))∧Xp n m ds j g∧yB w wr∧w.heap.size<wr.heap.size
theorem Qb {w wr a:World}{L j g:Nat}{qs c:List Nat}{m p:Value}(h:yB w wr)(r:w.heap.size<wr.heap.size)
  (s:Own wr w.heap.size 105 .u32 (.slice (some ⟨w.heap.size,0,none⟩) j L) qs) (o:Own wr (w.heap.size+1) 5 .u8 m (c.map (fun d=>48+d)))
  (i:a.ownsRow (w.heap.size+1) 5 1 p (c.length+1) ((c.map ((fun n:Nat=>Value.int .u8 (n:Int))∘fun d=>48+d))++[.int .u8 (48+(g:Int) % 10)]))
  (f:(wr.alloc (.cells #[.int .u8 (48+(g:Int) % 10)] 5)).grownBy a m.ownBlock):
  Own a w.heap.size 105 .u32 (.slice (some ⟨w.heap.size,0,none⟩) j L) qs∧Own a (w.heap.size+1) 5 .u8 p ((c++[g % 10]).map (fun d=>48+d))∧yB w a∧w.heap.size<a.heap.size:=by
 have b:yB wr (wr.alloc (.cells #[.int .u8 (48+(g:Int) % 10)] 5)):=(Below.refl _ _).alloc (Nat.le_refl _) _;refine⟨(s.l b).keep2 (o.l b) (by omega) f, ?_, ?_, ?_⟩
 ·unfold Own
  have e:(48+(g:Int) % 10)=((48+g % 10:Nat):Int):=by omega
  rw[e] at i
  simpa using i
 ·refine(aa h b).grown f (Nat.le_trans h.size b.size) (fun k q=> ?_)
  have:=(World.ownsRow.lt o k q).1;omega
 ·exact Nat.lt_of_lt_of_le r (Nat.le_trans b.size f.size)
theorem XV {n k:Nat}{a:List Nat}(c:n≠0)(b:n=Dg.vl 10 a)(e:a.take k=Dg.dg 10 (Dg.vl 10 a)):cF (((a.map (fun d=>48+d)).take k).reverse)=oW n:=by
 subst b;unfold oW;rw[if_neg c,←List.map_take,e]
theorem MR (v:Value)(zs:List Nat)(w:World)(h:Rd w .u32 v zs)(J:Dg.Small 4294967296 zs)(I:Dg.Norm zs)(hl:zs.length≤1200):
  yC 42 #[v] w (yR w (.string (oW (Dg.vl 4294967296 zs)))):=by
 obtain⟨ao,ca,rfl⟩:=h.shape
 by_cases E:zs.length=0
 ·obtain rfl:zs=[]:=List.eq_nil_of_length_eq_zero E
  go_enter func42,ntmps42
  go_wp2
  go_ret
  exact⟨rfl,Below.refl _ _⟩
 ·obtain⟨n,H⟩: ∃n,Dg.vl 4294967296 zs=n:=⟨_,rfl⟩
  have F:=Dg.vl_lt 4294967296 zs J;have z:=Dg.vl_ne_zero 4294967296 (by omega) zs (by intro e;subst e;simp at E) I;have a8:Dg.dg 4294967296 n=zs:=by rw[←H];exact Dg.dg_vl _ (by omega) zs J I
  rw[H] at F z⊢;have HZ:Hid _:=a8;have HL:Hid _:=F;obtain⟨i0,x,ar,av,aw⟩:=info_parts Tryz.infoU8;have bh:((zs.length:Int)==0)=false:=by simp;intro e;subst e;simp at E
  clear H a8 F J I;have W:=Bz _ zs w h (by omega)
  go_enter func42,ntmps42
  go_wp2_with fail
  refine W.mono ?_;rintro e w1 ⟨rfl,O,S⟩;clear W
  go_wp2
  go_loopg [3,4] n (fun m N rv wr=>afn w zs.length n m N rv wr)
  case atStart=>
   refine⟨[],zs.length,rfl, ?_,aQ _ _ _ _,⟨Dg.small_nil _ (by omega),by simp[Dg.vl]⟩,S,O.block.2,Nat.le_refl _,by simp⟩;rw[HZ.out];exact O
  case round=>
   clear O S;obtain⟨a,s,rfl,P,b,p,f,r,bd,hdL⟩:=hrel;have y:=P.len
   by_cases G:gk=0
   ·subst G
    have A:=p.2;simp only[Nat.mul_zero,Nat.add_zero] at A;have Z:a≠[]:=by intro e;subst e;exact z A
    have ap:s=0:=by rw[y];rfl
    subst ap;obtain⟨g,cap,rfl,b7,b8⟩:=b.shapeOf (by simpa using Z);have U: ∀k,k<a.length→wr.cell? ⟨g,k,none⟩=some (.int .u8 ((48+a.getD k 0:Nat):Int)):=fun k l=>by
     rw[b.c k (by simpa using l)];simp[List.getD_eq_getElem?_getD,l]
    have Q:Hid _:=A;have ab:Hid _:=U;clear A U y;simp only[List.length_map] at b⊢;have b1:=b.cap
    go_wp2
    go_loop [6] (fun L=> ∃k:Nat,0<k∧k≤a.length∧L=yi k∧Hid (∀i,k≤i→a.getD i 0=0)) (fun L=>(intOf L).toNat)
    case atStart=>exact⟨a.length,List.length_pos_iff.2 Z,Nat.le_refl _,rfl,fun i x=>Dg.getD_of_le _ _ x⟩
    case round=>
     obtain⟨k,ba,l,rfl,K⟩:=hrel;have h1:=ab.out (k-1) (by omega);obtain⟨d,t⟩: ∃d,a.getD (k-1) 0=d:=⟨_,rfl⟩;rw[t] at h1;have b3:d<10:=by rw[←t];exact p.1 _
     have C:Hid _:=t;clear t
     by_cases X:d=0
     ·subst X
      have bb:k≠1:=by
       intro e;subst e;refine z (Q.out.trans (Dg.vl_zeros 10 a (fun i=> ?_)))
       by_cases e:i=0
       ·rw[e];exact C.out
       ·exact K i (by omega)
      go_wp2
      go_round
      case rel=>exact⟨k-1,by omega,by omega,by go_num,fun i x=>by
       by_cases e:i=k-1
       ·rw[e];exact C.out
       ·exact K i (by omega)⟩
      case measure=>simp[intOf];omega
     ·have B:=b.take k (by simpa using l)
      have a5:=MH g k cap (w.heap.size+1) _ wr B (by simp;omega);have be:((48+(d:Int))==48)=false:=by simp;omega
      go_wp2_with fail
      refine a5.mono ?_;rintro e w3 ⟨rfl,ax,gr⟩;have b2:=lQ 153 9 underlying153 underlying5 underlying9 ax;have a7:=Dg.trim_eq 10 (by omega) a k p.1 l K (fun _=>by rw[C.out];exact X)
      have ae:=wX f f.size gr (by omega);have HF:Hid (cF (((a.map (fun d=>48+d)).take k).reverse)=oW n):=XV z Q.out a7
      clear a7 a5
      go_wp2
      go_ret
      exact⟨by rw[←HF.out];rfl,ae⟩
   ·have a2:Dg.dg 4294967296 gk≠[]:=fun e=>G ((Dg.dg_nil_iff _ _ (by omega)).1 e)
    have bf:0<s:=by
     rcases Nat.eq_zero_or_pos s with e|e
     ·exact absurd (List.eq_nil_of_length_eq_zero (by omega)) a2
     ·exact e
    have b4:=Xr p G HL.out;have Y:=Kv w.heap.size s zs.length w.heap.size gk wr P (by omega);have q:=Pd p;have al:gk % 1000000000<1000000000:=Nat.mod_lt _ (by omega);have az:Hid _:=y;clear y a2
    go_wp2_with fail
    refine Y.mono ?_;rintro e w2 ⟨qs,rfl,o,aq,a4,gr⟩;have a9:=b.keep gr (by omega);have T:=wX f f.size gr (Nat.le_refl _);have a6:w.heap.size<w2.heap.size:=Nat.lt_of_lt_of_le r gr.size;have ad:Hid _:=a4;clear Y gr P b f r p a4
    go_wp2
    go_loopw [3,5,20] (fun N gv M wr=>afo w zs.length n (gk/1000000000) s a.length qs N gv M wr) (fun _ _ M _=>(9-intOf M).toNat)
    case atStart=>exact⟨a,0,gk % 1000000000,rfl,rfl,by omega,by omega,al,o,a9,q,T,a6⟩
    case round=>
     clear o a9 q T a6;obtain⟨D,j,g,rfl,rfl,b9,a0,b6,o,b,q,f,r⟩:=hrel
     by_cases hj:j<9
     ·have b5:D.length<32*zs.length+9:=by omega
      have ac:Hid _:=a0;clear a0;have b0:=f.size
      go_wp2_with (at_builtin;refine wpList_append_own _ rfl _ _ 153 rfl (w.heap.size+1) 5 i0 (.int .u8 0) 1 1 underlying153 x ar av aw rfl (by decide) _ _ _ rfl (World.ownsRow.alloc b _) ⟨wr.heap.size,0,none⟩ 1 1 [.int .u8 (48+(g:Int) % 10)] rfl rfl ?c1 ?c2 ?c3 ?c4 ?c5 ?_)
      case c1=>exact cell_one_new _ _ _
      case c2=>intro u hu;simp at hu;subst hu;rfl
      case c3=>simp only[List.length_map];unfold maxLen;omega
      case c4=>simp only[List.length_map];omega
      case c5=>simp;omega
      intro v' w3 a3 a1 _;have R:=Qb f r o b a3 a1;clear a3 a1 o b
      go_wp2
      go_roundw
      case rel=>
       refine⟨D++[g % 10],j+1,g/10,by go_num,by go_num,by omega, ?_,by omega,R.1,R.2.1,TJ q hj,R.2.2.1,R.2.2.2⟩;have:=ac.out;simp;omega
      case measure=>simp[intOf];omega
     ·have an:j=9:=by omega
      subst an;have ay:=o.rd
      go_wp2_with fail
      refine(jD _ _ _ qs _ ay).mono ?_;rintro e w' ⟨k,rfl,l,rfl⟩;have B:=jW 4294967296 (by omega) o aq l;rw[ad.out] at B;have bc:=l.1;have bg:=o.len
      go_wp2
      go_roundg (gk/1000000000)
      case measure=>exact Nat.div_lt_self (by omega) (by omega)
      case rel=>exact⟨D,k,rfl,B,b,Xq q,f,r,by omega,by omega⟩
theorem FJ (N M:Nat)(E:Int)(a:(Dg.dg 4294967296 N).length≤10000)(b:(Dg.dg 4294967296 M).length≤10000)(c: -20000≤E)(d:E≤20000): -340001≤dY N M E∧dY N M E≤340001:=by
 have e:bitLen N≤32*10000:=oP a;have f:bitLen M≤32*10000:=oP b;unfold dY
 split<;>omega
theorem Qg {R D L G:Int}{gr:Bool}{N M:Nat}{E:Int}(e:bk R D L G=0)(f:(Dg.dg 4294967296 N).length≤10000)(g:(Dg.dg 4294967296 M).length≤10000)(c: -20000≤E)(d:E≤20000): -341000≤dj R D L gr N M E∧dj R D L gr N M E≤341000∧ -341000≤(ai R:Int)*dj R D L gr N M E∧(ai R:Int)*dj R D L gr N M E≤341000:=by
 obtain⟨k,a,b,m,n,-,-,-,-⟩:=cB e;obtain⟨i,j⟩:=FJ N M E f g c d;have h:=Bp (R:=R) a b i j;unfold dj
 split
 ·have l:=eN R
  unfold ai
  split<;>omega
 ·exact h
theorem BD (N M:Nat)(n:Int)(j:Nat)(b:N≠0)(a:M≠0):2^j≤eZ N n/dX M n↔(j:Int)≤dY N M 0+n:=by
 rw[fw,eM,Nat.le_div_iff_mul_le (Nat.mul_pos (Nat.pos_of_ne_zero a) (bG _)),←Nat.mul_assoc,Nat.mul_comm (2^j),Nat.mul_assoc,←Nat.pow_add,BC N M _ _ b a];omega
theorem xx (R D k:Int)(N M:Nat)(E:Int)(d:1≤D)(b:N≠0)(a:M≠0):
  bitLen (eZ N (E-(ai R:Int)*k)/dX M (E-(ai R:Int)*k))<ai R*(D-1).toNat+1↔aT R D (dY N M E)<k:=by
 rw[pP,BD N M _ _ b a,qD N M E];unfold aT;obtain⟨t,c⟩: ∃t,dY N M 0=t:=⟨_,rfl⟩;rw[c];unfold ai
 split<;>simp<;>omega
theorem rP (R D L:Int)(gr:Bool)(N M:Nat)(E:Int)(g:1≤D)(d:N≠0)(b:M≠0):cH R D L gr N M E<2^ (ai R*D.toNat):=by
 refine Nat.lt_of_not_le fun c=> ?_
 unfold cH shP at c;rw[BD N M _ _ d b] at c;have a:aT R D (dY N M E)≤dj R D L gr N M E:=by
  unfold dj
  by_cases h:(decide (aT R D (dY N M E)<L)&&gr)=true
  ·rw[if_pos h]
   have:=of_decide_eq_true (Bool.and_eq_true_iff.1 h).1;omega
  ·rw[if_neg h]
   exact Int.le_refl _
 obtain⟨k,e⟩: ∃k,dj R D L gr N M E=k:=⟨_,rfl⟩;rw[e] at c a;rw[qD] at a;obtain⟨t,f⟩: ∃t,dY N M 0=t:=⟨_,rfl⟩;rw[f] at c a;unfold aT ai at a;unfold ai at c
 split at c<;>simp_all<;>omega
theorem Vf (R D L:Int)(gr:Bool)(N M:Nat)(E:Int)(b:1≤D)(e:N≠0)(d:M≠0)(h:dj R D L gr N M E=aT R D (dY N M E)):0<cH R D L gr N M E:=by
 have a: ¬bitLen (cH R D L gr N M E)<ai R*(D-1).toNat+1:=by
  unfold cH shP;rw[h,xx R D _ N M E b e d];omega
 have:cH R D L gr N M E≠0:=by
  intro c;rw[c] at a;simp at a;rw[gP] at a;omega
 omega
theorem Ga (R D L:Int)(gr:Bool)(N M:Nat)(E:Int)(a:1≤D)(c:N≠0)(b:M≠0):ai R*D.toNat<bitLen (cH R D L gr N M E+1)↔cH R D L gr N M E+1=2^ (ai R*D.toNat):=by
 have h:=rP R D L gr N M E a c b;have d:=pP (cH R D L gr N M E+1) (ai R*D.toNat);omega
theorem power10_any (K:Nat)(w:World)(F:K≤6100):yC 95 #[yi K] w (cG w (10^K)):=by
 have B:Hid (∀(m n:Nat) v u g,m≤10^ (2*K)→n≤10^ (2*K)→Rd g .i64 v (Dg.dg 65536 m)→Rd g .i64 u (Dg.dg 65536 n)→yC 52 #[v,u] g (cG g (m*n))):=fun m n v u g G hn h1 h2=>by
  have l1:=ten_len G F;have l2:=ten_len hn F;have:=fN v u _ _ g h1 h2 (Dg.small_dg _ _ (by omega)) (Dg.small_dg _ _ (by omega)) (by omega) (by omega)
  rwa [Dg.vl_dg _ _ (by omega),Dg.vl_dg _ _ (by omega)] at this
 have s:10^K≤10^ (2*K):=Nat.pow_le_pow_right (by omega) (by omega);replace s:Hid _:=s;have O:=af w (.cells #[yi 1] 3);have X:=ah w [yi 1] 3;have C:=af (w.alloc (.cells #[yi 1] 3)) (.cells #[yi 10] 3);have Y:=ah (w.alloc (.cells #[yi 1] 3)) [yi 10] 3;have q:=rd_onE (X.l C);have h:=rd_ten Y;have Q:=aa O C;have y:PwL w K (yi K) (.slice (some ⟨w.heap.size,0,none⟩) 1 1) (.slice (some ⟨(w.alloc (.cells #[yi 1] 3)).heap.size,0,none⟩) 1 1) ((w.alloc (.cells #[yi 1] 3)).alloc (.cells #[yi 10] 3)):=
  ⟨K,1,10,rfl,F,q,h,by omega,by omega,by rw[Nat.one_mul],Q⟩
 simp only[World.size_alloc] at y;replace y:Hid _:=y;clear O X C Y q h Q
 go_enter func95,ntmps95
 go_wp2
 go_loopw [0,3,4] (fun J ov tv wr=>PwL w K J ov tv wr) (fun J _ _ _=>(intOf J).toNat)
 case atStart=>exact y.out
 case round=>
  obtain⟨k,o,t,rfl,a3,i,f,H,A,d,j⟩:=hrel;obtain⟨oo,oc,rfl⟩:=i.shape;obtain⟨uo,uc,rfl⟩:=f.shape
  rcases Nat.eq_zero_or_pos k with rfl|a1
  ·rw[Nat.pow_zero,Nat.mul_one] at d
   subst d
   go_wp2
   go_ret
   exact⟨_,rfl,i,j⟩
  ·obtain⟨Z,N⟩:=pw_small H A a1 d
   have s3:=pw_sq N;have r:o≤10^ (2*K):=Nat.le_trans Z s.out;have W:0<t*t:=Nat.mul_pos A A;have U:0<o*t:=Nat.mul_pos H A;have b:t≤10^ (2*K):=Nat.le_trans N s.out;have R:(k:Int).tdiv 2=((k/2:Nat):Int):=by
    rw[Int.tdiv_eq_ediv_of_nonneg (by omega)];omega
   have S:(k:Int)/2=((k/2:Nat):Int):=by omega
   have T:k/2<k:=by omega
   replace r:Hid _:=r;replace b:Hid _:=b;clear Z N s3
   by_cases I:k % 2=1
   ·have G:(k:Int).tmod 2=1:=by
     rw[Int.tmod_eq_emod_of_nonneg (by omega)];omega
    have a0:(k:Int) % 2=1:=by omega
    have a:=pw_odd d I;replace a:Hid _:=a;clear d I;obtain⟨e,p⟩: ∃x,k/2=x:=⟨_,rfl⟩;rw[p] at R S T a;have a2:IntKind.i64.wrap ((e:Nat):Int)=(e:Int):=IntWalk.i64_in _ ⟨by omega,by omega⟩;clear p
    go_wp2_with fail
    refine Calls.mono (B.out o t _ _ _ r.out b.out i f) ?_;rintro z g ⟨v1,rfl,q,D⟩;have M:=f.l D;have P:=aa j D;clear i f j D
    go_wp2_with fail
    refine Calls.mono (B.out t t _ _ _ b.out b.out M M) ?_;rintro z w2 ⟨v2,rfl,h,c⟩;have L:=q.l c;have E:=aa P c;clear q M P c r b
    go_wp2
    go_roundw
    case rel=>exact⟨e,o*t,t*t,by go_num,by omega,L,h,U,W,a.out,E⟩
    case measure=>simp[intOf];omega
   ·have G:(k:Int).tmod 2=0:=by
     rw[Int.tmod_eq_emod_of_nonneg (by omega)];omega
    have a0:(k:Int) % 2=0:=by omega
    have a:=pw_even d (by omega);replace a:Hid _:=a;clear d I U;obtain⟨e,p⟩: ∃x,k/2=x:=⟨_,rfl⟩;rw[p] at R S T a;have a2:IntKind.i64.wrap ((e:Nat):Int)=(e:Int):=IntWalk.i64_in _ ⟨by omega,by omega⟩;clear p
    go_wp2_with fail
    refine Calls.mono (B.out t t _ _ _ b.out b.out f f) ?_;rintro z w2 ⟨v2,rfl,h,c⟩;have L:=i.l c;have E:=aa j c;clear i f j c r b
    go_wp2
    go_roundw
    case rel=>exact⟨e,o,t*t,by go_num,by omega,L,h,H,W,a.out,E⟩
    case measure=>simp[intOf];omega
theorem cwrite_true_mg:
  (∀(R D L G n:Int) (gr:Bool) (sz d p:Nat) (F:Nat) (e f:Nat) (s:List Nat) (w:World) (_:1+d+p=8*sz) (_:d≤15) (_:sz≤10) (_:e<65536) (_:f<18446744073709551616) (_:s.length=sz)
  (_: ∀g cap m,ik m g (iS (1+d) p f (iS 1 d e (iS 0 1 1 (List.replicate sz 0))))→yC F #[.slice (some ⟨g,0,none⟩) sz cap] m fun z w'=>z= .returned (.tuple #[])∧ik w' g s∧m.grownBy w' (some g))
  (_:yJ 129 #[ylV R D L G gr sz d n F] (yi p))
  (_: ∀X W,Sem.run Tryz.prog (callFunc F X) W= .ok (.enter F X) W),
  yC 76 #[ylV R D L G gr sz d n F,yfV true e f] w (yR w (.string (cF s))))∧
  (∀(R D L G n:Int) (gr:Bool) (sz d p:Nat) (F:Nat) (e f:Nat) (s:List Nat) (w:World) (_:1+d+p=8*sz) (_:d≤15) (_:sz≤10) (_:e<65536) (_:f<18446744073709551616) (_:s.length=sz)
  (_: ∀g cap m,ik m g (iS (1+d) p f (iS 1 d e (List.replicate sz 0)))→yC F #[.slice (some ⟨g,0,none⟩) sz cap] m fun z w'=>z= .returned (.tuple #[])∧ik w' g s∧m.grownBy w' (some g))
  (_:yJ 129 #[ylV R D L G gr sz d n F] (yi p))
  (_: ∀X W,Sem.run Tryz.prog (callFunc F X) W= .ok (.enter F X) W),
  yC 76 #[ylV R D L G gr sz d n F,yfV false e f] w (yR w (.string (cF s)))):=by
 refine⟨?_, ?_⟩;have _z:Mgk 0:=mgkI 0
 all_goals
  intro R D L G n gr sz d p F e f s w a8 b6 b8 he hf az HT ac HE;have b7:=cD
  first| (rename Mgk 0=>_z;have l0:=(ah w (ylL R D L G gr sz d n F) 93).l (af _ (.cells (yfA true e f) 134)))| (have l0:=(ah w (ylL R D L G gr sz d n F) 93).l (af _ (.cells (yfA false e f) 134)))
  first| (rename Mgk 0=>_z;have m0:=ah (w.alloc (.cells (ylA R D L G gr sz d n F) 93)) (yfL true e f) 134)| (have m0:=ah (w.alloc (.cells (ylA R D L G gr sz d n F) 93)) (yfL false e f) 134)
  first| (rename Mgk 0=>_z;have b0:=aa (af w (.cells (ylA R D L G gr sz d n F) 93)) (af _ (.cells (yfA true e f) 134)))| (have b0:=aa (af w (.cells (ylA R D L G gr sz d n F) 93)) (af _ (.cells (yfA false e f) 134)))
  rw[World.size_alloc] at m0
  first| (rename Mgk 0=>_z;have H2:((w.alloc (.cells (ylA R D L G gr sz d n F) 93)).alloc (.cells (yfA true e f) 134)).heap.size=w.heap.size+2:=by rw[World.size_alloc,World.size_alloc])| (have H2:((w.alloc (.cells (ylA R D L G gr sz d n F) 93)).alloc (.cells (yfA false e f) 134)).heap.size=w.heap.size+2:=by rw[World.size_alloc,World.size_alloc])
  obtain⟨i0,hi,ar,av,o⟩:=info_parts Tryz.infoU8;have an:Hid _:=HT;have ad:Hid _:=ac;clear HT ac;obtain⟨x,y,A,B,C,E,H,I,J⟩:=l0.cs9;obtain⟨t,u,v⟩:=m0.cs3
  go_enter func76,ntmps76
  go_wp2_with (at_make;refine wpList_make_full _ rfl _ _ 153 rfl (w.heap.size+2) 5 i0 (.int .u8 0) 1 underlying153 hi ar av _ _ _ _ sz rfl rfl (by omega) (by omega) ?Z ?b3 (Nat.le_of_eq H2.symm) ?_)
  case Z=>rw[o];omega
  case b3=>unfold maxLen;omega
  intro m ap ao;have r1:=Ev (gL ap);have bg:=(Below.refl _ _).grown ao (Nat.le_refl _) (fun k h=>by cases h)
  have Q:=l0.l bg;have T:=m0.l bg;have O:=aa b0 bg;clear ap ao bg l0 m0 b0 hi ar av o H2 x y A B C E H I J t u v;obtain⟨g,hg⟩: ∃g,w.heap.size+2=g:=⟨_,rfl⟩;have a0:w.heap.size≠g:=by omega
  have a1:w.heap.size+1≠g:=by omega
  have P:w.heap.size≤g:=by omega
  rw[hg] at r1⊢;clear hg;have N:Hid (∀(c a b:Nat) (zs:List Nat) m,ik m g zs→zs.length=sz→Dg.Small 256 zs→a+b≤8*sz→c<18446744073709551616→yC 128 #[.slice (some ⟨g,0,none⟩) sz sz,yi a,yi b,.int .u64 c] m fun z w'=>z= .returned (.tuple #[])∧ik w' g (iS a b c zs)∧m.grownBy w' (some g)):=fun c a b zs m h hz hm b5 hc=>by
   have:=AY g sz zs a b c m h hm hc (by omega) (by omega);rw[hz] at this;exact this
  have U:Dg.Small 256 (List.replicate sz 0):=by
   intro i
   by_cases hi:i<sz
   ·simp[List.getD_eq_getElem?_getD,hi]
   ·simp[List.getD_eq_getElem?_getD,hi]
  have S:(List.replicate sz 0).length=sz:=List.length_replicate;have b9:IntKind.u64.wrap e=(e:Int):=IntWalk.u64_in _ ⟨by omega,by omega⟩;have ba:IntKind.i64.wrap (1+(d:Int))=1+(d:Int):=IntWalk.i64_in _ ⟨by omega,by omega⟩;have HN:Hid _:=a8
  first| (rename Mgk 0=>_z;(have a9:(iS 0 1 1 (List.replicate sz 0)).length=sz:=by rw[il];exact S);have ab:Dg.Small 256 (iS 0 1 1 (List.replicate sz 0)):=mj _ _ _ _ U;have aq:=N.out 1 0 1 (List.replicate sz 0) _ r1 S U (by omega) (by omega);have ae:Hid _:=aq;clear aq;obtain⟨x,y,A,B,C,E,H,I,J⟩:=Q.cs9;obtain⟨t,u,v⟩:=T.cs3;go_wp2_with fail;refine Calls.mono ae.out ?_;rintro z w2 ⟨rfl,r2,g2⟩;have l2:=Q.grown g2 a0;have m2:=T.grown g2 a1;(have Z:=O.grown g2 O.size (fun k h=>by cases h;exact P));clear x y A B C E H I J t u v Q T O g2 ae r1;obtain⟨K,o⟩: ∃z,iS 1 d e (iS 0 1 1 (List.replicate sz 0))=z:=⟨_,rfl⟩)| (obtain⟨K,o⟩: ∃z,iS 1 d e (List.replicate sz 0)=z:=⟨_,rfl⟩)
  obtain⟨z3,a3⟩: ∃z,iS (1+d) p f K=z:=⟨_,rfl⟩
  first| (rename Mgk 0=>_z;have a4:K.length=sz:=by rw[←o,il];exact a9)| (have a4:K.length=sz:=by rw[←o,il];exact S)
  first| (rename Mgk 0=>_z;have a5:Dg.Small 256 K:=by rw[←o];exact mj _ _ _ _ ab)| (have a5:Dg.Small 256 K:=by rw[←o];exact mj _ _ _ _ U)
  first| (rename Mgk 0=>_z;have a2:=N.out e 1 d (iS 0 1 1 (List.replicate sz 0)) _ r2 a9 ab (by omega) (by omega))| (have a2:=N.out e 1 d (List.replicate sz 0) _ r1 S U (by omega) (by omega))
  have al:Hid (∀m,ik m g K→yC 128 #[.slice (some ⟨g,0,none⟩) sz sz,yi (1+(d:Int)),yi p,.int .u64 f] m fun z w'=>z= .returned (.tuple #[])∧ik w' g z3∧m.grownBy w' (some g)):=fun m h=>by
   have:=N.out f (1+d) p K m h a4 a5 (by omega) hf;rw[a3,show(((1+d:Nat):Nat):Int)=1+(d:Int) from by omega] at this
   exact this
  rw[o,a3] at an;rw[o] at a2;have a6:Hid _:=a2
  first| (rename Mgk 0=>_z;clear a2 o a3 a5 a4 U S N a8 a9 ab)| (clear a2 o a3 a5 a4 U S N a8)
  first| (rename Mgk 0=>_z;obtain⟨x,y,A,B,C,E,H,I,J⟩:=l2.cs9)| (obtain⟨x,y,A,B,C,E,H,I,J⟩:=Q.cs9)
  first| (rename Mgk 0=>_z;obtain⟨t,u,v⟩:=m2.cs3)| (obtain⟨t,u,v⟩:=T.cs3)
  go_wp2_with fail
  refine Calls.mono a6.out ?_;rintro z w3 ⟨rfl,r3,r⟩
  first| (rename Mgk 0=>_z;have l3:=(l2.grown r a0).drew)| (have l3:=(Q.grown r a0).drew)
  first| (rename Mgk 0=>_z;have m3:=(m2.grown r a1).drew)| (have m3:=(T.grown r a1).drew)
  first| (rename Mgk 0=>_z;have b3:=(Z.grown r Z.size (fun k h=>by cases h;exact P)).drew)| (have b3:=(O.grown r O.size (fun k h=>by cases h;exact P)).drew)
  have aw:=r3.drew
  first| (rename Mgk 0=>_z;clear x y A B C E H I J t u v l2 m2 Z r a6 r3 r2)| (clear x y A B C E H I J t u v Q T O r a6 r3 r1)
  obtain⟨x,y,A,B,C,E,H,I,J⟩:=l3.cs9;obtain⟨t,u,v⟩:=m3.cs3
  go_wp2_with fail
  first
  |
   rename Mgk 0=>_z
   go_region_held3 (fun j=>(j.cell? ⟨w.heap.size,0,none⟩=some (yi (R:Int))∧j.cell? ⟨w.heap.size,1,none⟩=some (yi D)∧j.cell? ⟨w.heap.size,2,none⟩=some (yi L)∧j.cell? ⟨w.heap.size,3,none⟩=some (yi G)∧j.cell? ⟨w.heap.size,4,none⟩=some (.bool gr)∧j.cell? ⟨w.heap.size,5,none⟩=some (yi sz)∧j.cell? ⟨w.heap.size,6,none⟩=some (yi d)∧j.cell? ⟨w.heap.size,7,none⟩=some (yi n)∧j.cell? ⟨w.heap.size,8,none⟩=some (.func (.func F) #[] #[]))∧(j.cell? ⟨w.heap.size+1,0,none⟩=some (.bool true)∧j.cell? ⟨w.heap.size+1,1,none⟩=some (yi e)∧j.cell? ⟨w.heap.size+1,2,none⟩=some (.int .u64 f))) (go_keep) (first
    | (go_at_call 129;refine(ad.out _).mono ?_;rintro z w4 ⟨rfl,q⟩;have l4:=l3.l q;have m4:=m3.l q;have Y:=aa b3 q;have r4:=aw.l q;obtain⟨y0,y1,y2,y3,y4,y5,y6,y7,y8⟩:=l4.cs9;obtain⟨v0,v1,v2⟩:=m4.cs3)
    | (go_at_call 128;refine(al.out _ r4).mono ?_;rintro z w5 ⟨rfl,r5,M⟩;have l5:=l4.grown M a0;have m5:=m4.grown M a1;have a7:=Y.grown M Y.size (fun k h=>by cases h;exact P);obtain⟨t0,t1,t2,t3,t4,t5,t6,t7,t8⟩:=l5.cs9;obtain⟨s0,s1,s2⟩:=m5.cs3))
  |
   go_region_held3 (fun j=>(j.cell? ⟨w.heap.size,0,none⟩=some (yi (R:Int))∧j.cell? ⟨w.heap.size,1,none⟩=some (yi D)∧j.cell? ⟨w.heap.size,2,none⟩=some (yi L)∧j.cell? ⟨w.heap.size,3,none⟩=some (yi G)∧j.cell? ⟨w.heap.size,4,none⟩=some (.bool gr)∧j.cell? ⟨w.heap.size,5,none⟩=some (yi sz)∧j.cell? ⟨w.heap.size,6,none⟩=some (yi d)∧j.cell? ⟨w.heap.size,7,none⟩=some (yi n)∧j.cell? ⟨w.heap.size,8,none⟩=some (.func (.func F) #[] #[]))∧(j.cell? ⟨w.heap.size+1,0,none⟩=some (.bool false)∧j.cell? ⟨w.heap.size+1,1,none⟩=some (yi e)∧j.cell? ⟨w.heap.size+1,2,none⟩=some (.int .u64 f))) (go_keep) (first
    | (go_at_call 129;refine(ad.out _).mono ?_;rintro z w4 ⟨rfl,q⟩;have l4:=l3.l q;have m4:=m3.l q;have Y:=aa b3 q;have r4:=aw.l q;obtain⟨y0,y1,y2,y3,y4,y5,y6,y7,y8⟩:=l4.cs9;obtain⟨v0,v1,v2⟩:=m4.cs3)
    | (go_at_call 128;refine(al.out _ r4).mono ?_;rintro z w5 ⟨rfl,r5,M⟩;have l5:=l4.grown M a0;have m5:=m4.grown M a1;have a7:=Y.grown M Y.size (fun k h=>by cases h;exact P);obtain⟨t0,t1,t2,t3,t4,t5,t6,t7,t8⟩:=l5.cs9;obtain⟨s0,s1,s2⟩:=m5.cs3))
  go_wp2_with fail
  refine(an.out _ _ _ r5).mono ?_;rintro z w6 ⟨rfl,r6,g6⟩;have ax:=a7.grown g6 a7.size (fun k h=>by cases h;exact P)
  have ay:=vi (cap:=sz) 153 9 underlying153 underlying5 underlying9 r6;rw[az] at ay
  go_wp2
  go_ret
  exact⟨rfl,ax⟩
theorem KP (R D L G j sz g on wr:Int)(gr ng:Bool)(F:Nat)(e f:Int)(w:World)(o:yJ 125 #[ylV R D L G gr sz g j F] (yi on))(p:yJ 126 #[ylV R D L G gr sz g j F] (.int .u64 wr))(O:on=e)(A:f≠wr)(_h0:(on==0)=false):yC 151 #[ylV R D L G gr sz g j F,yfV ng e f] w (yR w (yi 4)):=by
 have a1:=cD;replace o:Hid _:=o;replace p:Hid _:=p;have C:=(ah w (ylL R D L G gr sz g j F) 93).l (af _ (.cells (yfA ng e f) 134));have x:=ah (w.alloc (.cells (ylA R D L G gr sz g j F) 93)) (yfL ng e f) 134;have I:=aa (af w (.cells (ylA R D L G gr sz g j F) 93)) (af _ (.cells (yfA ng e f) 134));rw[World.size_alloc] at x;subst O;have a0:(f==wr)=false:=by simpa using A
 clear A;obtain⟨x0,x1,x2,x3,x4,x5,x6,x7,x8⟩:=C.cs9;obtain⟨u0,u1,u2⟩:=x.cs3
 go_enter func151,ntmps151
 go_wp2_with fail
 go_region_held3 (fun a=>(a.cell? ⟨w.heap.size,0,none⟩=some (yi R)∧a.cell? ⟨w.heap.size,1,none⟩=some (yi D)∧a.cell? ⟨w.heap.size,2,none⟩=some (yi L)∧a.cell? ⟨w.heap.size,3,none⟩=some (yi G)∧a.cell? ⟨w.heap.size,4,none⟩=some (.bool gr)∧a.cell? ⟨w.heap.size,5,none⟩=some (yi sz)∧a.cell? ⟨w.heap.size,6,none⟩=some (yi g)∧a.cell? ⟨w.heap.size,7,none⟩=some (yi j)∧a.cell? ⟨w.heap.size,8,none⟩=some (.func (.func F) #[] #[]))∧(a.cell? ⟨w.heap.size+1,0,none⟩=some (.bool ng)∧a.cell? ⟨w.heap.size+1,1,none⟩=some (yi on)∧a.cell? ⟨w.heap.size+1,2,none⟩=some (.int .u64 f))) (go_keep) (first
  | (go_at_call 125;refine(o.out _).mono ?_;rintro z w2 ⟨rfl,q⟩;have E:=C.drew.l q;have H:=x.drew.l q;have J:=aa I.drew q;obtain⟨y0,y1,y2,y3,y4,y5,y6,y7,y8⟩:=E.cs9;obtain⟨v0,v1,v2⟩:=H.cs3)
  | (go_at_call 126;refine(p.out _).mono ?_;rintro z w3 ⟨rfl,r⟩;have d:=E.l r;have n:=H.l r;have M:=aa J r;obtain⟨z0,z1,z2,z3,z4,z5,z6,z7,z8⟩:=d.cs9;obtain⟨t0,t1,t2⟩:=n.cs3))
 go_wp2_with fail
 refine wp_region_held_drew (S:=(fun a=>(a.cell? ⟨w.heap.size,0,none⟩=some (yi R)∧a.cell? ⟨w.heap.size,1,none⟩=some (yi D)∧a.cell? ⟨w.heap.size,2,none⟩=some (yi L)∧a.cell? ⟨w.heap.size,3,none⟩=some (yi G)∧a.cell? ⟨w.heap.size,4,none⟩=some (.bool gr)∧a.cell? ⟨w.heap.size,5,none⟩=some (yi sz)∧a.cell? ⟨w.heap.size,6,none⟩=some (yi g)∧a.cell? ⟨w.heap.size,7,none⟩=some (yi j)∧a.cell? ⟨w.heap.size,8,none⟩=some (.func (.func F) #[] #[]))∧(a.cell? ⟨w.heap.size+1,0,none⟩=some (.bool ng)∧a.cell? ⟨w.heap.size+1,1,none⟩=some (yi on)∧a.cell? ⟨w.heap.size+1,2,none⟩=some (.int .u64 f)))) (by kernel_rfl) ⟨⟨d.drew.c 0 rfl,d.drew.c 1 rfl,d.drew.c 2 rfl,d.drew.c 3 rfl,d.drew.c 4 rfl,d.drew.c 5 rfl,d.drew.c 6 rfl,d.drew.c 7 rfl,d.drew.c 8 rfl⟩,n.drew.c 0 rfl,n.drew.c 1 rfl,n.drew.c 2 rfl⟩ (fun t=> ?_)
 refine tq 0 (.pointer (some ⟨w.heap.size+1,1,none⟩)) rfl (fun m _=>by go_simp) t ?_
 refine tq 1 (yi on) rfl (fun m u=>by obtain⟨⟨P,Q,T,U,W,X,Y,Z,p8⟩,q0,q1,q2⟩:=u;go_simp) t ?_
 refine tq 2 ((ylV R D L G gr sz g j F)) rfl (fun m u=>by obtain⟨⟨P,Q,T,U,W,X,Y,Z,p8⟩,q0,q1,q2⟩:=u;go_simp) t ?_
 refine wpAnyH_ready (rs:=[3]) (by kernel_rfl) (by simp) ?_;refine AllReadyH.cons rfl (fun K B=> ?_) AllReadyH.nil
 go_simp
 refine(o.out _).mono ?_;rintro z w4 ⟨rfl,s⟩;have k:=d.drew.l s;have y:=n.drew.l s;have N:=aa M.drew s;refine B.out _ _ ⟨⟨k.c 0 rfl,k.c 1 rfl,k.c 2 rfl,k.c 3 rfl,k.c 4 rfl,k.c 5 rfl,k.c 6 rfl,k.c 7 rfl,k.c 8 rfl⟩,y.c 0 rfl,y.c 1 rfl,y.c 2 rfl⟩ (fun b=> ?_)
 clear B K;refine tq 4 (.bool true) rfl (fun m _=>by go_simp) b ?_
 refine tq 5 (.bool true) rfl (fun m _=>by go_simp) b ?_
 refine wpAnyH_take (i:=6) (v:=undef) rfl (by kernel_rfl) (by kernel_rfl) (by kernel_rfl) (fun _ _ _ h=>h) (Or.inr ⟨by kernel_rfl,rfl⟩) b ?_
 refine wpAnyH_take (i:=7) (v:=undef) rfl (by kernel_rfl) (by kernel_rfl) (by kernel_rfl) (fun _ _ _ h=>h) (Or.inr ⟨by kernel_rfl,rfl⟩) b ?_
 refine wpAnyH_take (i:=8) (v:=undef) rfl (by kernel_rfl) (by kernel_rfl) (by kernel_rfl) (fun _ _ _ h=>h) (Or.inr ⟨by kernel_rfl,rfl⟩) b ?_
 refine wpAnyH_take (i:=9) (v:=undef) rfl (by kernel_rfl) (by kernel_rfl) (by kernel_rfl) (fun _ _ _ h=>h) (Or.inr ⟨by kernel_rfl,rfl⟩) b ?_
 refine wpAnyH_take (i:=10) (v:=undef) rfl (by kernel_rfl) (by kernel_rfl) (by kernel_rfl) (fun _ _ _ h=>h) (Or.inr ⟨by kernel_rfl,rfl⟩) b ?_
 refine wpAnyH_take (i:=11) (v:=undef) rfl (by kernel_rfl) (by kernel_rfl) (by kernel_rfl) (fun _ _ _ h=>h) (Or.inr ⟨by kernel_rfl,rfl⟩) b ?_
 refine wpAnyH_take (i:=12) (v:=undef) rfl (by kernel_rfl) (by kernel_rfl) (by kernel_rfl) (fun _ _ _ h=>h) (Or.inr ⟨by kernel_rfl,rfl⟩) b ?_
 refine wpAnyH_take (i:=13) (v:=undef) rfl (by kernel_rfl) (by kernel_rfl) (by kernel_rfl) (fun _ _ _ h=>h) (Or.inr ⟨by kernel_rfl,rfl⟩) b ?_
 refine tq 14 (.bool true) rfl (fun m _=>by go_simp) b ?_
 refine tq 15 (.bool true) rfl (fun m _=>by go_simp) b ?_
 simp only[Act.put,List.getElem_toArray,List.getElem_cons_succ,List.getElem_cons_zero,List.setIfInBounds_toArray,List.set_cons_zero,List.set_cons_succ];refine wpAnyH_done (by kernel_rfl) ?_ _
 go_wp2
 go_ret
 exact⟨rfl,N⟩
theorem ci_mis_mg:
  (∀(R D L G d sz b on wr:Int) (gr ng:Bool) (F:Nat) (e f:Int) (w:World) (_:yJ 125 #[ylV R D L G gr sz b d F] (yi on)) (_:yJ 126 #[ylV R D L G gr sz b d F] (.int .u64 wr)) (_:e≠0) (_:e≠on) (_:bits .and .u64 f wr=0) (_:((0:Int)==wr)=false),
  yC 151 #[ylV R D L G gr sz b d F,yfV ng e f] w (yR w (yi 4)))∧
  (∀(R D L G d sz b on wr:Int) (gr ng:Bool) (F:Nat) (e f:Int) (w:World) (_:yJ 125 #[ylV R D L G gr sz b d F] (yi on)) (_:yJ 126 #[ylV R D L G gr sz b d F] (.int .u64 wr)) (_:e≠0) (_:e≠on) (_:bits .and .u64 f wr=wr),
  yC 151 #[ylV R D L G gr sz b d F,yfV ng e f] w (yR w (yi 2))):=by
 refine⟨?_, ?_⟩;have _z:Mgk 0:=mgkI 0
 all_goals
  first| (rename Mgk 0=>_z;intro R D L G d sz b on wr gr ng F e f w o p y A T _h4)| (intro R D L G d sz b on wr gr ng F e f w o p y A T)
  have ac:=cD;replace o:Hid _:=o;replace p:Hid _:=p;have g:=(ah w (ylL R D L G gr sz b d F) 93).l (af _ (.cells (yfA ng e f) 134));have m:=ah (w.alloc (.cells (ylA R D L G gr sz b d F) 93)) (yfL ng e f) 134;have N:=aa (af w (.cells (ylA R D L G gr sz b d F) 93)) (af _ (.cells (yfA ng e f) 134));rw[World.size_alloc] at m;have a9:(e==0)=false:=by simpa using y
  have ab:(e==on)=false:=by simpa using A
  clear y A;obtain⟨x0,x1,x2,x3,x4,x5,x6,x7,x8⟩:=g.cs9;obtain⟨u0,u1,u2⟩:=m.cs3
  go_enter func151,ntmps151
  go_wp2_with fail
  refine wp_region_held_drew (S:=(fun a=>(a.cell? ⟨w.heap.size,0,none⟩=some (yi R)∧a.cell? ⟨w.heap.size,1,none⟩=some (yi D)∧a.cell? ⟨w.heap.size,2,none⟩=some (yi L)∧a.cell? ⟨w.heap.size,3,none⟩=some (yi G)∧a.cell? ⟨w.heap.size,4,none⟩=some (.bool gr)∧a.cell? ⟨w.heap.size,5,none⟩=some (yi sz)∧a.cell? ⟨w.heap.size,6,none⟩=some (yi b)∧a.cell? ⟨w.heap.size,7,none⟩=some (yi d)∧a.cell? ⟨w.heap.size,8,none⟩=some (.func (.func F) #[] #[]))∧(a.cell? ⟨w.heap.size+1,0,none⟩=some (.bool ng)∧a.cell? ⟨w.heap.size+1,1,none⟩=some (yi e)∧a.cell? ⟨w.heap.size+1,2,none⟩=some (.int .u64 f)))) (by kernel_rfl) ⟨⟨g.drew.c 0 rfl,g.drew.c 1 rfl,g.drew.c 2 rfl,g.drew.c 3 rfl,g.drew.c 4 rfl,g.drew.c 5 rfl,g.drew.c 6 rfl,g.drew.c 7 rfl,g.drew.c 8 rfl⟩,m.drew.c 0 rfl,m.drew.c 1 rfl,m.drew.c 2 rfl⟩ (fun B=> ?_)
  refine tq 0 (.pointer (some ⟨w.heap.size+1,1,none⟩)) rfl (fun n _=>by go_simp) B ?_
  refine tq 1 (yi e) rfl (fun n C=>by obtain⟨⟨Y,Z,p2,p3,p4,p5,p6,p7,p8⟩,q0,q1,q2⟩:=C;go_simp) B ?_
  refine tq 2 ((ylV R D L G gr sz b d F)) rfl (fun n C=>by obtain⟨⟨Y,Z,p2,p3,p4,p5,p6,p7,p8⟩,q0,q1,q2⟩:=C;go_simp) B ?_
  refine wpAnyH_ready (rs:=[3]) (by kernel_rfl) (by simp) ?_;refine AllReadyH.cons rfl (fun K E=> ?_) AllReadyH.nil
  go_simp
  refine(o.out _).mono ?_;rintro z w1 ⟨rfl,s⟩;have j:=g.drew.l s;have q:=m.drew.l s;have O:=aa N.drew s;refine E.out _ _ ⟨⟨j.c 0 rfl,j.c 1 rfl,j.c 2 rfl,j.c 3 rfl,j.c 4 rfl,j.c 5 rfl,j.c 6 rfl,j.c 7 rfl,j.c 8 rfl⟩,q.c 0 rfl,q.c 1 rfl,q.c 2 rfl⟩ (fun k=> ?_)
  clear E K;refine tq 4 (.bool false) rfl (fun n _=>by go_simp) k ?_
  refine tq 5 (.bool false) rfl (fun n _=>by go_simp) k ?_
  refine wpAnyH_take (i:=6) (v:=undef) rfl (by kernel_rfl) (by kernel_rfl) (by kernel_rfl) (fun _ _ _ h=>h) (Or.inr ⟨by kernel_rfl,rfl⟩) k ?_
  refine wpAnyH_take (i:=7) (v:=undef) rfl (by kernel_rfl) (by kernel_rfl) (by kernel_rfl) (fun _ _ _ h=>h) (Or.inr ⟨by kernel_rfl,rfl⟩) k ?_
  refine wpAnyH_take (i:=8) (v:=undef) rfl (by kernel_rfl) (by kernel_rfl) (by kernel_rfl) (fun _ _ _ h=>h) (Or.inr ⟨by kernel_rfl,rfl⟩) k ?_
  refine wpAnyH_take (i:=9) (v:=undef) rfl (by kernel_rfl) (by kernel_rfl) (by kernel_rfl) (fun _ _ _ h=>h) (Or.inr ⟨by kernel_rfl,rfl⟩) k ?_
  refine wpAnyH_take (i:=10) (v:=undef) rfl (by kernel_rfl) (by kernel_rfl) (by kernel_rfl) (fun _ _ _ h=>h) (Or.inr ⟨by kernel_rfl,rfl⟩) k ?_
  refine tq 11 (.bool false) rfl (fun n _=>by go_simp) k ?_
  refine tq 12 (.bool false) rfl (fun n _=>by go_simp) k ?_
  simp only[Act.put,List.getElem_toArray,List.getElem_cons_succ,List.getElem_cons_zero,List.setIfInBounds_toArray,List.set_cons_zero,List.set_cons_succ];refine wpAnyH_done (by kernel_rfl) ?_ _
  go_wp2_with fail
  go_region_held3 (fun a=>(a.cell? ⟨w.heap.size,0,none⟩=some (yi R)∧a.cell? ⟨w.heap.size,1,none⟩=some (yi D)∧a.cell? ⟨w.heap.size,2,none⟩=some (yi L)∧a.cell? ⟨w.heap.size,3,none⟩=some (yi G)∧a.cell? ⟨w.heap.size,4,none⟩=some (.bool gr)∧a.cell? ⟨w.heap.size,5,none⟩=some (yi sz)∧a.cell? ⟨w.heap.size,6,none⟩=some (yi b)∧a.cell? ⟨w.heap.size,7,none⟩=some (yi d)∧a.cell? ⟨w.heap.size,8,none⟩=some (.func (.func F) #[] #[]))∧(a.cell? ⟨w.heap.size+1,0,none⟩=some (.bool ng)∧a.cell? ⟨w.heap.size+1,1,none⟩=some (yi e)∧a.cell? ⟨w.heap.size+1,2,none⟩=some (.int .u64 f))) (go_keep) (first
   | (go_at_call 125;refine(o.out _).mono ?_;rintro z w2 ⟨rfl,t⟩;have H:=j.drew.l t;have J:=q.drew.l t;have r:=aa O.drew t;obtain⟨y0,y1,y2,y3,y4,y5,y6,y7,y8⟩:=H.cs9;obtain⟨v0,v1,v2⟩:=J.cs3)
   | (go_at_call 126;have U:=r;clear U;refine(p.out _).mono ?_;rintro z w3 ⟨rfl,u⟩;have I:=H.l u;have M:=J.l u;have P:=aa r u;obtain⟨z0,z1,z2,z3,z4,z5,z6,z7,z8⟩:=I.cs9;obtain⟨t0,t1,t2⟩:=M.cs3;clear r)
   | (go_at_call 126;refine(p.out _).mono ?_;rintro z w4 ⟨rfl,x⟩;have W:=I.l x;have X:=M.l x;have Q:=aa P x;obtain⟨a0,a1,a2,a3,a4,a5,a6,a7,a8⟩:=W.cs9;obtain⟨c0,c1,c2⟩:=X.cs3))
  all_goals go_wp2
  all_goals go_ret
  all_goals exact⟨rfl,Q⟩
theorem CC (R D L G f:Int)(gr:Bool)(sz d:Nat)(F:Nat)(s:Bool)(j:Option Addr)(m k:Nat)(e:Int)(w:World)(zs:List Nat)(h:Nat)(r n o p:Bool)(t N:Int)
  (I: ∀q a,yB w a→a.cell? ⟨q,0,none⟩=some (.int .u32 1)→yC 109 #[yrV s (.slice j m k) (.slice (some ⟨q,0,none⟩) 1 1) e,ygV R D L G gr,yi 3] a fun z w'=> ∃i g,z= .returned (.tuple #[ypV r (.slice i h g) t n o p,yi N])∧Rd w' .u32 (.slice i h g) zs∧yB a w')
  (Q:Bool) (O P:Nat) (H: ∀i g a,yB w a→Rd a .u32 (.slice i h g) zs→yC 124 #[ylV R D L G gr sz d f F,ypV r (.slice i h g) t n o p] a (yR a (yfV Q O P)))
  (st:ByteArray) (K:yJ 76 #[ylV R D L G gr sz d f F,yfV Q O P] (.string st)) (he:N=0) (hp:0<h):
  yC 73 #[ylV R D L G gr sz d f F,ydV s (.slice j m k) e] w (yR w (.tuple #[.string st,yi 0])):=by
 subst he;have a0:Hid _:=H;clear H;have a1:Hid _:=K;clear K;have a7:((h:Int)==0)=false:=by simp;omega
 have a8:=cD;have J:Hid _:=I;clear I;have B:=af (w.alloc (.cells (ylA R D L G gr sz d f F) 93)) (.cells (ydA s (.slice j m k) e) 41);have C:=af ((w.alloc (.cells (ylA R D L G gr sz d f F) 93)).alloc (.cells (ydA s (.slice j m k) e) 41)) (.cells #[.int .u32 1] 105);have S:=((ah w (ylL R D L G gr sz d f F) 93).l B).l C;have E:=ah ((w.alloc (.cells (ylA R D L G gr sz d f F) 93)).alloc (.cells (ydA s (.slice j m k) e) 41)) [.int .u32 1] 105;have v:=aa (aa (af w (.cells (ylA R D L G gr sz d f F) 93)) B) C;rw[World.size_alloc,World.size_alloc] at E;clear B C
 go_enter func73,ntmps73
 go_wp2_with fail
 refine(J.out _ _ v (E.c 0 rfl)).mono ?_;rintro z a ⟨i,g,rfl,rp,x⟩;have u:=af a (.cells (ypA r (.slice i h g) t n o p) 141);have T:=(S.l x).l u;have X:=ah a (ypL r (.slice i h g) t n o p) 141;have a5:=rp.l u;have a2:=aa (aa v x) u;clear S E v x u rp J;obtain⟨x0,x1,x2,x3,x4,x5,x6,x7,x8⟩:=T.cs9;obtain⟨u0,u1,u2,u3,u4,u5⟩:=X.cs6;have U:=T.drew;have Y:=X.drew;have a6:=a5.l (Below.refl _ _).drew;have M:=a2.drew;obtain⟨an,ap,aq,ar,av,aw,ax,ay,az⟩:=U.cs9;obtain⟨a9,ab,ac,ad,ae,al⟩:=Y.cs6
 go_wp2_with fail
 go_region_held3 (fun b=>(b.cell? ⟨w.heap.size,0,none⟩=some (yi R)∧b.cell? ⟨w.heap.size,1,none⟩=some (yi D)∧b.cell? ⟨w.heap.size,2,none⟩=some (yi L)∧b.cell? ⟨w.heap.size,3,none⟩=some (yi G)∧b.cell? ⟨w.heap.size,4,none⟩=some (.bool gr)∧b.cell? ⟨w.heap.size,5,none⟩=some (yi sz)∧b.cell? ⟨w.heap.size,6,none⟩=some (yi d)∧b.cell? ⟨w.heap.size,7,none⟩=some (yi f)∧b.cell? ⟨w.heap.size,8,none⟩=some (.func (.func F) #[] #[]))∧(b.cell? ⟨a.heap.size,0,none⟩=some (.bool r)∧b.cell? ⟨a.heap.size,1,none⟩=some (.slice i h g)∧b.cell? ⟨a.heap.size,2,none⟩=some (yi t)∧b.cell? ⟨a.heap.size,3,none⟩=some (.bool n)∧b.cell? ⟨a.heap.size,4,none⟩=some (.bool o)∧b.cell? ⟨a.heap.size,5,none⟩=some (.bool p))) (go_keep) (first
  | (go_at_call 124;refine(a0.out _ _ _ M a6).mono ?_;rintro z w2 ⟨rfl,y⟩;have W:=U.l y;have Z:=Y.l y;have a3:=aa M y;obtain⟨y0,y1,y2,y3,y4,y5,y6,y7,y8⟩:=W.cs9;obtain⟨v0,v1,v2,v3,v4,v5⟩:=Z.cs6)
  | (go_at_call 76;refine(a1.out _).mono ?_;rintro z w3 ⟨rfl,A⟩;have l3:=W.l A;have q3:=Z.l A;have a4:=aa a3 A;obtain⟨t0,t1,t2,t3,t4,t5,t6,t7,t8⟩:=l3.cs9;obtain⟨g0,g1,g2,g3,g4,g5⟩:=q3.cs6))
 all_goals go_wp2
 all_goals go_ret2
 all_goals exact⟨rfl,a4⟩
theorem refPl_nf_mg:
  (∀(B E:Int) (t:ak) (n p q r R D L G u i wy:Int) (gr ok a:Bool) (g:Option Addr) (d f:Nat) (w:World) (_:(((Dg.dg 65536 d).length:Int)==0)=false) (_:IntKind.i64.wrap (B*i)=E) (_:yJ 15 #[yi n] (.tuple #[yhV p q r R D L G gr u,.bool ok]))
  (_:yJ 21 #[ygV R D L G gr] (yi B))
  (_: ∀v,yB w v→yC 20 #[ydV a (yS g d f) E] v (di v t)),
  yC 60 #[yi n,ypV a (yS g d f) i false false false,yi wy] w (RVG w 2 a t 1))∧
  (∀(B E:Int) (t:ak) (n p q r R D L G u i wy:Int) (gr ok a:Bool) (g:Option Addr) (d f:Nat) (w:World) (_:(((Dg.dg 65536 d).length:Int)==0)=false) (_:IntKind.i64.wrap (B*i)=E) (_:yJ 15 #[yi n] (.tuple #[yhV p q r R D L G gr u,.bool ok]))
  (_:yJ 21 #[ygV R D L G gr] (yi B))
  (_: ∀v,yB w v→yC 20 #[ydV a (yS g d f) E] v (di v t)),
  yC 60 #[yi n,ypV a (yS g d f) i true false false,yi wy] w (RVG w 2 a t 0)):=by
 refine⟨?_, ?_⟩;have _z:Mgk 0:=mgkI 0
 all_goals
  intro B E t n p q r R D L G u i wy gr ok a g d f w hz hE T U Q;replace T:Hid _:=T;replace U:Hid _:=U;replace Q:Hid _:=Q
  first| (rename Mgk 0=>_z;obtain⟨W4,J,q1,q2,b3⟩:=iG w (ypL a (yS g d f) i false false false) 123 (yoL 0 false false yN 0) 30)| (obtain⟨W4,J,q1,q2,b3⟩:=iG w (ypL a (yS g d f) i true false false) 123 (yoL 0 false false yN 0) 30)
  replace J:Hid _:=J
  go_enter func60,ntmps60
  go_upto_region 1 with fail
  rw[J.out];clear J
  go_wp2_with fail
  refine(T.out _).mono ?_;rintro zz A ⟨rfl,Y⟩;have q8:=q1.l Y;have q9:=q2.l Y;have a3:=aa b3 Y;clear q1 q2 b3 Y T;obtain⟨a2,Z,aq,W⟩:=cA A (yhL p q r R D L G gr u) 56;replace Z:Hid _:=Z;have b7:w.heap.size≤A.heap.size:=a3.size;have b8:=q9.lt;have y:=q8.l W;have ar:=q9.l W;have ad:=aa a3 W;clear q8 q9 a3 W
  go_upto_region 2 with fail
  rw[Z.out];clear Z;have b0:=y.c 1 rfl;have b1:=y.c 3 rfl;have b2:=y.c 4 rfl;have b4:=y.c 5 rfl
  go_upto_region 24 with fail
  clear b0 b1 b2 b4;have C:yB a2 a2.drew:=(Below.refl _ _).drew;have M:=y.l C;have a7:=ar.l C;have N:=aq.l C;have a4:=aa ad C;clear y ar aq ad C
  first| (rename Mgk 0=>_z;refine wp_region_held_drew (S:=fun O=>au O w.heap.size 123 (ypL a (yS g d f) i false false false)∧au O A.heap.size 56 (yhL p q r R D L G gr u)) (by kernel_rfl) ⟨M,N⟩ (fun b=> ?_))| (refine wp_region_held_drew (S:=fun O=>au O w.heap.size 123 (ypL a (yS g d f) i true false false)∧au O A.heap.size 56 (yhL p q r R D L G gr u)) (by kernel_rfl) ⟨M,N⟩ (fun b=> ?_))
  generalize a2.drew=b6 at M a7 N a4 b⊢;refine tq 0 (.pointer (some ⟨w.heap.size,0,none⟩)) rfl (fun _ _=>by kernel_rfl) b ?_
  refine tq 1 (.bool a) rfl (fun _ j=>gU 4 (.tmp 94) rfl w.heap.size 0 (by kernel_rfl) _ _ underlying4 rfl (j.1.c 0 rfl)) b ?_
  refine tq 2 (.pointer (some ⟨w.heap.size,0,none⟩)) rfl (fun _ _=>by kernel_rfl) b ?_
  refine tq 3 (.bool a) rfl (fun _ j=>gU 4 (.tmp 96) rfl w.heap.size 0 (by kernel_rfl) _ _ underlying4 rfl (j.1.c 0 rfl)) b ?_
  refine tq 4 (.pointer (some ⟨w.heap.size,1,none⟩)) rfl (fun _ _=>by kernel_rfl) b ?_
  refine tq 5 (yS g d f) rfl (fun _ j=>gU 26 (.tmp 98) rfl w.heap.size 1 (by kernel_rfl) _ _ underlying26 rfl (j.1.c 1 rfl)) b ?_
  refine tq 6 (.pointer (some ⟨A.heap.size,3,none⟩)) rfl (fun _ _=>by kernel_rfl) b ?_
  refine tq 7 (ygV R D L G gr) rfl (fun _ j=>fy 54 (.tmp 100) rfl A.heap.size 3 (by kernel_rfl) _ _ (kY j.2 3 5 rfl) underlying54 rfl (by kernel_rfl)) b ?_
  refine tq 9 (.pointer (some ⟨w.heap.size,2,none⟩)) rfl (fun _ _=>by kernel_rfl) b ?_
  refine tq 10 (yi i) rfl (fun _ j=>gU 3 (.tmp 103) rfl w.heap.size 2 (by kernel_rfl) _ _ underlying3 rfl (j.1.c 2 rfl)) b ?_
  first| (rename Mgk 0=>_z;refine tk 15 (yi 1) rfl (by kernel_rfl) (fun _ _ _ h=>h) (fun _ _=>by kernel_rfl) b ?_)| (refine tk 15 (yi 0) rfl (by kernel_rfl) (fun _ _ _ h=>h) (fun _ _=>by kernel_rfl) b ?_)
  refine wpAnyH_ready (rs:=[8]) (by kernel_rfl) (by simp) ?_;refine AllReadyH.cons rfl (fun K k=> ?_) AllReadyH.nil
  go_simp
  refine(U.out _).mono ?_;rintro zz ba ⟨rfl,F⟩;have a8:=M.l F;have av:=a7.l F;have a9:=N.l F;have X:=aa a4 F;clear M a7 N a4 F U;refine k.out _ _ ⟨a8,a9⟩ (fun a5=> ?_)
  clear k K;refine tq 11 (yi E) rfl (fun _ _=>by go_simp) a5 ?_
  refine tq 12 (ydV a (yS g d f) E) rfl (fun _ _=>by kernel_rfl) a5 ?_
  refine wpAnyH_ready (rs:=[13]) (by kernel_rfl) (by simp) ?_;refine AllReadyH.cons rfl (fun K k=> ?_) AllReadyH.nil
  go_simp
  refine(Q.out _ X).mono ?_;rintro zz z ⟨b9,rfl,a1,an,H⟩;have ff:=an.mono X.size;clear an;have ab:=a8.l H;have a0:=av.l H;have ac:=a9.l H;have ae:=aa X H;obtain⟨o,m,hv⟩:=a1.shape;subst hv;clear a8 av a9 X H Q;refine k.out _ _ ⟨ab,ac⟩ (fun ao=> ?_)
  clear k K;refine tq 14 (yoV 2 a t.s (yS o t.n m) t.e) rfl (fun _ _=>by kernel_rfl) ao ?_
  refine wpAnyH_ready (rs:=[16]) (by kernel_rfl) (by simp) ?_;refine AllReadyH.cons rfl (fun K k=> ?_) AllReadyH.nil
  have I:But (w.heap.size+1) z (z.setCells (w.heap.size+1) 0 (yoL 2 a t.s (yS o t.n m) t.e)):=de _ _ _ _;have ap:z.there (w.heap.size+1) 0 5:=dD a0;have aw:au (z.setCells (w.heap.size+1) 0 (yoL 2 a t.s (yS o t.n m) t.e)) (w.heap.size+1) 30 (yoL 2 a t.s (yS o t.n m) t.e):=a0.sets _ rfl;have az:=I.rd a1 (cq a1 (Dg.norm_dg _ _ (by omega)) a0 (fun x hx n hn=>by simp at hx;rcases hx with rfl|rfl|rfl|rfl|rfl<;>simp;all_goals omega))
  have ax:=I.loc ab (by omega);have ay:=I.loc ac (by omega);have al:=I.below ae (by omega);rw[if_pos (by kernel_rfl)];refine wp_store_mid 30 (.tmp 6) (.tmp 108) rfl (w.heap.size+1) 0 (yoA 2 a t.s (yS o t.n m) t.e) (by kernel_rfl) (by kernel_rfl) ap (by kernel_rfl) (by simp[Value.oneCell']) ?_;refine k.out _ _ ⟨ax,ay⟩ (fun a6=> ?_)
  clear k K;clear a0 a1 ab ac ae I ap
  first| (rename Mgk 0=>_z;refine tk 17 (yi 1) rfl (by kernel_rfl) (fun _ _ _ h=>h) (fun _ _=>by kernel_rfl) a6 ?_)| (refine tk 17 (yi 0) rfl (by kernel_rfl) (fun _ _ _ h=>h) (fun _ _=>by kernel_rfl) a6 ?_)
  refine wpAnyH_done (by kernel_rfl) ?_ _;clear b a5 ao a6;change Exit.then _ _ _ _ (World.setCells z (w.heap.size+1) 0 (yoL 2 a t.s (yS o t.n m) t.e));generalize World.setCells z (w.heap.size+1) 0 (yoL 2 a t.s (yS o t.n m) t.e)=b5 at ax aw ay az al⊢;simp only[Act.put,List.getElem_toArray,List.getElem_cons_succ,List.getElem_cons_zero,List.setIfInBounds_toArray,List.set_cons_zero,List.set_cons_succ];have hl:=run_loadVar_mid (P:=Tryz.prog) _ (w.heap.size+1) 0 30 (yoL 2 a t.s (yS o t.n m) t.e) _ aw.range underlying30 rfl (by kernel_rfl)
  go_wp2
  exact bodyPost_ret (aj results60 rfl rfl hl) rfl ⟨_,rfl,az,ff,al⟩
theorem Zq (R D L G:Int)(gr ng:Bool)(a:Option Addr)(d b:Nat)(p e:Int)(w:World)(S:IntKind.i64.wrap (e*p)=e*p)
  (o:yJ 154 #[ygV R D L G gr] (yi e)):
  yC 118 #[ygV R D L G gr,.bool ng,.agg #[.slice a d b,yi p]] w (yR w (ydV ng (.slice a d b) (e*p))):=by
 replace o:Hid _:=o;have E:Hid (∀m,yC 153 (ydA ng (.slice a d b) (e*p)) m (yR m (ydV ng (.slice a d b) (e*p)))):=fun m=>l9 ng a d b (e*p) m
 have u:=aa (aa (af w (.cells (ygA R D L G gr) 193)) (af _ (.cells #[.slice a d b,yi p] 196))) (af _ (.cells (ydA false yN 0) 191));have x:=((ah w (ygL R D L G gr) 193).l (af _ (.cells #[.slice a d b,yi p] 196))).l (af _ (.cells (ydA false yN 0) 191));have i:=(ah (w.alloc (.cells (ygA R D L G gr) 193)) [.slice a d b,yi p] 196).l (af _ (.cells (ydA false yN 0) 191));have s:=ah ((w.alloc (.cells (ygA R D L G gr) 193)).alloc (.cells #[.slice a d b,yi p] 196)) (ydL false yN 0) 191;simp only[World.size_alloc] at i s;have y:=x.l ((Below.refl _ _).drew);have B:=i.l ((Below.refl _ _).drew);have K:=s.l ((Below.refl _ _).drew);have q:=aa u ((Below.refl _ _).drew);clear x i s u;obtain⟨x0,x1,x2,x3,x4⟩:=y.cs5;obtain⟨y0,y1⟩:=B.cs2;have X:w.heap.size+1+1≠w.heap.size:=by omega
 have Y:w.heap.size+1+1≠w.heap.size+1:=by omega
 go_enter func118,ntmps118
 go_wp2_with fail
 go_region_held3 (fun h=>h.cell? ⟨w.heap.size,0,none⟩=some (yi R)∧h.cell? ⟨w.heap.size,1,none⟩=some (yi D)∧h.cell? ⟨w.heap.size,2,none⟩=some (yi L)∧h.cell? ⟨w.heap.size,3,none⟩=some (yi G)∧h.cell? ⟨w.heap.size,4,none⟩=some (.bool gr)∧h.cell? ⟨w.heap.size+1,0,none⟩=some (.slice a d b)∧h.cell? ⟨w.heap.size+1,1,none⟩=some (yi p)) (go_keep) (first
  | (go_at_call 154;have t:=q;clear t;refine(o.out _).mono ?_;rintro z Z ⟨rfl,j⟩;have r:=aa q j;have A:=y.l j;have C:=B.l j;have M:=K.l j;obtain⟨a0,a1,a2,a3,a4⟩:=A.cs5;obtain⟨ab,ac⟩:=C.cs2;clear q)
  | (go_at_call 153;have t:=r;clear t;refine(E.out _).mono ?_;rintro z n ⟨rfl,k⟩;have F:=aa r k;have N:=A.l k;have Q:=C.l k;have g:=M.l k;obtain⟨a5,a6,a7,a8,a9⟩:=N.cs5;obtain⟨ad,ae⟩:=Q.cs2;have z0:=g.c 0 rfl;have T:=g.f 0;have z1:=g.c 1 rfl;have U:=g.f 1;have z2:=g.c 2 rfl;have W:=g.f 2;clear r))
 all_goals go_wp2
 have I:But (w.heap.size+1+1) n (((n.setCell ⟨w.heap.size+1+1,0,none⟩ (.bool ng)).setCell ⟨w.heap.size+1+1,1,none⟩ (.slice a d b)).setCell ⟨w.heap.size+1+1,2,none⟩ (yi (e*p))):=((ag n (w.heap.size+1+1) 0 (.bool ng)).trans (ag _ (w.heap.size+1+1) 1 (.slice a d b))).trans (ag _ (w.heap.size+1+1) 2 (yi (e*p)));have J:au (((n.setCell ⟨w.heap.size+1+1,0,none⟩ (.bool ng)).setCell ⟨w.heap.size+1+1,1,none⟩ (.slice a d b)).setCell ⟨w.heap.size+1+1,2,none⟩ (yi (e*p))) (w.heap.size+1+1) 191 (ydL ng (.slice a d b) (e*p)):=((g.set 0 (.bool ng)).set 1 (.slice a d b)).set 2 (yi (e*p));have H:=I.below F (show w.heap.size≤w.heap.size+1+1 by omega)
 obtain⟨O,i,P⟩:=J.cs3;refine bodyPost_ret (v:=(ydV ng (.slice a d b) (e*p))) (by simp[results,results118,go_sem,O,i,P]) rfl ?_;exact⟨rfl,H⟩
end Go.Proofs.YtlhkndcmbpcpgaaGreatDoor
