/-
  Texts laid together: Ab1, Leaf, Mul, Wrong, Div1, DivBy, Rev, Dec, DecW, Begun.
-/
import Derived.Handy
import Derived.Laws.CopyOwn
import Derived.BigRegion
import Derived.Deep.LoopGhost
import Derived.Test.YtpainhklfoaniaaGreatDoorSc01
set_option maxRecDepth 100000
set_option maxHeartbeats 1600000
namespace Go.Proofs.YtpainhklfoaniaaGreatDoor
open _root_.Go.Proofs.Tryz
open Go.RowKit
abbrev yOL (c:Int)(g:Bool)(t:ak)(o:Option Addr)(k:Nat):List Value:=[.int .i64 c,.bool g,.bool t.s,.slice o (Dg.dg 4294967296 t.n).length k,.int .i64 t.e]
abbrev yOV (c:Int)(g:Bool)(t:ak)(o:Option Addr)(k:Nat):Value:= .agg #[.int .i64 c,.bool g,.bool t.s,.slice o (Dg.dg 4294967296 t.n).length k,.int .i64 t.e]
abbrev yOA (c:Int)(g:Bool)(t:ak)(o:Option Addr)(k:Nat):Array Value:= #[.int .i64 c,.bool g,.bool t.s,.slice o (Dg.dg 4294967296 t.n).length k,.int .i64 t.e]
abbrev yDL (t:ak)(o:Option Addr)(k:Nat):List Value:=[.bool t.s,.slice o (Dg.dg 4294967296 t.n).length k,.int .i64 t.e]
abbrev yDV (t:ak)(o:Option Addr)(k:Nat):Value:= .agg #[.bool t.s,.slice o (Dg.dg 4294967296 t.n).length k,.int .i64 t.e]
abbrev yDA (t:ak)(o:Option Addr)(k:Nat):Array Value:= #[.bool t.s,.slice o (Dg.dg 4294967296 t.n).length k,.int .i64 t.e]
def chk (zs:List Nat):Int:=if 0<zs.length∧zs.getD (zs.length-1) 0=0 then 1 else if 1200<zs.length then 2 else 0
theorem Oq {zs:List Nat}(h:0<zs.length)(hz:zs.getD (zs.length-1) 0=0):chk zs=1:=by unfold chk;rw[if_pos ⟨h,hz⟩]
theorem Ot {zs:List Nat}(hz:zs.getD (zs.length-1) 0≠0)(h:1200<zs.length):chk zs=2:=by unfold chk;rw[if_neg (fun c=>hz c.2),if_pos h]
theorem ZT {zs:List Nat}(hz:zs.getD (zs.length-1) 0≠0)(h: ¬1200<zs.length):chk zs=0:=by unfold chk;rw[if_neg (fun c=>hz c.2),if_neg h]
theorem wn {w:World}{k:IntKind}{ao:Option Addr}{len cap:Nat}{zs:List Nat}(h:Rd w k (.slice ao len cap) zs):len=zs.length:=by
 obtain⟨ao',cap',hv,_⟩:=h;simp only[Value.slice.injEq] at hv;exact hv.2.1
theorem iQ {w:World}{k:IntKind}{ao:Option Addr}{cap:Nat}{zs:List Nat}(h:Rd w k (.slice ao zs.length cap) zs):
  zs.length≤cap∧cap≤9223372036854775807∧(0<zs.length→ ∃b off,ao=some ⟨b,off,none⟩∧ ∀i,i<zs.length→w.cell? ⟨b,off+i,none⟩=some (.int k ((zs.getD i 0:Nat):Int))):=by
 obtain⟨ao',cap',hv,hlc,hm,hc⟩:=h;simp only[Value.slice.injEq,true_and] at hv;obtain⟨rfl,rfl⟩:=hv;unfold maxLen at hm;exact⟨hlc,hm,hc⟩
theorem jC (v:Value)(zs:List Nat)(w:World)(h:Rd w .u32 v zs):
  yC 71 #[v] w fun e w'=>e= .returned (yi (chk zs))∧w'=w:=by
 obtain⟨ao,cap,rfl,hlc,hm,hc⟩:=h;unfold maxLen at hm
 by_cases h0:zs.length=0
 ·have hz:zs=[]:=List.eq_nil_of_length_eq_zero h0
  subst hz
  go_enter func71,ntmps71
  go_wp2
  go_ret
  exact⟨rfl,rfl⟩
 ·obtain⟨b,off,rfl,hcell⟩:=hc (by omega)
  have h1:=hcell (zs.length-1) (by omega)
  by_cases hz:zs.getD (zs.length-1) 0=0
  ·have e1:chk zs=1:=Oq (by omega) hz
   rw[e1];rw[hz] at h1;clear hcell hc e1 hz
   go_enter func71,ntmps71
   go_wp2
   go_ret
   exact⟨rfl,rfl⟩
  ·obtain⟨d,hd⟩: ∃d,zs.getD (zs.length-1) 0=d:=⟨_,rfl⟩
   by_cases hg:1200<zs.length
   ·rw[Ot hz hg]
    rw[hd] at h1 hz;clear hcell hc hd
    go_enter func71,ntmps71
    go_wp2
    go_ret
    exact⟨rfl,rfl⟩
   ·rw[ZT hz hg]
    rw[hd] at h1 hz;clear hcell hc hd
    go_enter func71,ntmps71
    go_wp2
    go_ret
    exact⟨rfl,rfl⟩
def Ou (zs:List Nat)(n:Nat):Prop:=n≤zs.length∧(∀i,n≤i→zs.getD i 0=0)∧(0<n→zs.getD (n-1) 0≠0)
theorem jD (ao:Option Addr)(len cap:Nat)(zs:List Nat)(w:World)(h:Rd w .u32 (.slice ao len cap) zs):
  yC 82 #[.slice ao len cap] w fun e w'=> ∃n,e= .returned (.slice ao n cap)∧Ou zs n∧w'=w:=by
 obtain rfl:=wn h;obtain⟨hlc,hm,hc⟩:=iQ h
 go_enter func82,ntmps82
 go_wp2
 go_loop [3] (fun i=> ∃k:Nat,k≤zs.length∧i=yi k∧Hid (∀i,k≤i→zs.getD i 0=0)) (fun i=>(intOf i).toNat)
 case atStart=>exact⟨zs.length,Nat.le_refl _,rfl,fun i hi=>Dg.getD_of_le _ _ hi⟩
 case round=>
  obtain⟨k,hk,rfl,hz⟩:=hrel
  by_cases hk0:k=0
  ·subst hk0
   go_wp2
   go_ret
   exact⟨0,rfl,⟨Nat.zero_le _,hz,fun h=>absurd h (by omega)⟩,rfl⟩
  ·obtain⟨b,off,rfl,hcell⟩:=hc (by omega)
   have h1:=hcell (k-1) (by omega);obtain⟨d,hd⟩: ∃d,zs.getD (k-1) 0=d:=⟨_,rfl⟩;rw[hd] at h1;have Hd:Hid _:=hd;clear hd hcell hc h
   by_cases hd0:d=0
   ·subst hd0
    go_wp2
    go_round
    case rel=>exact⟨k-1,by omega,by go_num,fun i hi=>by
     by_cases e:i=k-1
     ·rw[e];exact Hd.out
     ·exact hz i (by omega)⟩
    case measure=>simp[intOf];omega
   ·go_wp2
    go_ret
    exact⟨k,rfl,⟨hk,hz,fun _=>by rw[Hd.out];exact hd0⟩,rfl⟩
theorem i9 (ao:Option Addr)(len cap:Nat)(zs:List Nat)(w:World)(h:Rd w .i64 (.slice ao len cap) zs):
  yC 66 #[.slice ao len cap] w fun e w'=> ∃n,e= .returned (.slice ao n n)∧Ou zs n∧w'=w:=by
 obtain rfl:=wn h;obtain⟨hlc,hm,hc⟩:=iQ h
 go_enter func66,ntmps66
 go_wp2
 go_loop [3] (fun i=> ∃k:Nat,k≤zs.length∧i=yi k∧Hid (∀i,k≤i→zs.getD i 0=0)) (fun i=>(intOf i).toNat)
 case atStart=>exact⟨zs.length,Nat.le_refl _,rfl,fun i hi=>Dg.getD_of_le _ _ hi⟩
 case round=>
  obtain⟨k,hk,rfl,hz⟩:=hrel
  by_cases hk0:k=0
  ·subst hk0
   go_wp2
   go_ret
   exact⟨0,rfl,⟨Nat.zero_le _,hz,fun h=>absurd h (by omega)⟩,rfl⟩
  ·obtain⟨b,off,rfl,hcell⟩:=hc (by omega)
   have h1:=hcell (k-1) (by omega);obtain⟨d,hd⟩: ∃d,zs.getD (k-1) 0=d:=⟨_,rfl⟩;rw[hd] at h1;have Hd:Hid _:=hd;clear hd hcell hc h
   by_cases hd0:d=0
   ·subst hd0
    go_wp2
    go_round
    case rel=>exact⟨k-1,by omega,by go_num,fun i hi=>by
     by_cases e:i=k-1
     ·rw[e];exact Hd.out
     ·exact hz i (by omega)⟩
    case measure=>simp[intOf];omega
   ·go_wp2
    go_ret
    exact⟨k,rfl,⟨hk,hz,fun _=>by rw[Hd.out];exact hd0⟩,rfl⟩
def dm (a b:Int):Int:=if a<b then-1 else if b<a then 1 else 0
theorem AM (a b:Int)(w:World):yC 147 #[yi a,yi b] w fun e w'=>e= .returned (yi (dm a b))∧w'=w:=by
 unfold dm
 by_cases h1:a<b
 ·rw[if_pos h1]
  go_enter func147,ntmps147
  go_wp2
  go_ret
  exact⟨rfl,rfl⟩
 ·by_cases h2:b<a
  ·rw[if_neg h1,if_pos h2]
   go_enter func147,ntmps147
   go_wp2
   go_ret
   exact⟨rfl,rfl⟩
  ·rw[if_neg h1,if_neg h2]
   go_enter func147,ntmps147
   go_wp2
   go_ret
   exact⟨rfl,rfl⟩
theorem RF (a b:Int)(w:World):yC 148 #[.int .u32 a,.int .u32 b] w fun e w'=>e= .returned (yi (dm a b))∧w'=w:=by
 unfold dm
 by_cases h1:a<b
 ·rw[if_pos h1]
  go_enter func148,ntmps148
  go_wp2
  go_ret
  exact⟨rfl,rfl⟩
 ·by_cases h2:b<a
  ·rw[if_neg h1,if_pos h2]
   go_enter func148,ntmps148
   go_wp2
   go_ret
   exact⟨rfl,rfl⟩
  ·rw[if_neg h1,if_neg h2]
   go_enter func148,ntmps148
   go_wp2
   go_ret
   exact⟨rfl,rfl⟩
theorem Tryz.infoU32:(Tryz.prog.info? 108).map (fun i=>(i.zero,i.size,i.bytes))=some (some (.int .u32 0),1,4):=by kernel_rfl
def abn (xs ys ps:List Nat)(i:Nat):Prop:=
 ps.length=xs.length+ys.length∧Dg.Small 4294967296 ps∧(∀j,i+ys.length≤j→ps.getD j 0=0)∧Dg.vl 4294967296 ps=Dg.vl 4294967296 (xs.take i)*Dg.vl 4294967296 ys
def YE (xs ys ps:List Nat)(i j c:Nat):Prop:=
 ps.length=xs.length+ys.length∧Dg.Small 4294967296 ps∧c<4294967296∧(∀j,i+ys.length≤j→ps.getD j 0=0)∧
  Dg.vl 4294967296 ps+4294967296^ (i+j)*c=Dg.vl 4294967296 (xs.take i)*Dg.vl 4294967296 ys+4294967296^i*(xs.getD i 0*Dg.vl 4294967296 (ys.take j))
theorem QF (xs ys:List Nat):abn xs ys (List.replicate (xs.length+ys.length) 0) 0:=by
 refine⟨by simp,Dg.small_replicate _ _ (by omega),fun j _=> ?_, ?_⟩
 ·by_cases h:j<xs.length+ys.length<;>simp[List.getD_eq_getElem?_getD,h]
 ·simp[Dg.vl_replicate_zero,Dg.vl]
theorem QG {xs ys ps:List Nat}{i:Nat}(h:abn xs ys ps i):YE xs ys ps i 0 0:=
 ⟨h.1,h.2.1,by omega,h.2.2.1,by rw[h.2.2.2];simp[Dg.vl]⟩
theorem UO {xs ys ps:List Nat}{i j c:Nat}(h:YE xs ys ps i j c)(hi:i<xs.length)(hj:j<ys.length)(t:Nat)(ht:t=c+(xs.getD i 0*ys.getD j 0+ps.getD (i+j) 0))(hlt:t<18446744073709551616):
  YE xs ys (ps.set (i+j) (t % 4294967296)) i (j+1) (t/4294967296):=by
 obtain⟨h1,h2,h3,h4,h5⟩:=h;have hl:i+j<ps.length:=by omega
 refine⟨by simpa using h1,Dg.small_set h2 _ _ (Nat.mod_lt _ (by omega)),by omega,fun k hk=> ?_, ?_⟩
 ·rw[Dg.getD_set _ _ _ _ hl,if_neg (by omega)];exact h4 k hk
 ·have hs:=Dg.vl_set 4294967296 ps (i+j) (t % 4294967296) hl
  rw[Dg.vl_take_succ _ _ _ hj];have hp:4294967296^ (i+(j+1))*(t/4294967296)=4294967296^ (i+j)*(4294967296*(t/4294967296)):=by
   rw[show i+(j+1)=(i+j)+1 from by omega,Nat.pow_succ,Nat.mul_assoc]
  have hm:4294967296^ (i+j)*t=4294967296^ (i+j)*(t % 4294967296)+4294967296^ (i+j)*(4294967296*(t/4294967296)):=by
   rw[←Nat.mul_add,Nat.mod_add_div]
  have he:4294967296^ (i+j)*t=4294967296^ (i+j)*c+4294967296^ (i+j)*(xs.getD i 0*ys.getD j 0)+4294967296^ (i+j)*ps.getD (i+j) 0:=by
   rw[ht,Nat.mul_add,Nat.mul_add,Nat.add_assoc]
  have hd:4294967296^i*(xs.getD i 0*(Dg.vl 4294967296 (ys.take j)+4294967296^j*ys.getD j 0))=4294967296^i*(xs.getD i 0*Dg.vl 4294967296 (ys.take j))+4294967296^ (i+j)*(xs.getD i 0*ys.getD j 0):=by
   rw[Nat.mul_add,Nat.mul_add,Nat.pow_add]
   congr 1
   rw[Nat.mul_assoc,Nat.mul_left_comm (xs.getD i 0)]
  rw[hp,hd];omega
theorem UP {xs ys ps:List Nat}{i c:Nat}(h:YE xs ys ps i ys.length c)(hi:i<xs.length):abn xs ys (ps.set (i+ys.length) c) (i+1):=by
 obtain⟨h1,h2,h3,h4,h5⟩:=h;have hl:i+ys.length<ps.length:=by omega
 refine⟨by simpa using h1,Dg.small_set h2 _ _ h3,fun k hk=> ?_, ?_⟩
 ·rw[Dg.getD_set _ _ _ _ hl,if_neg (by omega)];exact h4 k (by omega)
 ·have hs:=Dg.vl_set 4294967296 ps (i+ys.length) c hl
  rw[h4 _ (Nat.le_refl _)] at hs;rw[Dg.vl_take_succ _ _ _ hi,Nat.add_mul,Nat.mul_assoc];rw[List.take_of_length_le (Nat.le_refl _)] at h5;omega
theorem uf {x y:Nat}(hx:x<4294967296)(hy:y<4294967296):x*y≤18446744065119617025:=by
 have:=Nat.mul_le_mul (Nat.le_sub_one_of_lt hx) (Nat.le_sub_one_of_lt hy)
 simpa using this
theorem YF (c x y p:Nat):((c:Int)+((x:Int)*(y:Int)+(p:Int))) % 4294967296=(((c+(x*y+p)) % 4294967296:Nat):Int):=by
 rw[←Int.natCast_mul];omega
theorem YG (c x y p:Nat):((c:Int)+((x:Int)*(y:Int)+(p:Int)))/4294967296=(((c+(x*y+p))/4294967296:Nat):Int):=by
 rw[←Int.natCast_mul];omega
theorem jW {w:World}{base e:Nat}{k:IntKind}{g n cap m:Nat}{zs:List Nat}(B:Nat)(hB:2≤B)(h:Own w base e k (.slice (some ⟨g,0,none⟩) n cap) zs)(hs:Dg.Small B zs)(ht:Ou zs m):
  Own w base e k (.slice (some ⟨g,0,none⟩) m cap) (Dg.dg B (Dg.vl B zs)):=by
 rw[←Dg.trim_eq B hB zs m hs ht.1 ht.2.1 ht.2.2];exact h.take m ht.1
theorem qC (va vb:Value)(xs ys:List Nat)(w:World)(ha:Rd w .u32 va xs)(hb:Rd w .u32 vb ys)(sa:Dg.Small 4294967296 xs)(sb:Dg.Small 4294967296 ys)(hla:xs.length≤1000000)(hlb:ys.length≤1000000):
  yC 91 #[va,vb] w fun e w'=>
   ∃v,e= .returned v∧Own w' w.heap.size 108 .u32 v (Dg.dg 4294967296 (Dg.vl 4294967296 xs*Dg.vl 4294967296 ys))∧yB w w':=by
 obtain⟨i0,hi,hz0,hz1,hz2⟩:=info_parts Tryz.infoU32;obtain⟨ao,ca,rfl,-,-,hca⟩:=ha;obtain⟨bo,cb,rfl,-,-,hcb⟩:=hb
 go_enter func91,ntmps91
 go_wp2_with (at_make;refine wpList_make_full _ rfl _ _ 106 rfl w.heap.size 108 i0 (.int .u32 0) 1 underlying106 hi hz0 hz1 _ _ _ _ (xs.length+ys.length) rfl rfl (by omega) (by omega) ?b2 ?b3 (Nat.le_refl _) ?_)
 case b2=>rw[hz2];omega
 case b3=>unfold maxLen;omega
 intro w0 hown0 hgrow0;have own0:=gL hown0;have bel0:yB w w0:=(Below.refl _ _).grown hgrow0 (Nat.le_refl _) (fun k h=>by cases h)
 clear hown0 hgrow0
 go_wp2
 go_loopw [19] (fun iv wr=> ∃(i:Nat) (ps:List Nat),i≤xs.length∧iv=yi i∧Own wr w.heap.size 108 .u32 (.slice (some ⟨w.heap.size,0,none⟩) (xs.length+ys.length) (xs.length+ys.length)) ps∧abn xs ys ps i∧yB w wr)
  (fun iv _=>xs.length-(intOf iv).toNat)
 case atStart=>exact⟨0,_,Nat.zero_le _,rfl,own0,QF xs ys,bel0⟩
 case round=>
  obtain⟨i,ps,hil,rfl,own,hO,bel⟩:=hrel
  by_cases hlt:i<xs.length
  ·obtain⟨b,off,rfl,hcell⟩:=hca (by omega)
   have hx:=cell_later bel (hcell i hlt);have hxs:=sa i;obtain⟨x,ex⟩: ∃x,xs.getD i 0=x:=⟨_,rfl⟩;rw[ex] at hx hxs;have Hx:Hid _:=ex;clear ex hcell hca own0 bel0
   go_wp2
   go_loopw [8,26] (fun cv jv wr=> ∃(j c:Nat) (ps:List Nat),j≤ys.length∧jv=yi j∧cv= .int .u64 c∧Own wr w.heap.size 108 .u32 (.slice (some ⟨w.heap.size,0,none⟩) (xs.length+ys.length) (xs.length+ys.length)) ps∧YE xs ys ps i j c∧yB w wr)
    (fun _ jv _=>ys.length-(intOf jv).toNat)
   case atStart=>exact⟨0,0,ps,Nat.zero_le _,rfl,rfl,own,QG hO,bel⟩
   case round=>
    clear own hO bel ps hx;obtain⟨j,c,ps,hjl,rfl,rfl,own,hI,bel⟩:=hrel;have hpl:=hI.1;have hcl:=hI.2.2.1
    by_cases hjt:j<ys.length
    ·obtain⟨b2,off2,rfl,hcell2⟩:=hcb (by omega)
     have hy:=cell_later bel (hcell2 j hjt);have hys:=sb j;have hp:=own.c (i+j) (by omega);have hps:=hI.2.1 (i+j);have hfr:=own.f (i+j);obtain⟨y,ey⟩: ∃y,ys.getD j 0=y:=⟨_,rfl⟩;obtain⟨p,ep⟩: ∃p,ps.getD (i+j) 0=p:=⟨_,rfl⟩;rw[ey] at hy hys;rw[ep] at hp hps;have Hy:Hid _:=ey;have Hp:Hid _:=ep;have hxy:=uf hxs hys;have hxyI:(x:Int)*(y:Int)≤18446744065119617025:=by rw[←Int.natCast_mul];omega
     have hxy0:0≤(x:Int)*(y:Int):=by rw[←Int.natCast_mul];omega
     clear ey ep hcell2 hcb
     go_wp2
     go_roundw
     case rel=>
      rw[YF,YG];exact⟨j+1,(c+(x*y+p))/4294967296,_,by omega,by go_num,rfl,own.store (i+j) _,UO hI hlt hjt _ (by rw[Hx.out,Hy.out,Hp.out]) (by omega),bel.setCell (by exact Nat.le_refl _) _⟩
     case measure=>simp[intOf];omega
    ·have hj:j=ys.length:=by omega
     subst hj;have hp:=own.c (i+ys.length) (by omega);have hfr:=own.f (i+ys.length)
     go_wp2
     go_roundw
     case rel=>exact⟨i+1,_,by omega,by go_num,own.store (i+ys.length) c,UP hI hlt,bel.setCell (by exact Nat.le_refl _) _⟩
     case measure=>simp[intOf];omega
  ·have hie:i=xs.length:=by omega
   subst hie;have hpl:=hO.1;have rd:=own.rd
   go_wp2_with fail
   refine(jD _ _ _ ps _ rd).mono ?_;rintro e w' ⟨m,rfl,hm,rfl⟩
   go_wp2
   go_ret
   refine⟨_,rfl, ?_,bel⟩;have:=jW 4294967296 (by omega) own hO.2.1 hm;rw[hO.2.2.2,List.take_of_length_le (Nat.le_refl _)] at this;exact this
def Num (w:World)(n:Nat)(e:Ending)(w':World):Prop:=
 ∃v,e= .returned v∧Own w' w.heap.size 108 .u32 v (Dg.dg 4294967296 n)∧yB w w'
theorem KJ (hi lo:Nat)(h1:hi<4294967296)(h2:lo<4294967296):bits .or .u64 ((hi:Int)*4294967296) lo=((hi*4294967296+lo:Nat):Int):=by
 have e:((hi:Int)*4294967296)=((hi*4294967296:Nat):Int):=by omega
 rw[e,u64_or_nat _ _ (by omega) (by omega)];have:=nat_join 32 (hi*4294967296) lo (by omega) (by omega);rw[this]
theorem I6 {t y:Nat}{hi lo:Nat}(h1:hi<y)(h2:lo<4294967296)(ht:t=hi*4294967296+lo):t/y<4294967296:=by
 rw[Nat.div_lt_iff_lt_mul (by omega)];have:(hi+1)*4294967296≤y*4294967296:=Nat.mul_le_mul_right _ h1;rw[Nat.mul_comm 4294967296 y];omega
theorem Vb (hi lo y:Nat)(w:World)(h1:hi<y)(h2:lo<4294967296)(h3:y<4294967296):
  yC 169 #[.int .u32 hi,.int .u32 lo,.int .u32 y] w (yR w (.tuple #[.int .u32 ((hi*4294967296+lo)/y:Nat),.int .u32 ((hi*4294967296+lo) % y:Nat)])):=by
 have hor:=KJ hi lo (by omega) h2;obtain⟨t,ht⟩: ∃t,hi*4294967296+lo=t:=⟨_,rfl⟩;have hq1:=I6 h1 h2 ht.symm;have htb:t<18446744073709551616:=by omega
 rw[ht] at hor⊢;have hr1:t % y<y:=Nat.mod_lt _ (by omega);obtain⟨q,hq⟩: ∃q,t/y=q:=⟨_,rfl⟩;obtain⟨r,hr⟩: ∃r,t % y=r:=⟨_,rfl⟩;have hqI:(t:Int)/(y:Int)=(q:Int):=by rw[←hq];exact(Int.natCast_ediv t y).symm
 have hrI:(t:Int) % (y:Int)=(r:Int):=by rw[←hr];exact(Int.natCast_emod t y).symm
 rw[hq] at hq1⊢;rw[hr] at hr1⊢;clear hq hr ht;have hd:decide (y≤hi)=false:=by simp;omega
 have hy:((y:Int) != 0)=true:=by rw[bne_iff_ne];omega
 go_enter func169,ntmps169
 go_wp2
 go_quiet (fail)
 go_wp2
 go_ret2
 exact⟨rfl,aL (Below.refl _ _) _⟩
theorem Own.heap {w:World}{base e:Nat}{k:IntKind}{g n:Nat}{zs:List Nat}(h:Own w base e k (.slice (some ⟨g,0,none⟩) n n) zs):
  w.heap[g]? =some (.cells (zs.map (fun n:Nat=>Value.int k n)).toArray e (0,0)):=by
 have hn:=h.len;subst hn
 rcases h.2 with⟨hv,_⟩| ⟨g',cap',cur,hv,hb,hh,hnc,hcm,hcs,htake⟩
 ·simp at hv
 ·simp only[Value.slice.injEq,Option.some.injEq,Addr.mk.injEq,and_true,true_and] at hv
  obtain⟨rfl,rfl⟩:=hv;rw[hh,←htake,List.take_of_length_le (by rw[Array.length_toList,hcs];omega)]
theorem pr {w:World}{base e:Nat}{k:IntKind}{g:Nat}{zs:List Nat}(h:w.heap[g]? =some (.cells (zs.map (fun n:Nat=>Value.int k (n:Int))).toArray e (0,0)))(hb:base≤g)(hm:zs.length≤maxLen):
  Own w base e k (.slice (some ⟨g,0,none⟩) zs.length zs.length) zs:=by
 refine⟨by simp,.inr ⟨g,_,_,rfl,hb,h,Nat.le_refl _,hm,by simp, ?_⟩⟩;simp only[Nat.mul_one];exact List.take_of_length_le (by simp)
theorem rO (b off j:Nat):(⟨b,off,none⟩:Addr).add j=⟨b,off+j,none⟩:=by
 simp only[Addr.add]
 split
 ·rename_i h;subst h;rfl
 ·rfl
theorem Nv (w:World)(g:Nat)(old cs:Array Value)(t:TypeId)(hg:w.heap[g]? =some (.cells old t (0,0))):(w.setRow g cs).heap[g]? =some (.cells cs t (0,0)):=by
 simp[World.setRow,Array.getElem?_modify,hg]
theorem j9 (k:IntKind)(zs:List Nat)(j:Nat)(hj:j<zs.length):(zs.map (fun n:Nat=>Value.int k (n:Int)))[j]? =some (.int k ((zs.getD j 0:Nat):Int)):=by
 rw[List.getElem?_map,List.getElem?_eq_getElem hj];simp[List.getD_eq_getElem?_getD,hj]
theorem Nw {P:Program}{w:World}{base e:Nat}{k:IntKind}{g n m cap:Nat}{ao:Option Addr}{ds zs:List Nat}(dT sT ty:Nat)(hu:P.underlying dT=some (.slice e))(hsz:(P.info? e).map (·.size)=some 1)
  (ho:Own w base e k (.slice (some ⟨g,0,none⟩) n n) ds) (hr:Rd w k (.slice ao m cap) zs) (hle:zs.length≤ds.length):
  ∃w1,(Builtin.copy_ #[dT,sT] ty #[.slice (some ⟨g,0,none⟩) n n,.slice ao m cap]).run P w= .ok (yi m) w1∧Own w1 base e k (.slice (some ⟨g,0,none⟩) n n) (zs++ds.drop zs.length)∧w.grownBy w1 (some g):=by
 have hn:=ho.len;have hm:=wn hr;subst hn hm;have hh:=ho.heap;have hbl:=ho.block;have hml:ds.length≤maxLen:=by
  rcases ho.2 with⟨hv,_⟩| ⟨g',cap',cur,hv,hb,hh,hnc,hcm,hcs,htake⟩
  ·simp at hv
  ·omega
 by_cases h0:zs.length=0
 ·obtain rfl:zs=[]:=List.eq_nil_of_length_eq_zero h0
  refine⟨w,run_copy_none (P:=P) w dT sT ty e _ _ _ _ _ _ hu hsz (by simp),by simpa using ho,⟨rfl,rfl,rfl,Nat.le_refl _,fun _ _ _=>rfl⟩⟩
 ·obtain⟨-,-,hc⟩:=iQ hr
  obtain⟨b,off,rfl,hcell⟩:=hc (by omega);have hrun:=run_copy_row (P:=P) w dT sT ty e g 0 ds.length ds.length ⟨b,off,none⟩ zs.length cap _ e (zs.map (fun n:Nat=>Value.int k n)) hu hsz hh (by rw[List.length_map];exact(Nat.min_eq_left hle).symm)
   (by
    intro j u hj;have hjl:j<zs.length:=by have:=(List.getElem?_eq_some_iff.1 hj).1;simpa using this
    rw[j9 k zs j hjl] at hj;rw[rO,hcell j hjl];exact hj)
   (by simpa using hle) (by intro u hu;simp at hu;obtain⟨a,_,rfl⟩:=hu;rfl)
  refine⟨w.setRow g (zs.map (fun n:Nat=>Value.int k n)++(ds.map (fun n:Nat=>Value.int k n)).drop zs.length).toArray,by rw[hrun];simp[goInt], ?_,⟨rfl,rfl,rfl,by simp[World.setRow],fun j _ hj=>setRow_other w g j _ (fun e=>hj (by rw[e]))⟩⟩
  have hlen:(zs++ds.drop zs.length).length=ds.length:=by simp;omega
  have:=pr (w:=w.setRow g (zs.map (fun n:Nat=>Value.int k n)++(ds.map (fun n:Nat=>Value.int k n)).drop zs.length).toArray) (base:=base) (e:=e) (k:=k) (g:=g) (zs:=zs++ds.drop zs.length)
   (by rw[Nv w g _ _ e hh];simp[List.map_drop]) hbl.1 (by omega)
  rw[hlen] at this
  simpa using this
theorem Bz (v:Value)(zs:List Nat)(w:World)(h:Rd w .u32 v zs)(hl:zs.length≤1000000):
  yC 160 #[v] w fun e w'=>e= .returned (.slice (some ⟨w.heap.size,0,none⟩) zs.length zs.length)∧Own w' w.heap.size 108 .u32 (.slice (some ⟨w.heap.size,0,none⟩) zs.length zs.length) zs∧yB w w':=by
 obtain⟨i0,hi,hz0,hz1,hz2⟩:=info_parts Tryz.infoU32;have hsz:(Tryz.prog.info? 108).map (·.size)=some 1:=by rw[hi];simp[hz1]
 obtain⟨ao,ca,rfl⟩:=h.shape
 go_enter func160,ntmps160
 go_wp2_with (at_make;refine wpList_make_full _ rfl _ _ 106 rfl w.heap.size 108 i0 (.int .u32 0) 1 underlying106 hi hz0 hz1 _ _ _ _ zs.length rfl rfl (by omega) (by omega) ?b2 ?b3 (Nat.le_refl _) ?_)
 case b2=>rw[hz2];omega
 case b3=>unfold maxLen;omega
 intro w0 hown0 hgrow0;have own0:=gL hown0;have bel0:yB w w0:=(Below.refl _ _).grown hgrow0 (Nat.le_refl _) (fun k h=>by cases h)
 obtain⟨w1,hrun,own1,gr1⟩:=Nw 106 106 3 underlying106 hsz own0 (h.l bel0) (by simp);have bel1:=bel0.grown gr1 bel0.size (fun k hk=>by cases hk;exact Nat.le_refl _)
 clear hown0 hgrow0 hsz
 go_wp2
 go_ret
 refine⟨rfl, ?_,bel1⟩;have e:zs++(List.replicate zs.length 0).drop zs.length=zs:=by simp
 rw[e] at own1;exact own1
theorem Ew {w w':World}(g:Option Nat)(h:yB w w'):w.grownBy w' g:=⟨h.os,h.tape,h.output,h.size,fun k hk _=>h.block k hk⟩
theorem ib (w:World)(g:Option Nat):w.grownBy w g:=⟨rfl,rfl,rfl,Nat.le_refl _,fun _ _ _=>rfl⟩
theorem eF {w w1 w2:World}{g:Option Nat}(h:w.grownBy w1 g)(k:w1.grownBy w2 g):w.grownBy w2 g:=
 ⟨k.os.trans h.os,k.tape.trans h.tape,k.output.trans h.output,Nat.le_trans h.size k.size,fun i hi hne=>(k.block i (Nat.lt_of_lt_of_le hi h.size) hne).trans (h.block i hi hne)⟩
theorem bI (w:World)(g j:Nat)(u:Value):w.grownBy (w.setCell ⟨g,j,none⟩ u) (some g):=
 ⟨rfl,rfl,rfl,by simp[World.setCell],fun k _ hk=>Below.heap_setCell w ⟨g,j,none⟩ u k (fun e=>hk (by rw[e]))⟩
def acQ (zs cur:List Nat)(d k r:Nat):Prop:=
 cur.length=zs.length∧Dg.Small 4294967296 cur∧r<d∧(∀j,j<k→cur.getD j 0=zs.getD j 0)∧Dg.vl 4294967296 (zs.drop k)=Dg.vl 4294967296 (cur.drop k)*d+r
theorem AU (l:List Nat)(k:Nat)(h:k<l.length):l.drop k=l.getD k 0::l.drop (k+1):=by
 rw[List.drop_eq_getElem_cons h];simp[List.getD_eq_getElem?_getD,h]
theorem Tx {zs cur:List Nat}{d k r t:Nat}(h:acQ zs cur d (k+1) r)(hk:k<zs.length)(ht:t=r*4294967296+zs.getD k 0)(hd:0<d)(hq:t/d<4294967296):
  acQ zs (cur.set k (t/d)) d k (t % d):=by
 obtain⟨h1,h2,h3,h4,h5⟩:=h;refine⟨by simpa using h1,Dg.small_set h2 _ _ hq,Nat.mod_lt _ hd,fun j hj=> ?_, ?_⟩
 ·rw[Dg.getD_set _ _ _ _ (by omega),if_neg (by omega)];exact h4 j (by omega)
 ·rw[AU zs k hk,AU (cur.set k (t/d)) k (by simpa using(by omega:k<cur.length)),Dg.getD_set _ _ _ _ (by omega),if_pos rfl,List.drop_set_of_lt (by omega)]
  simp only[Dg.vl];rw[h5];have:=Nat.div_add_mod t d;rw[Nat.add_mul,Nat.mul_comm (t/d) d,Nat.mul_assoc,Nat.mul_add];have e:r*4294967296=4294967296*r:=Nat.mul_comm _ _;omega
theorem uG (g n cap base:Nat)(zs:List Nat)(d:Nat)(w:World)(ho:Own w base 108 .u32 (.slice (some ⟨g,0,none⟩) n cap) zs)(hs:Dg.Small 4294967296 zs)(hd:0<d)(hd2:d<4294967296)(hl:zs.length≤1000000):
  yC 161 #[.slice (some ⟨g,0,none⟩) n cap,.int .u32 d] w fun e w'=>
   ∃qs,e= .returned (.int .u32 ((Dg.vl 4294967296 zs % d:Nat):Int))∧Own w' base 108 .u32 (.slice (some ⟨g,0,none⟩) n cap) qs∧qs.length=zs.length∧Dg.Small 4294967296 qs∧Dg.vl 4294967296 qs=Dg.vl 4294967296 zs/d∧w.grownBy w' (some g):=by
 have hn:=ho.len;subst hn
 go_enter func161,ntmps161
 go_wp2
 go_loopw [5,6] (fun rv iv wr=> ∃(k r:Nat) (cur:List Nat),k≤zs.length∧iv=yi ((k:Int)-1)∧rv= .int .u32 r∧Own wr base 108 .u32 (.slice (some ⟨g,0,none⟩) zs.length cap) cur∧acQ zs cur d k r∧w.grownBy wr (some g))
  (fun _ iv _=>(intOf iv+1).toNat)
 case atStart=>exact⟨zs.length,0,zs,Nat.le_refl _,rfl,rfl,ho,⟨rfl,hs,hd,fun _ _=>rfl,by simp[Dg.vl]⟩,ib _ _⟩
 case round=>
  obtain⟨k,r,cur,hk,rfl,rfl,own,hI,gr⟩:=hrel
  by_cases hk0:k=0
  ·subst hk0
   go_wp2
   go_ret
   obtain⟨h1,h2,h3,h4,h5⟩:=hI;simp only[List.drop_zero] at h5;have e1:Dg.vl 4294967296 zs/d=Dg.vl 4294967296 cur:=by
    rw[h5,Nat.mul_comm,Nat.mul_add_div hd,Nat.div_eq_of_lt h3];omega
   have e2:Dg.vl 4294967296 zs % d=r:=by
    rw[h5,Nat.mul_comm,Nat.mul_add_mod,Nat.mod_eq_of_lt h3]
   exact⟨cur,by rw[e2];rfl,own,h1,h2,e1.symm,gr⟩
  ·obtain⟨m,rfl⟩: ∃m,k=m+1:=⟨k-1,by omega⟩
   have hlen:=hI.1;have hz:=own.c m (by omega);have hf:=own.f m;have hr:=hI.2.2.1;have hzs:=hs m;rw[hI.2.2.2.1 m (by omega)] at hz;obtain⟨z,ez⟩: ∃z,zs.getD m 0=z:=⟨_,rfl⟩;rw[ez] at hz hzs;have Hz:Hid _:=ez;clear ez;have hq:=I6 (t:=r*4294967296+z) hr hzs rfl
   go_wp2_with fail
   refine(Vb r z d wr hr hzs hd2).mono ?_;rintro e w1 ⟨rfl,bel⟩;have own1:=own.l bel;have hz1:=own1.c m (by omega);have hf1:=own1.f m;have gr1:=eF gr (Ew (some g) bel)
   go_wp2
   go_roundw
   case rel=>exact⟨m,_,_,by omega,by go_num,rfl,own1.store m _,Tx hI (by omega) (by rw[Hz.out]) hd hq,eF gr1 (bI _ _ _ _)⟩
   case measure=>simp[intOf]
theorem vm (w:World)(g:Option Nat):w.grownBy w.drew g:=⟨rfl,rfl,rfl,Nat.le_refl _,fun _ _ _=>rfl⟩
def XT (zs cur:List Nat)(i:Nat):Prop:=
 cur.length=zs.length∧2*i≤zs.length+1∧ ∀k,k<zs.length→cur.getD k 0=if k<i∨zs.length-1-i<k then zs.getD (zs.length-1-k) 0 else zs.getD k 0
theorem IJ {zs cur:List Nat}{i:Nat}(h:XT zs cur i)(hi:i<zs.length-1-i):XT zs ((cur.set i (cur.getD (zs.length-1-i) 0)).set (zs.length-1-i) (cur.getD i 0)) (i+1):=by
 obtain⟨h1,h2,h3⟩:=h;refine⟨by simpa using h1,by omega,fun k hk=> ?_⟩
 rw[Dg.getD_set _ _ _ _ (by simp;omega),Dg.getD_set _ _ _ _ (by omega)]
 by_cases e1:zs.length-1-i=k
 ·rw[if_pos e1,if_pos (by omega),h3 i (by omega),if_neg (by omega)]
  rw[←e1,show zs.length-1-(zs.length-1-i)=i from by omega]
 ·rw[if_neg e1]
  by_cases e2:i=k
  ·rw[if_pos e2,if_pos (by omega),h3 _ (by omega),if_neg (by omega),←e2]
  ·rw[if_neg e2,h3 k hk]
   by_cases e3:k<i∨zs.length-1-i<k
   ·rw[if_pos e3,if_pos (by omega)]
   ·rw[if_neg e3,if_neg (by omega)]
theorem MG {zs cur:List Nat}{i:Nat}(h:XT zs cur i)(hi: ¬i<zs.length-1-i):cur=zs.reverse:=by
 obtain⟨h1,h2,h3⟩:=h;apply List.ext_getElem (by simpa using h1);intro k hk1 hk2;have hk:k<zs.length:=by omega
 have:=h3 k hk;have e1:cur.getD k 0=cur[k]:=by simp[List.getD_eq_getElem?_getD,hk1]
 have e2:zs.reverse[k]=zs.getD (zs.length-1-k) 0:=by
  rw[List.getElem_reverse];simp[List.getD_eq_getElem?_getD,show zs.length-1-k<zs.length from by omega]
 rw[←e1,this,e2]
 by_cases e3:k<i∨zs.length-1-i<k
 ·rw[if_pos e3]
 ·rw[if_neg e3,show zs.length-1-k=k from by omega]
theorem Tryz.infoU8:(Tryz.prog.info? 5).map (fun i=>(i.zero,i.size,i.bytes))=some (some (.int .u8 0),1,1):=by kernel_rfl
def cF (zs:List Nat):ByteArray:=⟨(zs.map (fun n=>UInt8.ofNat n)).toArray⟩
theorem Iu: ∀(zs:List Nat) (s:ByteArray),((zs.map (fun n:Nat=>(n:Int))).foldl (fun r n=>r.push (UInt8.ofNat n.toNat)) s)=⟨s.data++(zs.map (fun n=>UInt8.ofNat n)).toArray⟩:=by
 intro zs
 induction zs with
 |nil=>intro s;simp
 |cons z zs ih=>
  intro s;simp only[List.map_cons,List.foldl_cons];rw[ih];simp[ByteArray.push]
theorem qP {B:Nat}{l:List Nat}{x:Nat}(h:Dg.Small B l)(hx:x<B):Dg.Small B (l++[x]):=by
 intro i;rw[List.getD_eq_getElem?_getD,List.getElem?_append]
 by_cases hi:i<l.length
 ·rw[if_pos hi];simpa[List.getD_eq_getElem?_getD] using h i
 ·rw[if_neg hi]
  by_cases h2:i-l.length=0
  ·simp[h2];exact hx
  ·rw[List.getElem?_eq_none (by simp;omega)];simp;omega
theorem Own.cap {w:World}{base e:Nat}{k:IntKind}{g n cap:Nat}{zs:List Nat}(h:Own w base e k (.slice (some ⟨g,0,none⟩) n cap) zs):n≤cap∧cap≤9223372036854775807:=by
 have hn:=h.len;subst hn
 rcases h.2 with⟨hv,_⟩| ⟨g',cap',cur,hv,hb,hh,hnc,hcm,hcs,htake⟩
 ·simp at hv
 ·simp only[Value.slice.injEq,Option.some.injEq,Addr.mk.injEq,and_true,true_and] at hv
  obtain⟨rfl,rfl⟩:=hv;exact⟨hnc,by unfold maxLen at hcm;exact hcm⟩
theorem aF {zs:List Nat}(h:chk zs=0):Dg.Norm zs∧zs.length≤1200:=by
 unfold chk at h
 by_cases h1:0<zs.length∧zs.getD (zs.length-1) 0=0
 ·rw[if_pos h1] at h;omega
 ·rw[if_neg h1] at h
  by_cases h2:1200<zs.length
  ·rw[if_pos h2] at h;omega
  ·refine⟨fun hne e=>h1 ⟨List.length_pos_iff.2 hne,e⟩,by omega⟩
theorem pJ {zs:List Nat}(h:Dg.Norm zs)(hl:zs.length≤1200):chk zs=0:=by
 unfold chk;rw[if_neg (fun c=>h (List.length_pos_iff.1 c.1) c.2),if_neg (by omega)]
theorem cE {w:World}{k:IntKind}{e:Nat}(zs:List Nat)(cs:Array Value)(hcs:cs=(zs.map (fun n:Nat=>Value.int k (n:Int))).toArray)(hl:zs.length≤maxLen):
  Rd (w.alloc (.cells cs e)) k (.slice (some ⟨w.heap.size,0,none⟩) zs.length zs.length) zs:=by
 refine⟨_,zs.length,rfl,Nat.le_refl _,hl,fun _=>⟨w.heap.size,0,rfl,fun i hi=> ?_⟩⟩
 rw[World.cell?_alloc_at _ _ _ _ rfl,hcs,Nat.zero_add];simp only[List.getElem?_toArray];exact j9 k zs i hi
end Go.Proofs.YtpainhklfoaniaaGreatDoor
