/-
  Texts laid together: Mem, Ab1, Leaf, Mul, Wrong, Div1, DivBy, Add, Ref2, Bits, Shift, Ref6, Dy2, Lk, Lk2, Rl, Take, Back, Long0, Long, Long1, Over, Co20, Gr2, Gr4, Gr7, Tx3, Gh1.
-/
import Derived.Deep.Cut
import Derived.ChangeMaps4
import Derived.Deep.DeepCutAuto
import Derived.Deep.AppendLies
import Derived.Test.YtlgkfdcmokchgaaGreatDoorUt01
set_option maxRecDepth 100000
set_option maxHeartbeats 1600000
namespace Go.Proofs.YtlgkfdcmokchgaaGreatDoor
open _root_.Go.Proofs.Tryz
open Go.RowKit
theorem Own.store {w:World}{base e:Nat}{k:IntKind}{g n cap:Nat}{zs:List Nat}(h:Own w base e k (.slice (some ⟨g,0,none⟩) n cap) zs)(j x:Nat):
  Own (w.setCell ⟨g,j,none⟩ (.int k x)) base e k (.slice (some ⟨g,0,none⟩) n cap) (zs.set j x):=by
 have hn:=h.len;subst hn;have:=(World.ownsRow.stored h j (.int k x)).1;unfold Own;rw[List.length_set,List.map_set];exact this
theorem Own.lower {w:World}{base base' e:Nat}{k:IntKind}{v:Value}{zs:List Nat}(h:Own w base e k v zs)(hb:base'≤base):Own w base' e k v zs:=by
 obtain⟨h1,h2⟩:=h;refine⟨h1, ?_⟩
 rcases h2 with h2| ⟨g,cap,cur,hv,hbg,r⟩
 ·exact .inl h2
 ·exact .inr ⟨g,cap,cur,hv,by omega,r⟩
theorem aQ (w:World)(base e:Nat)(k:IntKind):Own w base e k yN []:=World.ownsRow_nil w base e 1
theorem gL {w:World}{base e:Nat}{k:IntKind}{v:Value}{n:Nat}(h:w.ownsRow base e 1 v n (madeCells #[Value.int k 0] n).toList):Own w base e k v (List.replicate n 0):=by
 rw[toList_madeCells_one] at h
 simpa[Own] using h
abbrev yOL (c:Int)(g:Bool)(t:ak)(o:Option Addr)(k:Nat):List Value:=[.int .i64 c,.bool g,.bool t.s,.slice o (Dg.dg 4294967296 t.n).length k,.int .i64 t.e]
abbrev yOV (c:Int)(g:Bool)(t:ak)(o:Option Addr)(k:Nat):Value:= .agg #[.int .i64 c,.bool g,.bool t.s,.slice o (Dg.dg 4294967296 t.n).length k,.int .i64 t.e]
abbrev yOA (c:Int)(g:Bool)(t:ak)(o:Option Addr)(k:Nat):Array Value:= #[.int .i64 c,.bool g,.bool t.s,.slice o (Dg.dg 4294967296 t.n).length k,.int .i64 t.e]
abbrev yDL (t:ak)(o:Option Addr)(k:Nat):List Value:=[.bool t.s,.slice o (Dg.dg 4294967296 t.n).length k,.int .i64 t.e]
abbrev yDV (t:ak)(o:Option Addr)(k:Nat):Value:= .agg #[.bool t.s,.slice o (Dg.dg 4294967296 t.n).length k,.int .i64 t.e]
abbrev yDA (t:ak)(o:Option Addr)(k:Nat):Array Value:= #[.bool t.s,.slice o (Dg.dg 4294967296 t.n).length k,.int .i64 t.e]
theorem jD (ao:Option Addr)(len cap:Nat)(zs:List Nat)(w:World)(h:Rd w .u32 (.slice ao len cap) zs):
  yC 61 #[.slice ao len cap] w fun e w'=> ∃n,e= .returned (.slice ao n cap)∧Ou zs n∧w'=w:=by
 obtain rfl:=wn h;obtain⟨hlc,hm,hc⟩:=iQ h
 go_enter func61,ntmps61
 go_wp2
 go_loop [3] (fun i=> ∃k:Nat,k≤zs.length∧i=yi k∧Hid (∀i,k≤i→zs.getD i 0=0)) (fun i=>(intOf i).toNat)
 case atStart=>exact⟨zs.length,Nat.le_refl _,rfl,fun i hi=>Dg.getD_of_le _ _ hi⟩
 case round=>
  obtain⟨k,hk,rfl,hz⟩:=hrel
  by_cases hk0:k=0
  ·subst hk0
   go_wp2
   go_ret
   exact⟨0,rfl,⟨Nat.zero_le _,hz,fun h=>absurd h (by omega)⟩,rfl⟩
  ·obtain⟨b,off,rfl,hcell⟩:=hc (by omega)
   have h1:=hcell (k-1) (by omega);obtain⟨d,hd⟩: ∃d,zs.getD (k-1) 0=d:=⟨_,rfl⟩;rw[hd] at h1;have Hd:Hid _:=hd;clear hd hcell hc h
   by_cases hd0:d=0
   ·subst hd0
    go_wp2
    go_round
    case rel=>exact⟨k-1,by omega,by go_num,fun i hi=>by
     by_cases e:i=k-1
     ·rw[e];exact Hd.out
     ·exact hz i (by omega)⟩
    case measure=>simp[intOf];omega
   ·go_wp2
    go_ret
    exact⟨k,rfl,⟨hk,hz,fun _=>by rw[Hd.out];exact hd0⟩,rfl⟩
theorem i9 (ao:Option Addr)(len cap:Nat)(zs:List Nat)(w:World)(h:Rd w .i64 (.slice ao len cap) zs):
  yC 62 #[.slice ao len cap] w fun e w'=> ∃n,e= .returned (.slice ao n n)∧Ou zs n∧w'=w:=by
 obtain rfl:=wn h;obtain⟨hlc,hm,hc⟩:=iQ h
 go_enter func62,ntmps62
 go_wp2
 go_loop [3] (fun i=> ∃k:Nat,k≤zs.length∧i=yi k∧Hid (∀i,k≤i→zs.getD i 0=0)) (fun i=>(intOf i).toNat)
 case atStart=>exact⟨zs.length,Nat.le_refl _,rfl,fun i hi=>Dg.getD_of_le _ _ hi⟩
 case round=>
  obtain⟨k,hk,rfl,hz⟩:=hrel
  by_cases hk0:k=0
  ·subst hk0
   go_wp2
   go_ret
   exact⟨0,rfl,⟨Nat.zero_le _,hz,fun h=>absurd h (by omega)⟩,rfl⟩
  ·obtain⟨b,off,rfl,hcell⟩:=hc (by omega)
   have h1:=hcell (k-1) (by omega);obtain⟨d,hd⟩: ∃d,zs.getD (k-1) 0=d:=⟨_,rfl⟩;rw[hd] at h1;have Hd:Hid _:=hd;clear hd hcell hc h
   by_cases hd0:d=0
   ·subst hd0
    go_wp2
    go_round
    case rel=>exact⟨k-1,by omega,by go_num,fun i hi=>by
     by_cases e:i=k-1
     ·rw[e];exact Hd.out
     ·exact hz i (by omega)⟩
    case measure=>simp[intOf];omega
   ·go_wp2
    go_ret
    exact⟨k,rfl,⟨hk,hz,fun _=>by rw[Hd.out];exact hd0⟩,rfl⟩
theorem Tryz.infoU32:(Tryz.prog.info? 54).map (fun i=>(i.zero,i.size,i.bytes))=some (some (.int .u32 0),1,4):=by kernel_rfl
def abn (xs ys ps:List Nat)(i:Nat):Prop:=
 ps.length=xs.length+ys.length∧Dg.Small 4294967296 ps∧(∀j,i+ys.length≤j→ps.getD j 0=0)∧Dg.vl 4294967296 ps=Dg.vl 4294967296 (xs.take i)*Dg.vl 4294967296 ys
def YE (xs ys ps:List Nat)(i j c:Nat):Prop:=
 ps.length=xs.length+ys.length∧Dg.Small 4294967296 ps∧c<4294967296∧(∀j,i+ys.length≤j→ps.getD j 0=0)∧
  Dg.vl 4294967296 ps+4294967296^ (i+j)*c=Dg.vl 4294967296 (xs.take i)*Dg.vl 4294967296 ys+4294967296^i*(xs.getD i 0*Dg.vl 4294967296 (ys.take j))
theorem QF (xs ys:List Nat):abn xs ys (List.replicate (xs.length+ys.length) 0) 0:=by
 refine⟨by simp,Dg.small_replicate _ _ (by omega),fun j _=> ?_, ?_⟩
 ·by_cases h:j<xs.length+ys.length<;>simp[List.getD_eq_getElem?_getD,h]
 ·simp[Dg.vl_replicate_zero,Dg.vl]
theorem QG {xs ys ps:List Nat}{i:Nat}(h:abn xs ys ps i):YE xs ys ps i 0 0:=
 ⟨h.1,h.2.1,by omega,h.2.2.1,by rw[h.2.2.2];simp[Dg.vl]⟩
theorem UO {xs ys ps:List Nat}{i j c:Nat}(h:YE xs ys ps i j c)(hi:i<xs.length)(hj:j<ys.length)(t:Nat)(ht:t=c+(xs.getD i 0*ys.getD j 0+ps.getD (i+j) 0))(hlt:t<18446744073709551616):
  YE xs ys (ps.set (i+j) (t % 4294967296)) i (j+1) (t/4294967296):=by
 obtain⟨h1,h2,h3,h4,h5⟩:=h;have hl:i+j<ps.length:=by omega
 refine⟨by simpa using h1,Dg.small_set h2 _ _ (Nat.mod_lt _ (by omega)),by omega,fun k hk=> ?_, ?_⟩
 ·rw[Dg.getD_set _ _ _ _ hl,if_neg (by omega)];exact h4 k hk
 ·have hs:=Dg.vl_set 4294967296 ps (i+j) (t % 4294967296) hl
  rw[Dg.vl_take_succ _ _ _ hj];have hp:4294967296^ (i+(j+1))*(t/4294967296)=4294967296^ (i+j)*(4294967296*(t/4294967296)):=by
   rw[show i+(j+1)=(i+j)+1 from by omega,Nat.pow_succ,Nat.mul_assoc]
  have hm:4294967296^ (i+j)*t=4294967296^ (i+j)*(t % 4294967296)+4294967296^ (i+j)*(4294967296*(t/4294967296)):=by
   rw[←Nat.mul_add,Nat.mod_add_div]
  have he:4294967296^ (i+j)*t=4294967296^ (i+j)*c+4294967296^ (i+j)*(xs.getD i 0*ys.getD j 0)+4294967296^ (i+j)*ps.getD (i+j) 0:=by
   rw[ht,Nat.mul_add,Nat.mul_add,Nat.add_assoc]
  have hd:4294967296^i*(xs.getD i 0*(Dg.vl 4294967296 (ys.take j)+4294967296^j*ys.getD j 0))=4294967296^i*(xs.getD i 0*Dg.vl 4294967296 (ys.take j))+4294967296^ (i+j)*(xs.getD i 0*ys.getD j 0):=by
   rw[Nat.mul_add,Nat.mul_add,Nat.pow_add]
   congr 1
   rw[Nat.mul_assoc,Nat.mul_left_comm (xs.getD i 0)]
  rw[hp,hd];omega
theorem UP {xs ys ps:List Nat}{i c:Nat}(h:YE xs ys ps i ys.length c)(hi:i<xs.length):abn xs ys (ps.set (i+ys.length) c) (i+1):=by
 obtain⟨h1,h2,h3,h4,h5⟩:=h;have hl:i+ys.length<ps.length:=by omega
 refine⟨by simpa using h1,Dg.small_set h2 _ _ h3,fun k hk=> ?_, ?_⟩
 ·rw[Dg.getD_set _ _ _ _ hl,if_neg (by omega)];exact h4 k (by omega)
 ·have hs:=Dg.vl_set 4294967296 ps (i+ys.length) c hl
  rw[h4 _ (Nat.le_refl _)] at hs;rw[Dg.vl_take_succ _ _ _ hi,Nat.add_mul,Nat.mul_assoc];rw[List.take_of_length_le (Nat.le_refl _)] at h5;omega
theorem uf {x y:Nat}(hx:x<4294967296)(hy:y<4294967296):x*y≤18446744065119617025:=by
 have:=Nat.mul_le_mul (Nat.le_sub_one_of_lt hx) (Nat.le_sub_one_of_lt hy)
 simpa using this
theorem YF (c x y p:Nat):((c:Int)+((x:Int)*(y:Int)+(p:Int))) % 4294967296=(((c+(x*y+p)) % 4294967296:Nat):Int):=by
 rw[←Int.natCast_mul];omega
theorem YG (c x y p:Nat):((c:Int)+((x:Int)*(y:Int)+(p:Int)))/4294967296=(((c+(x*y+p))/4294967296:Nat):Int):=by
 rw[←Int.natCast_mul];omega
theorem jW {w:World}{base e:Nat}{k:IntKind}{g n cap m:Nat}{zs:List Nat}(B:Nat)(hB:2≤B)(h:Own w base e k (.slice (some ⟨g,0,none⟩) n cap) zs)(hs:Dg.Small B zs)(ht:Ou zs m):
  Own w base e k (.slice (some ⟨g,0,none⟩) m cap) (Dg.dg B (Dg.vl B zs)):=by
 rw[←Dg.trim_eq B hB zs m hs ht.1 ht.2.1 ht.2.2];exact h.take m ht.1
theorem qC (va vb:Value)(xs ys:List Nat)(w:World)(ha:Rd w .u32 va xs)(hb:Rd w .u32 vb ys)(sa:Dg.Small 4294967296 xs)(sb:Dg.Small 4294967296 ys)(hla:xs.length≤1000000)(hlb:ys.length≤1000000):
  yC 57 #[va,vb] w fun e w'=>
   ∃v,e= .returned v∧Own w' w.heap.size 54 .u32 v (Dg.dg 4294967296 (Dg.vl 4294967296 xs*Dg.vl 4294967296 ys))∧yB w w':=by
 obtain⟨i0,hi,hz0,hz1,hz2⟩:=info_parts Tryz.infoU32;obtain⟨ao,ca,rfl,-,-,hca⟩:=ha;obtain⟨bo,cb,rfl,-,-,hcb⟩:=hb
 go_enter func57,ntmps57
 go_wp2_with (at_make;refine wpList_make_full _ rfl _ _ 57 rfl w.heap.size 54 i0 (.int .u32 0) 1 underlying57 hi hz0 hz1 _ _ _ _ (xs.length+ys.length) rfl rfl (by omega) (by omega) ?b2 ?b3 (Nat.le_refl _) ?_)
 case b2=>rw[hz2];omega
 case b3=>unfold maxLen;omega
 intro w0 hown0 hgrow0;have own0:=gL hown0;have bel0:yB w w0:=(Below.refl _ _).grown hgrow0 (Nat.le_refl _) (fun k h=>by cases h)
 clear hown0 hgrow0
 go_wp2
 go_loopw [19] (fun iv wr=> ∃(i:Nat) (ps:List Nat),i≤xs.length∧iv=yi i∧Own wr w.heap.size 54 .u32 (.slice (some ⟨w.heap.size,0,none⟩) (xs.length+ys.length) (xs.length+ys.length)) ps∧abn xs ys ps i∧yB w wr)
  (fun iv _=>xs.length-(intOf iv).toNat)
 case atStart=>exact⟨0,_,Nat.zero_le _,rfl,own0,QF xs ys,bel0⟩
 case round=>
  obtain⟨i,ps,hil,rfl,own,hO,bel⟩:=hrel
  by_cases hlt:i<xs.length
  ·obtain⟨b,off,rfl,hcell⟩:=hca (by omega)
   have hx:=cell_later bel (hcell i hlt);have hxs:=sa i;obtain⟨x,ex⟩: ∃x,xs.getD i 0=x:=⟨_,rfl⟩;rw[ex] at hx hxs;have Hx:Hid _:=ex;clear ex hcell hca own0 bel0
   go_wp2
   go_loopw [8,26] (fun cv jv wr=> ∃(j c:Nat) (ps:List Nat),j≤ys.length∧jv=yi j∧cv= .int .u64 c∧Own wr w.heap.size 54 .u32 (.slice (some ⟨w.heap.size,0,none⟩) (xs.length+ys.length) (xs.length+ys.length)) ps∧YE xs ys ps i j c∧yB w wr)
    (fun _ jv _=>ys.length-(intOf jv).toNat)
   case atStart=>exact⟨0,0,ps,Nat.zero_le _,rfl,rfl,own,QG hO,bel⟩
   case round=>
    clear own hO bel ps hx;obtain⟨j,c,ps,hjl,rfl,rfl,own,hI,bel⟩:=hrel;have hpl:=hI.1;have hcl:=hI.2.2.1
    by_cases hjt:j<ys.length
    ·obtain⟨b2,off2,rfl,hcell2⟩:=hcb (by omega)
     have hy:=cell_later bel (hcell2 j hjt);have hys:=sb j;have hp:=own.c (i+j) (by omega);have hps:=hI.2.1 (i+j);have hfr:=own.f (i+j);obtain⟨y,ey⟩: ∃y,ys.getD j 0=y:=⟨_,rfl⟩;obtain⟨p,ep⟩: ∃p,ps.getD (i+j) 0=p:=⟨_,rfl⟩;rw[ey] at hy hys;rw[ep] at hp hps;have Hy:Hid _:=ey;have Hp:Hid _:=ep;have hxy:=uf hxs hys;have hxyI:(x:Int)*(y:Int)≤18446744065119617025:=by rw[←Int.natCast_mul];omega
     have hxy0:0≤(x:Int)*(y:Int):=by rw[←Int.natCast_mul];omega
     clear ey ep hcell2 hcb
     go_wp2
     go_roundw
     case rel=>
      rw[YF,YG];exact⟨j+1,(c+(x*y+p))/4294967296,_,by omega,by go_num,rfl,own.store (i+j) _,UO hI hlt hjt _ (by rw[Hx.out,Hy.out,Hp.out]) (by omega),bel.setCell (by exact Nat.le_refl _) _⟩
     case measure=>simp[intOf];omega
    ·have hj:j=ys.length:=by omega
     subst hj;have hp:=own.c (i+ys.length) (by omega);have hfr:=own.f (i+ys.length)
     go_wp2
     go_roundw
     case rel=>exact⟨i+1,_,by omega,by go_num,own.store (i+ys.length) c,UP hI hlt,bel.setCell (by exact Nat.le_refl _) _⟩
     case measure=>simp[intOf];omega
  ·have hie:i=xs.length:=by omega
   subst hie;have hpl:=hO.1;have rd:=own.rd
   go_wp2_with fail
   refine(jD _ _ _ ps _ rd).mono ?_;rintro e w' ⟨m,rfl,hm,rfl⟩
   go_wp2
   go_ret
   refine⟨_,rfl, ?_,bel⟩;have:=jW 4294967296 (by omega) own hO.2.1 hm;rw[hO.2.2.2,List.take_of_length_le (Nat.le_refl _)] at this;exact this
def Num (w:World)(n:Nat)(e:Ending)(w':World):Prop:=
 ∃v,e= .returned v∧Own w' w.heap.size 54 .u32 v (Dg.dg 4294967296 n)∧yB w w'
theorem pr {w:World}{base e:Nat}{k:IntKind}{g:Nat}{zs:List Nat}(h:w.heap[g]? =some (.cells (zs.map (fun n:Nat=>Value.int k (n:Int))).toArray e (0,0)))(hb:base≤g)(hm:zs.length≤maxLen):
  Own w base e k (.slice (some ⟨g,0,none⟩) zs.length zs.length) zs:=by
 refine⟨by simp,.inr ⟨g,_,_,rfl,hb,h,Nat.le_refl _,hm,by simp, ?_⟩⟩;simp only[Nat.mul_one];exact List.take_of_length_le (by simp)
theorem Nv (w:World)(g:Nat)(old cs:Array Value)(t:TypeId)(hg:w.heap[g]? =some (.cells old t (0,0))):(w.setRow g cs).heap[g]? =some (.cells cs t (0,0)):=by
 simp[World.setRow,Array.getElem?_modify,hg]
theorem Ew {w w':World}(g:Option Nat)(h:yB w w'):w.grownBy w' g:=⟨h.os,h.tape,h.output,h.size,fun k hk _=>h.block k hk⟩
theorem eF {w w1 w2:World}{g:Option Nat}(h:w.grownBy w1 g)(k:w1.grownBy w2 g):w.grownBy w2 g:=
 ⟨k.os.trans h.os,k.tape.trans h.tape,k.output.trans h.output,Nat.le_trans h.size k.size,fun i hi hne=>(k.block i (Nat.lt_of_lt_of_le hi h.size) hne).trans (h.block i hi hne)⟩
def acQ (zs cur:List Nat)(d k r:Nat):Prop:=
 cur.length=zs.length∧Dg.Small 4294967296 cur∧r<d∧(∀j,j<k→cur.getD j 0=zs.getD j 0)∧Dg.vl 4294967296 (zs.drop k)=Dg.vl 4294967296 (cur.drop k)*d+r
theorem ur (x y c:Nat)(w:World)(hx:x<4294967296)(hy:y<4294967296)(hc:c≤1):
  yC 123 #[.int .u32 x,.int .u32 y,.int .u32 c] w fun e w'=>e= .returned (.tuple #[.int .u32 ((x+y+c) % 4294967296:Nat),.int .u32 ((x+y+c)/4294967296:Nat)])∧w'=w:=by
 go_enter func123,ntmps123
 go_wp2
 go_ret2
 exact⟨by go_num,rfl⟩
theorem iV (B:Nat)(l:List Nat)(k:Nat):Dg.vl B (l.take (k+1))=Dg.vl B (l.take k)+B^k*l.getD k 0:=by
 by_cases h:k<l.length
 ·exact Dg.vl_take_succ _ _ _ h
 ·rw[List.take_of_length_le (by omega),List.take_of_length_le (by omega),Dg.getD_of_le _ _ (by omega)];omega
theorem iW {w wr w3:World}{e x:Nat}{k:IntKind}{es:List Nat}{lv v':Value}(bel:yB w wr)(ownL:Own wr w.heap.size e k lv es)
  (hown':w3.ownsRow w.heap.size e 1 v' (es.length+1) ((es.map (fun n:Nat=>Value.int k (n:Int)))++[.int k x]))
  (hgrow:(wr.alloc (.cells #[.int k x] e)).grownBy w3 lv.ownBlock):
  Own w3 w.heap.size e k v' (es++[x])∧yB w w3:=by
 have b1:yB wr (wr.alloc (.cells #[.int k x] e)):=(Below.refl _ _).alloc (Nat.le_refl _) _;refine⟨?_, ?_⟩
 ·unfold Own
  simpa using hown'
 ·refine(aa bel b1).grown hgrow (Nat.le_trans bel.size b1.size) (fun k hk=> ?_)
  exact(World.ownsRow.lt ownL k hk).1
theorem IL (B:Nat)(b:Nat)(hb:B=2^b)(h1:1<B)(zs:List Nat)(hs:Dg.Small B zs)(hn:Dg.Norm zs)(hne:zs≠[]):bitLen (Dg.vl B zs)=b*(zs.length-1)+bitLen (zs.getD (zs.length-1) 0):=by
 have hl:0<zs.length:=List.length_pos_iff.2 hne;have hsp:=Dg.vl_split B zs (zs.length-1) (by omega);rw[show zs.length-1+1=zs.length from by omega,List.drop_of_length_le (Nat.le_refl _)] at hsp
 simp only[Dg.vl,Nat.mul_zero,Nat.add_zero] at hsp;have hlt:=Dg.vl_lt B (zs.take (zs.length-1)) (Dg.small_take hs _ (by omega));rw[List.length_take,Nat.min_eq_left (by omega)] at hlt;have hpw:B^ (zs.length-1)=2^ (b*(zs.length-1)):=by rw[hb,Nat.pow_mul]
 have hdiv:Dg.vl B zs/2^ (b*(zs.length-1))=zs.getD (zs.length-1) 0:=by
  rw[←hpw,hsp,Nat.add_comm,Nat.mul_add_div (Nat.pow_pos (by omega)),Nat.div_eq_of_lt hlt,Nat.add_zero]
 have hnz:=hn hne;rw[bitLen_shift _ (b*(zs.length-1)) (by rw[hdiv];exact hnz),hdiv]
def KM (xs ups:List Nat)(wh P k:Nat):Prop:=
 ups.length=xs.length+wh+1∧Dg.Small 4294967296 ups∧(∀j,wh+k<j→ups.getD j 0=0)∧ups.getD (wh+k) 0<P∧Dg.vl 4294967296 ups=4294967296^wh*(Dg.vl 4294967296 (xs.take k)*P)
theorem Nz (xs:List Nat)(wh P:Nat)(hP:0<P):KM xs (List.replicate (xs.length+wh+1) 0) wh P 0:=by
 have hz: ∀j,(List.replicate (xs.length+wh+1) 0).getD j 0=0:=fun j=>by
  by_cases h:j<xs.length+wh+1<;>simp[List.getD_eq_getElem?_getD,h]
 exact⟨by simp,Dg.small_replicate _ _ (by omega),fun j _=>hz j,by rw[hz];exact hP,by simp[Dg.vl_replicate_zero,Dg.vl]⟩
theorem QJ {xs ups:List Nat}{wh P k x:Nat}(h:KM xs ups wh P k)(hk:k<xs.length)(hx:xs.getD k 0=x)(hxl:x<4294967296)(hPQ: ∃Q,P*Q=4294967296)(hP:0<P):
  KM xs ((ups.set (wh+k) (ups.getD (wh+k) 0+x*P % 4294967296)).set (wh+k+1) (x*P/4294967296)) wh P (k+1):=by
 obtain⟨h1,h2,h3,h4,h5⟩:=h;obtain⟨Q,hQ⟩:=hPQ;have hdv:x*P/4294967296<P:=by
  rw[Nat.div_lt_iff_lt_mul (by omega),Nat.mul_comm P];exact Nat.mul_lt_mul_of_pos_right hxl hP
 have hP32:P≤4294967296:=by
  rw[←hQ];exact Nat.le_mul_of_pos_right _ (by
   rcases Nat.eq_zero_or_pos Q with e|e
   ·subst e;simp at hQ
   ·exact e)
 have hmod:x*P % 4294967296+P≤4294967296:=by
  have e:x*P % 4294967296=P*(x % Q):=by rw[←hQ,Nat.mul_comm x P,Nat.mul_mod_mul_left]
  have hQ0:0<Q:=by
   rcases Nat.eq_zero_or_pos Q with e|e
   ·subst e;simp at hQ
   ·exact e
  have e2:P*(x % Q+1)≤P*Q:=Nat.mul_le_mul_left _ (Nat.mod_lt _ hQ0);rw[Nat.mul_add,Nat.mul_one] at e2;rw[e];omega
 have hl:wh+k<ups.length:=by omega
 have hl2:wh+k+1< (ups.set (wh+k) (ups.getD (wh+k) 0+x*P % 4294967296)).length:=by simp;omega
 refine⟨by simpa using h1,Dg.small_set (Dg.small_set h2 _ _ (by omega)) _ _ (by omega),fun j hj=> ?_, ?_, ?_⟩
 ·rw[Dg.getD_set _ _ _ _ hl2,if_neg (by omega),Dg.getD_set _ _ _ _ hl,if_neg (by omega)];exact h3 j (by omega)
 ·rw[show wh+(k+1)=wh+k+1 from by omega,Dg.getD_set _ _ _ _ hl2,if_pos rfl];exact hdv
 ·have s1:=Dg.vl_set 4294967296 ups (wh+k) (ups.getD (wh+k) 0+x*P % 4294967296) hl
  have s2:=Dg.vl_set 4294967296 (ups.set (wh+k) (ups.getD (wh+k) 0+x*P % 4294967296)) (wh+k+1) (x*P/4294967296) hl2;have z1:=h3 (wh+k+1) (by omega);have z2:(ups.set (wh+k) (ups.getD (wh+k) 0+x*P % 4294967296)).getD (wh+k+1) 0=0:=by rw[Dg.getD_set _ _ _ _ hl,if_neg (by omega)];exact z1
  rw[z2] at s2;rw[Dg.vl_take_succ _ _ _ hk,hx,Nat.add_mul,Nat.mul_add,←h5];have e1:4294967296^ (wh+k+1)*(x*P/4294967296)=4294967296^ (wh+k)*(4294967296*(x*P/4294967296)):=by rw[Nat.pow_succ,Nat.mul_assoc]
  have e2:4294967296^wh*(4294967296^k*x*P)=4294967296^ (wh+k)*(x*P):=by rw[Nat.pow_add,Nat.mul_assoc,Nat.mul_assoc]
  have e3:4294967296^ (wh+k)*(x*P)=4294967296^ (wh+k)*(x*P % 4294967296)+4294967296^ (wh+k)*(4294967296*(x*P/4294967296)):=by
   rw[←Nat.mul_add,Nat.mod_add_div]
  rw[Nat.mul_add] at s1;rw[e2,e3];rw[e1] at s2;omega
theorem Vh (P Q:Nat)(l:List Nat):l.headD 0 % P=Dg.vl (P*Q) l % P:=by
 cases l with
 |nil=>simp[Dg.vl]
 |cons y l=>simp only[List.headD_cons,Dg.vl];rw[Nat.mul_assoc,Nat.add_mul_mod_self_left]
theorem aa7 (B:Nat)(hB:0<B)(xs:List Nat)(wh:Nat)(hw:wh≤xs.length)(sa:Dg.Small B xs):Dg.vl B (xs.drop wh)=Dg.vl B xs/B^wh:=by
 have hsp:=Dg.vl_take_drop B xs wh hw;have hlt:=Dg.vl_lt B (xs.take wh) (Dg.small_take sa _ hB);rw[List.length_take,Nat.min_eq_left hw] at hlt;rw[hsp,Nat.add_comm,Nat.mul_add_div (Nat.pow_pos hB),Nat.div_eq_of_lt hlt,Nat.add_zero]
def jN (w:World)(t:ak)(e:Ending)(w':World):Prop:= ∃s,e= .returned (ydV t.s s t.e)∧Own w' w.heap.size 54 .u32 s (Dg.dg 4294967296 t.n)∧yB w w'
theorem aD {w:World}{b:Nat}{v0 v1 v2:Value}(h:Loc w b v0 v1 v2)(x0 x1 x2:Value):
  Loc (((w.setCell ⟨b,0,none⟩ x0).setCell ⟨b,1,none⟩ x1).setCell ⟨b,2,none⟩ x2) b x0 x1 x2:=by
 obtain⟨hl,⟨c0,c1,c2⟩,f0,f1,f2⟩:=h;refine⟨by simpa using hl,⟨?_, ?_, ?_⟩, ?_, ?_, ?_⟩
 ·rw[World.cell?_setCell_other (h:=by simp),World.cell?_setCell_other (h:=by simp)]
  exact World.cell?_setCell_same _ _ _ c0
 ·have k1:(w.setCell ⟨b,0,none⟩ x0).cell? ⟨b,1,none⟩=some v1:=by rw[World.cell?_setCell_other (h:=by simp)];exact c1
  rw[World.cell?_setCell_other (h:=by simp)];exact World.cell?_setCell_same _ _ _ k1
 ·have k2:((w.setCell ⟨b,0,none⟩ x0).setCell ⟨b,1,none⟩ x1).cell? ⟨b,2,none⟩=some v2:=by rw[World.cell?_setCell_other (h:=by simp),World.cell?_setCell_other (h:=by simp)];exact c2
  exact World.cell?_setCell_same _ _ _ k2
 ·simpa using f0
 ·simpa using f1
 ·simpa using f2
theorem au.cs2 {w:World}{b:Nat}{ty:TypeId}{x0 x1:Value}{l:List Value}(h:au w b ty (x0::x1::l)):w.cell? ⟨b,0,none⟩=some x0∧w.cell? ⟨b,1,none⟩=some x1:=⟨h.c 0 rfl,h.c 1 rfl⟩
theorem au.cs3 {w:World}{b:Nat}{ty:TypeId}{x0 x1 x2:Value}{l:List Value}(h:au w b ty (x0::x1::x2::l)):w.cell? ⟨b,0,none⟩=some x0∧w.cell? ⟨b,1,none⟩=some x1∧w.cell? ⟨b,2,none⟩=some x2:=⟨h.c 0 rfl,h.c 1 rfl,h.c 2 rfl⟩
theorem au.cs4 {w:World}{b:Nat}{ty:TypeId}{x0 x1 x2 x3:Value}{l:List Value}(h:au w b ty (x0::x1::x2::x3::l)):w.cell? ⟨b,0,none⟩=some x0∧w.cell? ⟨b,1,none⟩=some x1∧w.cell? ⟨b,2,none⟩=some x2∧w.cell? ⟨b,3,none⟩=some x3:=⟨h.c 0 rfl,h.c 1 rfl,h.c 2 rfl,h.c 3 rfl⟩
theorem au.cs5 {w:World}{b:Nat}{ty:TypeId}{x0 x1 x2 x3 x4:Value}{l:List Value}(h:au w b ty (x0::x1::x2::x3::x4::l)):w.cell? ⟨b,0,none⟩=some x0∧w.cell? ⟨b,1,none⟩=some x1∧w.cell? ⟨b,2,none⟩=some x2∧w.cell? ⟨b,3,none⟩=some x3∧w.cell? ⟨b,4,none⟩=some x4:=⟨h.c 0 rfl,h.c 1 rfl,h.c 2 rfl,h.c 3 rfl,h.c 4 rfl⟩
theorem au.cs6 {w:World}{b:Nat}{ty:TypeId}{x0 x1 x2 x3 x4 x5:Value}{l:List Value}(h:au w b ty (x0::x1::x2::x3::x4::x5::l)):w.cell? ⟨b,0,none⟩=some x0∧w.cell? ⟨b,1,none⟩=some x1∧w.cell? ⟨b,2,none⟩=some x2∧w.cell? ⟨b,3,none⟩=some x3∧w.cell? ⟨b,4,none⟩=some x4∧w.cell? ⟨b,5,none⟩=some x5:=⟨h.c 0 rfl,h.c 1 rfl,h.c 2 rfl,h.c 3 rfl,h.c 4 rfl,h.c 5 rfl⟩
theorem aX {w:World}{k:IntKind}{v:Value}{zs:List Nat}(h:Rd w k v zs){b:Nat}{ty:TypeId}{vs:List Value}(hl:au w b ty vs)(hv0: ∀x∈vs,∀n:Int,x≠ .int k n):wF b v zs:=fun hp a n c hv=>by
 obtain⟨ao,cap,rfl,_,_,h3⟩:=h;obtain⟨g,off,rfl,hc⟩:=h3 hp
 cases hv
 have h0:=hc 0 hp
 show g≠b
 intro e;subst e;unfold World.cell? at h0;simp only at h0;rw[hl] at h0;simp only[Option.isSome_none,Bool.false_eq_true,if_false,List.getElem?_toArray] at h0;exact hv0 _ (List.mem_of_getElem? h0) _ rfl
theorem Own.setE {w:World}{base e:Nat}{k:IntKind}{v:Value}{zs:List Nat}(h:Own w base e k v zs){b:Nat}{ty:TypeId}{vs:List Value}(hl:au w b ty vs)(hty:ty≠e)(i:Nat)(x:Value):Own (w.setCell ⟨b,i,none⟩ x) base e k v zs:=by
 obtain⟨h0,h2⟩:=h;refine⟨h0, ?_⟩
 rcases h2 with h2| ⟨g',cap',cur,hv,hbg,hh,r⟩
 ·exact .inl h2
 ·refine .inr ⟨g',cap',cur,hv,hbg, ?_,r⟩
  have hne:g'≠b:=by
   intro e;subst e;unfold au at hl;rw[hl] at hh;simp only[Option.some.injEq,Obj.cells.injEq] at hh;exact hty hh.2.1
  rw[Below.heap_setCell _ _ _ _ hne];exact hh
theorem But.own {b:Nat}{w w':World}{base e:Nat}{k:IntKind}{v:Value}{zs:List Nat}(h:But b w w')(r:Own w base e k v zs){ty:TypeId}{vs:List Value}(hl:au w b ty vs)(hty:ty≠e):Own w' base e k v zs:=by
 obtain⟨h0,h2⟩:=r;refine⟨h0, ?_⟩
 rcases h2 with h2| ⟨g',cap',cur,hv,hbg,hh,r⟩
 ·exact .inl h2
 ·refine .inr ⟨g',cap',cur,hv,hbg, ?_,r⟩
  have hne:g'≠b:=by
   intro e;subst e;unfold au at hl;rw[hl] at hh;simp only[Option.some.injEq,Obj.cells.injEq] at hh;exact hty hh.2.1
  rw[h.block g' hne];exact hh
theorem aC {w w':World}{g o:Nat}{cs:List Value}(h:w.rangeAt g o cs)(hb:yB w w'):w'.rangeAt g o cs:=fun j v hv=>by
 have:=h j v hv;rw[←this];exact World.cell?_of_block (hb.block g (World.block_lt_of_cell? w _ this))
def SX (R cur ys:List Nat)(i t k c b:Nat):Prop:=
 cur.length=R.length∧Dg.Small 4294967296 cur∧c<4294967296∧b≤1∧(∀j,i+k≤j→cur.getD j 0=R.getD j 0)∧Dg.vl 4294967296 cur+4294967296^i*(Dg.vl 4294967296 (ys.take k)*t)=Dg.vl 4294967296 R+4294967296^ (i+k)*(b+c)
def acc (R cur ys:List Nat)(i t b:Nat):Prop:=
 cur.length=R.length∧Dg.Small 4294967296 cur∧(∀j,i+ys.length<j→cur.getD j 0=R.getD j 0)∧b≤1∧Dg.vl 4294967296 cur+4294967296^i*(Dg.vl 4294967296 ys*t)=Dg.vl 4294967296 R+4294967296^ (i+ys.length+1)*b
def Sp (R cur ys:List Nat)(i k c:Nat):Prop:=
 cur.length=R.length∧Dg.Small 4294967296 cur∧c≤1∧(∀j,i+k≤j→cur.getD j 0=R.getD j 0)∧Dg.vl 4294967296 cur+4294967296^ (i+k)*c=Dg.vl 4294967296 R+4294967296^i*Dg.vl 4294967296 (ys.take k)
theorem TV {R cur ys:List Nat}{i k c y p:Nat}(h:Sp R cur ys i k c)(hl:i+k<R.length)(hy:ys.getD k 0=y)(hp:R.getD (i+k) 0=p)(hpl:p<4294967296)(hyl:y<4294967296):
  Sp R (cur.set (i+k) ((p+y+c) % 4294967296)) ys i (k+1) ((p+y+c)/4294967296):=by
 obtain⟨h1,h2,h3,h5,h6⟩:=h;refine⟨by simpa using h1,Dg.small_set h2 _ _ (Nat.mod_lt _ (by omega)),by omega,fun j hj=> ?_, ?_⟩
 ·rw[Dg.getD_set _ _ _ _ (by omega),if_neg (by omega)];exact h5 j (by omega)
 ·have hs:=Dg.vl_set 4294967296 cur (i+k) ((p+y+c) % 4294967296) (by omega)
  rw[h5 _ (Nat.le_refl _),hp] at hs;rw[iV,hy];generalize hT:p+y+c=T at*;have e1:4294967296^i*(Dg.vl 4294967296 (ys.take k)+4294967296^k*y)=4294967296^i*Dg.vl 4294967296 (ys.take k)+4294967296^ (i+k)*y:=by rw[Nat.mul_add,Nat.pow_add,Nat.mul_assoc]
  have e2:4294967296^ (i+(k+1))*(T/4294967296)=4294967296^ (i+k)*(4294967296*(T/4294967296)):=by rw[show i+(k+1)=i+k+1 from by omega,Nat.pow_succ,Nat.mul_assoc]
  have e3:4294967296^ (i+k)*T=4294967296^ (i+k)*(T % 4294967296)+4294967296^ (i+k)*(4294967296*(T/4294967296)):=by rw[←Nat.mul_add,Nat.mod_add_div]
  have e4:4294967296^ (i+k)*T=4294967296^ (i+k)*p+4294967296^ (i+k)*y+4294967296^ (i+k)*c:=by rw[←hT,Nat.mul_add,Nat.mul_add]
  rw[e1,e2];omega
def Py (R cur ys:List Nat)(i o:Nat):Prop:=
 cur.length=R.length∧Dg.Small 4294967296 cur∧(∀j,i+ys.length<j→cur.getD j 0=R.getD j 0)∧o≤1∧Dg.vl 4294967296 cur+4294967296^ (i+ys.length+1)*o=Dg.vl 4294967296 R+4294967296^i*Dg.vl 4294967296 ys
theorem TW {R cur ys:List Nat}{i c p:Nat}(h:Sp R cur ys i ys.length c)(hl:i+ys.length<R.length)(hp:R.getD (i+ys.length) 0=p)(hpl:p<4294967296):
  Py R (cur.set (i+ys.length) ((p+c) % 4294967296)) ys i ((p+c)/4294967296):=by
 obtain⟨h1,h2,h3,h5,h6⟩:=h;refine⟨by simpa using h1,Dg.small_set h2 _ _ (Nat.mod_lt _ (by omega)),fun j hj=> ?_,by omega, ?_⟩
 ·rw[Dg.getD_set _ _ _ _ (by omega),if_neg (by omega)];exact h5 j (by omega)
 ·have hs:=Dg.vl_set 4294967296 cur (i+ys.length) ((p+c) % 4294967296) (by omega)
  rw[h5 _ (Nat.le_refl _),hp] at hs;rw[List.take_of_length_le (Nat.le_refl _)] at h6;generalize hT:p+c=T at*;have e2:4294967296^ (i+ys.length+1)*(T/4294967296)=4294967296^ (i+ys.length)*(4294967296*(T/4294967296)):=by rw[Nat.pow_succ,Nat.mul_assoc]
  have e3:4294967296^ (i+ys.length)*T=4294967296^ (i+ys.length)*(T % 4294967296)+4294967296^ (i+ys.length)*(4294967296*(T/4294967296)):=by rw[←Nat.mul_add,Nat.mod_add_div]
  have e4:4294967296^ (i+ys.length)*T=4294967296^ (i+ys.length)*p+4294967296^ (i+ys.length)*c:=by rw[←hT,Nat.mul_add]
  rw[e2];omega
theorem CG (B:Nat)(l:List Nat)(j:Nat)(hB:0<B)(hs:Dg.Small B l):l.getD j 0=Dg.vl B l/B^j % B:=by
 by_cases h:j<l.length
 ·have h1:=Dg.vl_split B l j h
  have h2:=Dg.vl_lt B (l.take j) (Dg.small_take hs j hB);rw[List.length_take,Nat.min_eq_left (by omega)] at h2;rw[h1,Nat.add_mul_div_left _ _ (Nat.pow_pos hB),Nat.div_eq_of_lt h2,Nat.zero_add,Nat.add_mul_mod_self_left];exact(Nat.mod_eq_of_lt (hs j)).symm
 ·rw[Dg.getD_of_le l j (by omega)]
  have h2:=Dg.vl_lt B l hs;have h3:B^l.length≤B^j:=Nat.pow_le_pow_right hB (by omega);rw[Nat.div_eq_of_lt (by omega),Nat.zero_mod]
theorem Dk (B:Nat)(l:List Nat)(m:Nat)(hB:0<B)(hs:Dg.Small B l)(hz: ∀j,m≤j→l.getD j 0=0):Dg.vl B l<B^m:=by
 by_cases h:m≤l.length
 ·rw[Dg.vl_take_drop B l m h]
  have h1:Dg.vl B (l.drop m)=0:=Dg.vl_zeros B _ (fun i=>by
   have:=hz (m+i) (by omega)
   simpa[List.getD_eq_getElem?_getD,List.getElem?_drop] using this)
  have h2:=Dg.vl_lt B (l.take m) (Dg.small_take hs m hB);rw[List.length_take,Nat.min_eq_left h] at h2;rw[h1,Nat.mul_zero,Nat.add_zero];exact h2
 ·have h2:=Dg.vl_lt B l hs
  have h3:B^l.length≤B^m:=Nat.pow_le_pow_right hB (by omega);omega
theorem NB (B:Nat)(l:List Nat)(m:Nat)(hB:0<B)(hs:Dg.Small B l)(h:Dg.vl B l<B^m)(j:Nat)(hj:m≤j):l.getD j 0=0:=by
 rw[CG B l j hB hs];have h3:B^m≤B^j:=Nat.pow_le_pow_right hB hj;rw[Nat.div_eq_of_lt (by omega),Nat.zero_mod]
theorem Own.other {w w':World}{base e:Nat}{k:IntKind}{b g n cap:Nat}{zs:List Nat}(h:Own w base e k (.slice (some ⟨b,0,none⟩) n cap) zs)(hg:w.grownBy w' (some g))(hne:b≠g):Own w' base e k (.slice (some ⟨b,0,none⟩) n cap) zs:=by
 have hb:=h.block;obtain⟨hl,h2⟩:=h;refine⟨hl, ?_⟩
 rcases h2 with h2| ⟨g',cap',cur,hv,hbg,hh,r⟩
 ·exact .inl h2
 ·refine .inr ⟨g',cap',cur,hv,hbg, ?_,r⟩
  simp at hv;rw[hg.block g' (by omega) (by intro e;cases e;omega)]
  exact hh
theorem Own.form {w:World}{base e:Nat}{k:IntKind}{v:Value}{zs:List Nat}(h:Own w base e k v zs)(hp:0<zs.length): ∃g cap,v= .slice (some ⟨g,0,none⟩) zs.length cap∧base≤g∧g<w.heap.size∧zs.length≤cap:=by
 have h0:=h;obtain⟨hl,h2⟩:=h
 rcases h2 with⟨_,h2⟩| ⟨g',cap',cur,rfl,hbg,hh,r⟩
 ·omega
 ·exact⟨g',cap',rfl,hbg,h0.block.2,r.1⟩
theorem V8 (n D:Nat)(hn:1≤n)(h1:4294967296^ (n-1)≤D)(h2:D<4294967296^n):(Dg.dg 4294967296 D).length=n:=by
 have a:=Dg.dg_len_le 4294967296 D n (by omega) h2;have b:=Dg.vl_lt 4294967296 _ (Dg.small_dg 4294967296 D (by omega));rw[Dg.vl_dg 4294967296 D (by omega)] at b;have c:n-1< (Dg.dg 4294967296 D).length:=by
  rcases Nat.lt_or_ge (n-1) (Dg.dg 4294967296 D).length with e|e
  ·exact e
  ·have:=Nat.pow_le_pow_right (n:=4294967296) (by omega) e
   omega
 omega
theorem RI (X na s:Nat)(h:X<4294967296^na)(hs:s<32):(Dg.dg 4294967296 (X*2^s)).length≤na+1:=by
 apply Dg.dg_len_le 4294967296 _ _ (by omega);have h1:2^s≤4294967296:=by have:2^s≤2^32:=Nat.pow_le_pow_right (by omega) (by omega);omega
 rw[Nat.pow_succ];have h2:X*2^s<4294967296^na*2^s:=Nat.mul_lt_mul_of_pos_right h (Nat.pow_pos (by omega));have h3:4294967296^na*2^s≤4294967296^na*4294967296:=Nat.mul_le_mul_left _ h1;omega
def Jm (A D M:Nat)(R os:List Nat)(N k:Nat):Prop:=
 R.length=N∧os.length=M∧Dg.Small 4294967296 R∧Dg.Small 4294967296 os∧(∀j,j<k→os.getD j 0=0)∧D*Dg.vl 4294967296 os+Dg.vl 4294967296 R=A∧Dg.vl 4294967296 R<D*4294967296^k
def ae2 (w:World)(A D M N gr go gb cb:Nat)(bs:List Nat)(iv:Value)(wr:World):Prop:=
 ∃(k:Nat) (R os:List Nat),k≤M∧iv=yi ((k:Int)-1)∧Jm A D M R os N k∧Own wr w.heap.size 54 .u32 (.slice (some ⟨gr,0,none⟩) N N) R∧Own wr w.heap.size 54 .u32 (.slice (some ⟨go,0,none⟩) M M) os∧
  Own wr w.heap.size 54 .u32 (.slice (some ⟨gb,0,none⟩) bs.length cb) bs∧yB w wr
def Two (w:World)(q r:Nat)(e:Ending)(w':World):Prop:=
 ∃v1 v2,e= .returned (.tuple #[v1,v2])∧Own w' w.heap.size 54 .u32 v1 (Dg.dg 4294967296 q)∧Own w' w.heap.size 54 .u32 v2 (Dg.dg 4294967296 r)∧yB w w'
theorem Iv {A D M N i q:Nat}{R os cur:List Nat}(h:Jm A D M R os N (i+1))(hi:i<M)(hq:q<4294967296)(hl:cur.length=R.length)(sc:Dg.Small 4294967296 cur)
  (hv:Dg.vl 4294967296 cur+4294967296^i*(D*q)=Dg.vl 4294967296 R) (hlt:Dg.vl 4294967296 cur<D*4294967296^i):Jm A D M cur (os.set i q) N i:=by
 obtain⟨h1,h2,h3,h4,h5,h6,h7⟩:=h;refine⟨by omega,by simpa using h2,sc,Dg.small_set h4 _ _ hq,fun j hj=> ?_, ?_,hlt⟩
 ·rw[Dg.getD_set _ _ _ _ (by omega),if_neg (by omega)];exact h5 j (by omega)
 ·have hs:=Dg.vl_set 4294967296 os i q (by omega)
  rw[h5 i (by omega),Nat.mul_zero,Nat.add_zero] at hs;rw[hs,Nat.mul_add,←h6,←hv];have e:D*(4294967296^i*q)=4294967296^i*(D*q):=by rw[←Nat.mul_assoc,←Nat.mul_assoc,Nat.mul_comm D]
  rw[e];omega
theorem acV (l:List Nat)(n:Nat):Dg.vl 4294967296 (l++List.replicate n 0)=Dg.vl 4294967296 l:=by
 rw[Dg.vl_append,Dg.vl_zeros 4294967296 (List.replicate n 0) (fun i=>by
  by_cases h:i<n
  ·simp[List.getD_eq_getElem?_getD,h]
  ·simp[List.getD_eq_getElem?_getD,h]),Nat.mul_zero,Nat.add_zero]
theorem TM {l m:List Nat}(h:Dg.Small 4294967296 l)(k:Dg.Small 4294967296 m):Dg.Small 4294967296 (l++m):=by
 intro i
 by_cases hi:i<l.length
 ·have:=h i
  simpa[List.getD_eq_getElem?_getD,List.getElem?_append_left hi] using this
 ·have:=k (i-l.length)
  simpa[List.getD_eq_getElem?_getD,List.getElem?_append_right (Nat.le_of_not_lt hi)] using this
theorem CV (n:Nat):Dg.Small 4294967296 (List.replicate n 0):=by
 intro i
 by_cases h:i<n
 ·simp[List.getD_eq_getElem?_getD,h]
 ·simp[List.getD_eq_getElem?_getD,h]
theorem Xs {X Y s M N:Nat}{R os:List Nat}(hY:0<Y)(h:Jm (X*2^s) (Y*2^s) M R os N 0):Dg.vl 4294967296 os=X/Y∧Dg.vl 4294967296 R/2^s=X % Y:=by
 obtain⟨-,-,-,-,-,h6,h7⟩:=h;rw[Nat.pow_zero,Nat.mul_one] at h7;have hp:0<2^s:=Nat.pow_pos (by omega);have hD:0<Y*2^s:=Nat.mul_pos hY hp;have e1:X*2^s/(Y*2^s)=Dg.vl 4294967296 os:=by
  rw[←h6,Nat.mul_add_div hD,Nat.div_eq_of_lt h7,Nat.add_zero]
 have e2:X*2^s % (Y*2^s)=Dg.vl 4294967296 R:=by
  rw[←h6,Nat.mul_add_mod,Nat.mod_eq_of_lt h7]
 rw[Nat.mul_div_mul_right _ _ hp] at e1;rw[Nat.mul_mod_mul_right] at e2;refine⟨e1.symm, ?_⟩;rw[←e2,Nat.mul_div_cancel _ hp]
theorem zf (w:World)(base e d:Nat)(hb:base≤w.heap.size):Own (w.alloc (.cells #[.int .u32 d] e)) base e .u32 (.slice (some ⟨w.heap.size,0,none⟩) 1 1) [d]:=
 World.ownsRow_lit (e:=e) (size:=1) (base:=base) w #[.int .u32 d] 1 hb (by unfold maxLen;omega) rfl
structure XU (w:World) (lv:List Value) (w':World):Prop where
 ly:au w' w.heap.size 110 lv
 m:au w' (w.heap.size+1) 112 (yfL false 0 0)
 b:yB w w'
theorem XU.l {w w1 w2:World}{lv:List Value}(h:XU w lv w1)(b:yB w1 w2):XU w lv w2:=⟨h.ly.l b,h.m.l b,aa h.b b⟩
def WH (w:World)(q r d:Nat)(e:Ending)(w':World):Prop:=
 ∃v1 v2 v3,e= .returned (.tuple #[v1,v2,v3])∧Own w' w.heap.size 54 .u32 v1 (Dg.dg 4294967296 q)∧Own w' w.heap.size 54 .u32 v2 (Dg.dg 4294967296 r)∧Rd w' .u32 v3 (Dg.dg 4294967296 d)∧yB w w'
theorem Eg (n k L j:Nat)(h:(Dg.dg 4294967296 n).length≤L)(hk:k≤32*j):(Dg.dg 4294967296 (n*2^k)).length≤L+j:=by
 apply Dg.dg_len_le 4294967296 _ _ (by omega);have h1:=Dg.vl_lt 4294967296 (Dg.dg 4294967296 n) (Dg.small_dg _ _ (by omega));rw[Dg.vl_dg _ _ (by omega)] at h1;have h2:4294967296^ (Dg.dg 4294967296 n).length≤4294967296^L:=Nat.pow_le_pow_right (by omega) h;have h3:2^k≤4294967296^j:=by
  rw[show(4294967296:Nat)=2^32 from rfl,←Nat.pow_mul]
  exact Nat.pow_le_pow_right (by omega) hk
 rw[Nat.pow_add];exact Nat.lt_of_lt_of_le (Nat.mul_lt_mul_of_pos_right (Nat.lt_of_lt_of_le h1 h2) (Nat.pow_pos (by omega))) (Nat.mul_le_mul_left _ h3)
theorem wV (r:Nat):(((Dg.dg 4294967296 r).length:Int)==0)=decide (r=0):=by
 have h:=Dg.dg_nil_iff 4294967296 r (by omega)
 by_cases h0:r=0
 ·rw[h.2 h0]
  simp[h0]
 ·have e:(((Dg.dg 4294967296 r).length:Int)==0)=false:=by
   simp;exact fun e=>h0 (h.1 e)
  rw[e];simp[h0]
theorem XI (x y:Int):Instr.sameNow (.int .i64) (yi x) (yi y)=some (decide (x=y)):=by
 simp[Instr.sameNow]
 by_cases h:x=y<;>simp[h]
def NmR (w:World)(n:Nat)(z:Ending)(w':World):Prop:= ∃v,z= .returned v∧Rd w' .u32 v (Dg.dg 4294967296 n)∧yB w w'
def TwR (w:World)(a b:Nat)(z:Ending)(w':World):Prop:= ∃v u,z= .returned (.tuple #[v,u])∧Rd w' .u32 v (Dg.dg 4294967296 a)∧Rd w' .u32 u (Dg.dg 4294967296 b)∧yB w w'
def D7 (w:World)(h:Bool)(d:Nat)(k:Int)(e:Ending)(w':World):Prop:=
 ∃u,e= .returned (.tuple #[.agg #[u,yi k],.bool h])∧Own w' w.heap.size 54 .u32 u (Dg.dg 4294967296 d)∧yB w w'
theorem G0 (b:Bool)(x:Option Addr)(y z:Nat)(e:Int)(W:World):(Instr.field 197 (ydV b (.slice x y z) e) 0).run Tryz.prog W= .ok (ydV b (.slice x y z) e) W:=by kernel_rfl
theorem Ju (b:Bool)(x:Option Addr)(y z:Nat)(e:Int)(W:World):(Instr.field 78 (ydV b (.slice x y z) e) 2).run Tryz.prog W= .ok (yi e) W:=by kernel_rfl
end Go.Proofs.YtlgkfdcmokchgaaGreatDoor
