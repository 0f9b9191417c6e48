/-
  Texts laid together: Rev, DecW, Bits, Dy1, Read2, Back, Roo1, Co8, Co9, Co19, Gr1, Gm1, Dy7, Dy9, Gm2, Gk2, Tx1, Gh2, Ce9, Rk1, Tx12, Tx14.
-/
import Derived.Test.YtdhpndnncmagiaaGreatDoorMa04
import Derived.Test.YtdhpndnncmagiaaGreatDoorMa05
import Derived.Test.YtdhpndnncmagiaaGreatDoorMa06
set_option maxRecDepth 100000
set_option maxHeartbeats 6400000
namespace Go.Proofs.YtdhpndnncmagiaaGreatDoor
open _root_.Go.Proofs.Tryz
open Go.RowKit
theorem MH (g n cap base:Nat)(zs:List Nat)(w:World)(ho:Own w base 5 .u8 (.slice (some ⟨g,0,none⟩) n cap) zs)(hl:zs.length≤1000000000):
  yC 81 #[.slice (some ⟨g,0,none⟩) n cap] w fun e w'=>
   e= .returned (.tuple #[])∧Own w' base 5 .u8 (.slice (some ⟨g,0,none⟩) n cap) zs.reverse∧w.grownBy w' (some g):=by
 have hn:=ho.len;subst hn
 go_enter func81,ntmps81
 go_wp2
 go_loopw [2,3] (fun iv jv wr=> ∃(i:Nat) (cur:List Nat),iv=yi i∧jv=yi ((zs.length:Int)-1-i)∧Own wr base 5 .u8 (.slice (some ⟨g,0,none⟩) zs.length cap) cur∧XT zs cur i∧w.grownBy wr (some g))
  (fun iv jv _=>(intOf jv+1-intOf iv).toNat)
 case atStart=>exact⟨0,zs,rfl,by go_num,ho,⟨rfl,by omega,fun k hk=>by rw[if_neg (by omega)]⟩,ib _ _⟩
 case round=>
  obtain⟨i,cur,rfl,rfl,own,hI,gr⟩:=hrel;have h1:=hI.1;have h2:=hI.2.1
  by_cases hij:i<zs.length-1-i
  ·obtain⟨j,hj⟩: ∃j,zs.length-1-i=j:=⟨_,rfl⟩
   have hjI:(zs.length:Int)-1-i=(j:Int):=by omega
   have ci:=own.c i (by omega);have cj:=own.c j (by omega);have fi:=own.f i;have fj:=own.f j;have hst:=IJ hI hij;rw[hj] at hst hij;rw[hjI];have hjl:j<zs.length:=by omega
   have Hj:Hid _:=hjI;obtain⟨x,ex⟩: ∃x,cur.getD i 0=x:=⟨_,rfl⟩;obtain⟨y,ey⟩: ∃y,cur.getD j 0=y:=⟨_,rfl⟩;rw[ex] at ci hst;rw[ey] at cj hst;clear hj hjI ex ey hI
   go_wp2
   go_region
   all_goals go_wp2
   all_goals go_roundw
   case rel=>exact⟨i+1,_,by go_num,by have:=Hj.out;go_num,(own.store i y).store j x,hst,eF (eF gr (bI _ _ _ _)) ((eF (bI _ _ _ _) (vm _ _)))⟩
   case measure=>have:=Hj.out;simp[intOf];omega
  ·have hd: ¬((i:Int)< (zs.length:Int)-1-i):=by omega
   go_wp2
   go_end0
   rw[←MG hI hij];exact⟨rfl,own,gr⟩
def afn (w:World)(L n m:Nat)(lv rv:Value)(wr:World):Prop:=
 ∃ds len,rv= .slice (some ⟨w.heap.size,0,none⟩) len L∧Own wr w.heap.size 116 .u32 (.slice (some ⟨w.heap.size,0,none⟩) len L) (Dg.dg 4294967296 m)∧Own wr (w.heap.size+1) 5 .u8 lv (ds.map (fun d=>48+d))∧L5 n ds m∧yB w wr∧w.heap.size<wr.heap.size∧len≤L∧ds.length≤32*L+9
def afo (w:World)(L n m len base0:Nat)(qs:List Nat)(lv gv jv:Value)(wr:World):Prop:=
 ∃ds j g,gv= .int .u32 ((g:Nat):Int)∧jv=yi ((j:Nat):Int)∧j≤9∧ds.length=base0+j∧g<1000000000∧Own wr w.heap.size 116 .u32 (.slice (some ⟨w.heap.size,0,none⟩) len L) qs∧Own wr (w.heap.size+1) 5 .u8 lv (ds.map (fun d=>48+d))∧Xp n m ds j g∧yB w wr∧w.heap.size<wr.heap.size
theorem Qb {w wr w3:World}{L len g:Nat}{qs es:List Nat}{lv v':Value}(bel:yB w wr)(hsz:w.heap.size<wr.heap.size)
  (ownQ:Own wr w.heap.size 116 .u32 (.slice (some ⟨w.heap.size,0,none⟩) len L) qs) (ownL:Own wr (w.heap.size+1) 5 .u8 lv (es.map (fun d=>48+d)))
  (hown':w3.ownsRow (w.heap.size+1) 5 1 v' (es.length+1) ((es.map ((fun n:Nat=>Value.int .u8 (n:Int))∘fun d=>48+d))++[.int .u8 (48+(g:Int) % 10)]))
  (hgrow:(wr.alloc (.cells #[.int .u8 (48+(g:Int) % 10)] 5)).grownBy w3 lv.ownBlock):
  Own w3 w.heap.size 116 .u32 (.slice (some ⟨w.heap.size,0,none⟩) len L) qs∧Own w3 (w.heap.size+1) 5 .u8 v' ((es++[g % 10]).map (fun d=>48+d))∧yB w w3∧w.heap.size<w3.heap.size:=by
 have b1:yB wr (wr.alloc (.cells #[.int .u8 (48+(g:Int) % 10)] 5)):=(Below.refl _ _).alloc (Nat.le_refl _) _;refine⟨(ownQ.l b1).keep2 (ownL.l b1) (by omega) hgrow, ?_, ?_, ?_⟩
 ·unfold Own
  have e:(48+(g:Int) % 10)=((48+g % 10:Nat):Int):=by omega
  rw[e] at hown'
  simpa using hown'
 ·refine(aa bel b1).grown hgrow (Nat.le_trans bel.size b1.size) (fun k hk=> ?_)
  have:=(World.ownsRow.lt ownL k hk).1;omega
 ·exact Nat.lt_of_lt_of_le hsz (Nat.le_trans b1.size hgrow.size)
theorem kE (va:Value)(xs:List Nat)(w:World)(ha:Rd w .u32 va xs)(sa:Dg.Small 4294967296 xs)(na:Dg.Norm xs)(hla:xs.length≤1000000):
  yC 44 #[va] w fun e w'=>e= .returned (yi (bitLen (Dg.vl 4294967296 xs):Nat))∧w'=w:=by
 obtain⟨ao,ca,rfl,-,-,hca⟩:=ha
 by_cases h0:xs.length=0
 ·obtain rfl:xs=[]:=List.eq_nil_of_length_eq_zero h0
  go_enter func44,ntmps44
  go_wp2
  go_ret
  exact⟨rfl,rfl⟩
 ·have hne:xs≠[]:=by intro e;subst e;simp at h0
  obtain⟨b,off,rfl,hcell⟩:=hca (by omega);have hc:=hcell (xs.length-1) (by omega);have hs:=sa (xs.length-1);rw[IL 4294967296 32 (by decide) (by omega) xs sa na hne];obtain⟨x,ex⟩: ∃x,xs.getD (xs.length-1) 0=x:=⟨_,rfl⟩;rw[ex] at hc hs⊢;have hbl:=bF x 32 (by omega);have h3:=IK x w hs;obtain⟨l,hl⟩: ∃l,bitLen x=l:=⟨_,rfl⟩;rw[hl] at h3 hbl⊢;have h00:((xs.length:Int)==0)=false:=by simp;intro e;subst e;simp at h0
  clear ex hcell hca hne hl
  go_enter func44,ntmps44
  go_wp2_with fail
  refine h3.mono ?_;rintro e w' ⟨rfl,rfl⟩
  go_wp2
  go_ret
  exact⟨by go_num,rfl⟩
theorem Zw (x:Nat)(w:World)(hx:x<4294967296)(hx0:x≠0)(hT:Tab w):
  yC 184 #[.int .u32 x] w fun e w'=> ∃k m:Nat,e= .returned (yi k)∧x=2^k*(2*m+1)∧k<32∧w'=w:=by
 obtain⟨hlow,hk⟩:=Lib.lowest_bit 32 x hx0 hx;obtain⟨hi,htab⟩:=Lib.deBruijn32_at _ hk;obtain⟨m,hm,_⟩:=Lib.ctzFrom_spec 32 x (by omega) hx;have e0:Lib.ctz 32 x=Lib.ctzFrom 32 x:=by simp[Lib.ctz,hx0]
 have hcell:=hT _ hi;rw[htab] at hcell;refine(Vp x _ _ w (by simp;omega) (tz32_key x _ hx hx0 hlow) hi hk hcell).mono ?_;rintro e w' ⟨rfl,rfl⟩;exact⟨_,m,rfl,by rw[e0];exact hm,hk,rfl⟩
theorem Gl (v:Value)(n:Nat)(w:World)(hv:Rd w .u32 v (Dg.dg 4294967296 n))(hL:(Dg.dg 4294967296 n).length≤1000000)(hT:Tab w):
  yC 127 #[v] w fun e w'=>e= .returned (yi ((if n=0 then 0 else tz n:Nat):Int))∧w'=w:=by
 have hs:=Dg.small_dg 4294967296 n (by omega);have hvl:=Dg.vl_dg 4294967296 n (by omega);have hz:(∀j,(Dg.dg 4294967296 n).getD j 0=0)→n=0:=fun h=>by rw[←hvl];exact Dg.vl_zeros _ _ h
 obtain⟨xs,hx⟩: ∃xs,Dg.dg 4294967296 n=xs:=⟨_,rfl⟩;rw[hx] at hv hs hvl hz hL;obtain⟨ao,ca,rfl⟩:=hv.shape;obtain⟨hlc,hm,hcb⟩:=iQ hv;have HZ:Hid (∀k,xs.length≤k→(∀j,j<k→xs.getD j 0=0)→n=0):=fun k hk h=>hz (fun j=>by
  by_cases hj:j<k
  ·exact h j hj
  ·simp[List.getD_eq_getElem?_getD,show xs.length≤j from by omega])
 have HN:Hid _:=hvl;clear hx hz hvl hv
 go_enter func127,ntmps127
 go_wp2
 go_loop [7] (fun iv=> ∃k:Nat,k≤xs.length∧iv=yi k∧Hid (∀j,j<k→xs.getD j 0=0)) (fun iv=>xs.length-(intOf iv).toNat)
 case atStart=>exact⟨0,Nat.zero_le _,rfl,fun j hj=>absurd hj (Nat.not_lt_zero j)⟩
 case round=>
  obtain⟨k,hk,rfl,hzk⟩:=hrel
  by_cases hlt:k<xs.length
  ·obtain⟨b,off,rfl,hcell⟩:=hcb (by omega)
   have hc:=hcell k hlt;have hl:=hs k;obtain⟨x,hx⟩: ∃x,xs.getD k 0=x:=⟨_,rfl⟩;rw[hx] at hc hl;have HX:Hid _:=hx;clear hx hcell hcb
   by_cases hx0:x=0
   ·subst hx0
    go_wp2
    go_round
    case rel=>exact⟨k+1,by omega,by go_num,fun j hj=>by
     by_cases e:j=k
     ·rw[e];exact HX.out
     ·exact hzk.out j (by omega)⟩
    case measure=>simp[intOf];omega
   ·have ht:=Zw x w hl hx0 hT
    have h0:((x:Int)==0)=false:=by simp;exact hx0
    go_wp2_with fail
    refine ht.mono ?_;rintro e w' ⟨t,m,rfl,hxm,htl,rfl⟩;have e1:=Zx xs k t m hlt hzk.out (by rw[HX.out];exact hxm) htl;rw[HN.out] at e1;have hn0:n≠0:=by
     intro e;have h2:=adl 4294967296 xs k (by omega) hs (by rw[HN.out];exact e);rw[HX.out] at h2;exact hx0 h2
    clear ht hxm
    go_wp2
    go_ret
    refine⟨?_,rfl⟩
    first|rfl| (rw[e1];rfl)| (simp only[e1];rfl)| (show Ending.returned (Value.int IntKind.i64 (32*(k:Int)+(t:Int)))=_;rw[e1];rfl)
  ·have hn0:=HZ.out k (by omega) hzk.out
   go_wp2
   go_ret
   subst hn0;exact⟨rfl,rfl⟩
theorem Tr {zs cur:List Nat}{sc mo k c x:Nat}(h:LI zs cur sc mo k c)(hk:k<zs.length)(hx:zs.getD k 0=x)(hxl:x<4294967296)(hsc:sc<4294967296):
  LI zs (cur.set k ((c+x*sc) % 4294967296)) sc mo (k+1) ((c+x*sc)/4294967296):=by
 obtain⟨h1,h2,h3,h4,h5⟩:=h;have hb:=uf hxl hsc;refine⟨by simpa using h1,Dg.small_set h2 _ _ (Nat.mod_lt _ (by omega)),by omega,fun j hj=> ?_, ?_⟩
 ·rw[Dg.getD_set _ _ _ _ (by omega),if_neg (by omega)];exact h4 j (by omega)
 ·rw[sQ _ _ _ (by omega),Dg.vl_take_succ _ _ _ hk,hx,Nat.add_mul]
  generalize ht:c+x*sc=t;have e:4294967296^ (k+1)*(t/4294967296)=4294967296^k*(4294967296*(t/4294967296)):=by rw[Nat.pow_succ,Nat.mul_assoc]
  have e2:4294967296^k*t=4294967296^k*(t % 4294967296)+4294967296^k*(4294967296*(t/4294967296)):=by rw[←Nat.mul_add,Nat.mod_add_div]
  have e3:4294967296^k*t=4294967296^k*c+4294967296^k*x*sc:=by rw[←ht,Nat.mul_add,Nat.mul_assoc]
  rw[e];omega
theorem XC (x:Nat)(w:World)(h:x<4294967296):yC 152 #[.int .u32 x] w fun e w'=>e= .returned (yi ((32-bitLen x:Nat):Int))∧w'=w:=by
 have hl:=IK x w h;have hb:=bF x 32 (by omega);obtain⟨l,hl2⟩: ∃l,bitLen x=l:=⟨_,rfl⟩;rw[hl2] at hl hb⊢;clear hl2
 go_enter func152,ntmps152
 go_wp2_with fail
 refine hl.mono ?_;rintro e w' ⟨rfl,rfl⟩
 go_wp2
 go_ret
 exact⟨by go_num,rfl⟩
theorem LZ (k:Nat)(w:World)(h:k≤4294967295):
  yC 85 #[.int .u64 k] w fun e w'=>e= .returned (yi (bitLen k:Nat))∧w'=w:=by
 have h64:=TH k w (by omega) (by omega);rw[Int.toNat_natCast] at h64;have H:Hid _:=h64;clear h64
 go_enter func85,ntmps85
 go_wp2_with fail
 refine Calls.mono H.out ?_;rintro e w' ⟨rfl,rfl⟩
 go_wp2
 go_ret
 exact⟨rfl,rfl⟩
theorem Cr (g cap:Nat)(zs:List Nat)(f c:Nat)(w:World)(hr:ik w g zs)(hs:Dg.Small 256 zs)(hc:c≤64)(hfc:f+c≤8*zs.length)(hl:zs.length≤1000):
  yC 201 #[.slice (some ⟨g,0,none⟩) zs.length cap,yi f,yi c] w fun e w'=>e= .returned (.int .u64 (eH zs f c:Nat))∧w'=w:=by
 go_enter func201,ntmps201
 go_wp2
 go_loop [7,8] (fun xv iv=> ∃j i x:Nat,Hid (i=f+j)∧j≤c∧iv=yi (i:Int)∧xv= .int .u64 (x:Int)∧Hid (x=eH zs f j)) (fun xv iv=>((f:Int)+c-intOf iv).toNat)
 case atStart=>exact⟨0,f,0,rfl,by omega,rfl,rfl,rfl⟩
 case round=>
  obtain⟨j,i,x,Hi,hj,rfl,rfl,hx⟩:=hrel;have hi:=Hi.out
  by_cases hjc:j<c
  ·obtain⟨q,hq⟩: ∃q,i/8=q:=⟨_,rfl⟩
   obtain⟨r,hr'⟩: ∃r,i % 8=r:=⟨_,rfl⟩;have hqI:(i:Int)/8=(q:Int):=by omega
   have hrI:(i:Int) % 8=(r:Int):=by omega
   have hcell:=hr.c q (by omega);have hsm:=hs q;obtain⟨y,hy⟩: ∃y,zs.getD q 0=y:=⟨_,rfl⟩;rw[hy] at hcell hsm;have hql:q<zs.length:=by omega
   have hr8:r<8:=by omega
   have HH:Hid (_∧_∧_∧_):=⟨hi,hq,hr',hy⟩;have hic:(i:Int)< (f:Int)+(c:Int):=by omega
   have hib:(i:Int)≤8000:=by omega
   clear hi hq hr' hy
   go_wp2
   obtain⟨hi,hq,hr',hy⟩:=HH.out;have hxl:=gh zs f j;have hpw:(2:Nat)^j≤2^63:=Nat.pow_le_pow_right (by omega) (by omega);refine⟨⟨j+1,i+1,2*x+y/2^ (7-r) % 2, ?_,by omega,rfl, ?_, ?_⟩, ?_⟩
   ·show i+1=f+(j+1)
    omega
   ·rw[XO x y r (by have:=hx.out;omega) hsm]
   ·show 2*x+y/2^ (7-r) % 2=eH zs f (j+1)
    have:=hx.out;rw[eH,←this,fU,←hi,hq,hr',hy]
   ·simp only[intOf]
    omega
  ·have hd: ¬((i:Int)< (f:Int)+(c:Int)):=by omega
   have hjc':j=c:=by omega
   have HX:Hid (_∧_):=⟨hx.out,hjc'⟩;have hib:(i:Int)≤8000:=by omega
   clear hi hjc'
   go_wp2
   go_ret
   obtain⟨h1,h2⟩:=HX.out;subst h1 h2;exact⟨rfl,rfl⟩
theorem tm (k:Nat)(hk:1≤k∧k≤8)(w:World):yC 202 #[.agg (tS k).toArray] w (yR w (yi ((frN k:Nat):Int))):=by
 have hsf:=cD
 rcases bO hk with rfl|rfl|rfl|rfl|rfl|rfl|rfl|rfl
 all_goals
  change Calls _ _ #[.agg #[_,_,_,_,_,_,_,_,_]] _ _
  go_enter func202,ntmps202
  go_wp2
  go_ret
  exact⟨rfl,af _ _⟩
theorem jy (k:Nat)(hk:1≤k∧k≤8)(w:World):yC 213 #[.agg (tS k).toArray] w (yR w (yi ((kp k:Nat):Int))):=by
 have hsf:=cD
 rcases bO hk with rfl|rfl|rfl|rfl|rfl|rfl|rfl|rfl
 all_goals
  change Calls _ _ #[.agg #[_,_,_,_,_,_,_,_,_]] _ _
  go_enter func213,ntmps213
  go_wp2
  go_ret
  exact⟨rfl,af _ _⟩
theorem xX (k:Nat)(hk:1≤k∧k≤8)(w:World):yC 205 #[.agg (tS k).toArray] w (yR w (.int .u64 ((gW k:Nat):Int))):=by
 have hsf:=cD
 rcases bO hk with rfl|rfl|rfl|rfl|rfl|rfl|rfl|rfl
 all_goals
  change Calls _ _ #[.agg #[_,_,_,_,_,_,_,_,_]] _ _
  go_enter func205,ntmps205
  go_wp2
  go_ret
  exact⟨rfl,af _ _⟩
theorem vi {P:Program}{w:World}{e g cap:Nat}{zs:List Nat}(src dst:TypeId)(hs:P.underlying src=some (.slice e))(he:P.underlying e=some (.int .u8))(hd:P.underlying dst=some .string)
  (h:ik w g zs):(convert src dst (.slice (some ⟨g,0,none⟩) zs.length cap)).run P w= .ok (.string (cF zs)) w:=by
 rw[run_convert_bytes_string w src dst e _ _ _ hs he hd];have hl:=run_loadCells_list (P:=P) w ⟨g,0,none⟩ (zs.map (fun n:Nat=>Value.int .u8 (n:Int))) (by
  intro j u hj;have hjl:j<zs.length:=by have:=(List.getElem?_eq_some_iff.1 hj).1;simpa using this
  rw[j9 _ zs j hjl] at hj;rw[rO,Nat.zero_add,h.c j hjl];exact hj)
 rw[List.length_map] at hl;have:=run_bytesToString (P:=P) w ⟨g,0,none⟩ zs.length cap (zs.map (fun n:Nat=>(n:Int))) (by
  rw[hl];simp)
 rw[this,Iu];simp[cF]
theorem gcheck2_any_mg:
  (∀(D L G:Int) (gr:Bool) (w:World),
  yC 146 #[ygV 2 D L G gr] w (yR w (yi (bk 2 D L G))))∧
  (∀(D L G:Int) (gr:Bool) (w:World),
  yC 146 #[ygV 16 D L G gr] w (yR w (yi (bk 16 D L G)))):=by
 refine⟨?_, ?_⟩;have _z:Mgk 0:=mgkI 0
 all_goals
  intro D L G gr w
  first| (rename Mgk 0=>_z;have bA:=af w (.cells (ygA 2 D L G gr) 49))| (have bA:=af w (.cells (ygA 16 D L G gr) 49))
  first| (rename Mgk 0=>_z;have l1:=ah w (ygL 2 D L G gr) 49)| (have l1:=ah w (ygL 16 D L G gr) 49)
  have c1:=l1.c 1 rfl;have c2:=l1.c 2 rfl;have c3:=l1.c 3 rfl
  first| (rename Mgk 0=>_z;obtain⟨C,hC⟩: ∃C,bk 2 D L G=C:=⟨_,rfl⟩)| (obtain⟨C,hC⟩: ∃C,bk 16 D L G=C:=⟨_,rfl⟩)
  first| (rename Mgk 0=>_z;have HC3:Hid (D<1∨120<D∨eJ 17000 L=true∨eJ 17000 G=true∨G<L→3=C):=fun h=>by rw[←hC];exact(zp (R:=2) (by omega) h).symm)| (have HC3:Hid (D<1∨120<D∨eJ 4000 L=true∨eJ 4000 G=true∨G<L→3=C):=fun h=>by rw[←hC];exact(zp (R:=16) (by omega) h).symm)
  first| (rename Mgk 0=>_z;have HC0:Hid (¬(D<1∨120<D∨eJ 17000 L=true∨eJ 17000 G=true∨G<L)→0=C):=fun h=>by rw[←hC];exact(Bm (R:=2) (by omega) h).symm)| (have HC0:Hid (¬(D<1∨120<D∨eJ 4000 L=true∨eJ 4000 G=true∨G<L)→0=C):=fun h=>by rw[←hC];exact(Bm (R:=16) (by omega) h).symm)
  rw[hC]
  first| (rename Mgk 0=>_z;have H1:Hid (∀w1,yC 147 #[yi L,yi 17000] w1 fun z w'=>z= .returned (.bool (eJ 17000 L))∧w'=w1):=fun w1=>nK L 17000 w1 (by omega) (by omega))| (have H1:Hid (∀w1,yC 147 #[yi L,yi 4000] w1 fun z w'=>z= .returned (.bool (eJ 4000 L))∧w'=w1):=fun w1=>nK L 4000 w1 (by omega) (by omega))
  first| (rename Mgk 0=>_z;have H2:Hid (∀w1,yC 147 #[yi G,yi 17000] w1 fun z w'=>z= .returned (.bool (eJ 17000 G))∧w'=w1):=fun w1=>nK G 17000 w1 (by omega) (by omega))| (have H2:Hid (∀w1,yC 147 #[yi G,yi 4000] w1 fun z w'=>z= .returned (.bool (eJ 4000 G))∧w'=w1):=fun w1=>nK G 4000 w1 (by omega) (by omega))
  first| (rename Mgk 0=>_z;obtain⟨bl,hbl⟩: ∃b,eJ 17000 L=b:=⟨_,rfl⟩)| (obtain⟨bl,hbl⟩: ∃b,eJ 4000 L=b:=⟨_,rfl⟩)
  first| (rename Mgk 0=>_z;obtain⟨bg,hbg⟩: ∃b,eJ 17000 G=b:=⟨_,rfl⟩)| (obtain⟨bg,hbg⟩: ∃b,eJ 4000 G=b:=⟨_,rfl⟩)
  rw[hbl] at H1 HC3 HC0;rw[hbg] at H2 HC3 HC0;clear hC hbl hbg
  by_cases d1:D<1
  ·obtain rfl:=HC3.out (.inl d1)
   go_enter func146,ntmps146
   go_wp2
   go_ret
   exact⟨rfl,bA⟩
  ·by_cases d2:120<D
   ·obtain rfl:=HC3.out (.inr (.inl d2))
    go_enter func146,ntmps146
    go_wp2
    go_ret
    exact⟨rfl,bA⟩
   ·cases bl
    ·cases bg
     ·by_cases d3:G<L
      ·obtain rfl:=HC3.out (.inr (.inr (.inr (.inr d3))))
       go_enter func146,ntmps146
       go_wp2_with fail
       refine(H1.out _).mono ?_;rintro z w2 ⟨rfl,rfl⟩
       go_wp2_with fail
       refine(H2.out _).mono ?_;rintro z w3 ⟨rfl,rfl⟩
       go_wp2
       go_ret
       exact⟨rfl,bA⟩
      ·obtain rfl:=HC0.out (by simp[d1,d2,d3])
       go_enter func146,ntmps146
       go_wp2_with fail
       refine(H1.out _).mono ?_;rintro z w2 ⟨rfl,rfl⟩
       go_wp2_with fail
       refine(H2.out _).mono ?_;rintro z w3 ⟨rfl,rfl⟩
       go_wp2
       go_ret
       exact⟨rfl,bA⟩
     ·obtain rfl:=HC3.out (.inr (.inr (.inr (.inl rfl))))
      go_enter func146,ntmps146
      go_wp2_with fail
      refine(H1.out _).mono ?_;rintro z w2 ⟨rfl,rfl⟩
      go_wp2_with fail
      refine(H2.out _).mono ?_;rintro z w3 ⟨rfl,rfl⟩
      go_wp2
      go_ret
      exact⟨rfl,bA⟩
    ·obtain rfl:=HC3.out (.inr (.inr (.inl rfl)))
     go_enter func146,ntmps146
     go_wp2_with fail
     refine(H1.out _).mono ?_;rintro z w2 ⟨rfl,rfl⟩
     go_wp2
     go_ret
     exact⟨rfl,bA⟩
abbrev MW:=gcheck2_any_mg.1
abbrev Ky:=gcheck2_any_mg.2
theorem vE (R D L G:Int)(gr:Bool)(w:World):
  yC 146 #[ygV R D L G gr] w (yR w (yi (bk R D L G))):=by
 by_cases h2:R=2
 ·subst h2
  exact MW D L G gr w
 ·by_cases h16:R=16
  ·subst h16
   exact Ky D L G gr w
  ·rw[FD h2 h16]
   have bA:=af w (.cells (ygA R D L G gr) 49);have e1:(R != 2)=true:=by simp;exact h2
   have e2:(R != 16)=true:=by simp;exact h16
   go_enter func146,ntmps146
   go_wp2
   go_ret
   exact⟨rfl,bA⟩
theorem BD (N M:Nat)(n:Int)(j:Nat)(hN:N≠0)(hM:M≠0):2^j≤eZ N n/dX M n↔(j:Int)≤dY N M 0+n:=by
 rw[fw,eM,Nat.le_div_iff_mul_le (Nat.mul_pos (Nat.pos_of_ne_zero hM) (bG _)),←Nat.mul_assoc,Nat.mul_comm (2^j),Nat.mul_assoc,←Nat.pow_add,BC N M _ _ hN hM];omega
theorem xx (R D k:Int)(N M:Nat)(E:Int)(h1:1≤D)(hN:N≠0)(hM:M≠0):
  bitLen (eZ N (E-(ai R:Int)*k)/dX M (E-(ai R:Int)*k))<ai R*(D-1).toNat+1↔aT R D (dY N M E)<k:=by
 rw[pP,BD N M _ _ hN hM,qD N M E];unfold aT;obtain⟨t,ht⟩: ∃t,dY N M 0=t:=⟨_,rfl⟩;rw[ht];unfold ai
 split<;>simp<;>omega
theorem rP (R D L:Int)(gr:Bool)(N M:Nat)(E:Int)(h1:1≤D)(hN:N≠0)(hM:M≠0):cH R D L gr N M E<2^ (ai R*D.toNat):=by
 refine Nat.lt_of_not_le fun c=> ?_
 unfold cH shP at c;rw[BD N M _ _ hN hM] at c;have hc:aT R D (dY N M E)≤dj R D L gr N M E:=by
  unfold dj
  by_cases h:(decide (aT R D (dY N M E)<L)&&gr)=true
  ·rw[if_pos h]
   have:=of_decide_eq_true (Bool.and_eq_true_iff.1 h).1;omega
  ·rw[if_neg h]
   exact Int.le_refl _
 obtain⟨k,hk⟩: ∃k,dj R D L gr N M E=k:=⟨_,rfl⟩;rw[hk] at c hc;rw[qD] at hc;obtain⟨t,ht⟩: ∃t,dY N M 0=t:=⟨_,rfl⟩;rw[ht] at c hc;unfold aT ai at hc;unfold ai at c
 split at c<;>simp_all<;>omega
theorem Vf (R D L:Int)(gr:Bool)(N M:Nat)(E:Int)(h1:1≤D)(hN:N≠0)(hM:M≠0)(h:dj R D L gr N M E=aT R D (dY N M E)):0<cH R D L gr N M E:=by
 have h2: ¬bitLen (cH R D L gr N M E)<ai R*(D-1).toNat+1:=by
  unfold cH shP;rw[h,xx R D _ N M E h1 hN hM];omega
 have:cH R D L gr N M E≠0:=by
  intro c;rw[c] at h2;simp at h2;rw[gP] at h2;omega
 omega
theorem jw {w:World}{s:Bool}{ao:Option Addr}{ca:Nat}{xs:List Nat}{e:Int}(hr:Rd w .u32 (.slice ao xs.length ca) xs)(sa:Dg.Small 4294967296 xs)(hn:Dg.Norm xs):
  Dv w (ydV s (.slice ao xs.length ca) e) ⟨s,Dg.vl 4294967296 xs,e⟩:=by
 have h:=Dg.eq_dg 4294967296 (by omega) xs _ sa hn rfl;refine⟨_,rfl, ?_⟩;simp only;rw[←h];exact hr
theorem qB (v:Value)(t:ak)(w:World)(hv:Dv w v t):yC 135 #[v] w (yR w (yi (dJ t))):=by
 obtain⟨s0,rfl,hr⟩:=hv;obtain⟨ao,ca,rfl⟩:=hr.shape;obtain⟨ts,n,e⟩:=t;have hnl:=Dg.dg_nil_iff 4294967296 n (by omega);simp only at hr⊢;unfold dJ;simp only;obtain⟨m,hm⟩: ∃m,(Dg.dg 4294967296 n).length=m:=⟨_,rfl⟩;have hz:m=0↔n=0:=by rw[←hm,List.length_eq_zero_iff];exact hnl
 rw[hm];have bA:=af w (.cells (ydA ts (.slice ao m ca) e) 86);clear hm hr hnl
 by_cases h:n=0
 ·rw[if_pos h]
  have hm0:=hz.2 h;subst hm0;clear hz h
  go_enter func135,ntmps135
  go_wp2
  go_ret
  exact⟨rfl,bA⟩
 ·rw[if_neg h]
  have hm0:((m:Int)==0)=false:=by
   have: ¬m=0:=fun e=>h (hz.1 e)
   simp;exact this
  clear hz h
  cases ts
  ·go_enter func135,ntmps135
   go_wp2
   go_ret
   exact⟨rfl,bA⟩
  ·go_enter func135,ntmps135
   go_wp2
   go_ret
   exact⟨rfl,bA⟩
def cP (R D L:Int)(gr:Bool)(n:Nat)(e:Int):Int:=
 if(decide (aT R D ((bitLen n:Int)-1+e)<L)&&gr)=true then L else aT R D ((bitLen n:Int)-1+e)
def dA (R D L G:Int)(gr:Bool)(n:Nat)(e:Int):Bool:=
 decide (n=0∨(L≤cP R D L gr n e∧cP R D L gr n e≤G∧(ai R:Int)*cP R D L gr n e≤e+(tz n:Int)))
theorem lU {n:Nat}(h:n≠0)(E:Int):dY n 1 E=(bitLen n:Int)-1+E:=by
 obtain⟨b1,b2,b3⟩:=uB n h;have t1:=(BC n 1 0 (bitLen n-1) h (by omega)).1 (by simpa using b2);have t2: ¬((bitLen n:Nat):Int)≤dY n 1 0+((0:Nat):Int):=fun c=>by
  have:=(BC n 1 0 (bitLen n) h (by omega)).2 c;simp at this;omega
 rw[qD];omega
theorem nV (s:Bool)(n:Nat)(e k:Int)(hk:k≤e+(tz n:Int)):eZ n (e-k) % dX 1 (e-k)=0∧bare ⟨s,eZ n (e-k)/dX 1 (e-k),k⟩=bare ⟨s,n,e⟩:=by
 by_cases h0:n=0
 ·subst h0
  have e1:eZ 0 (e-k)=0:=by rw[fw];simp
  rw[e1];simp[bare]
 ·by_cases hle:k≤e
  ·have e1:dX 1 (e-k)=1:=by rw[eM,show(-(e-k)).toNat=0 by omega]
   rw[e1,fw,Nat.mod_one,Nat.div_one];refine⟨rfl, ?_⟩;refine fH (K:=(max (-k) 0).toNat) (by simp only;omega) (by simp only;omega) ?_;rw[eV,eV];simp only;rw[Nat.mul_assoc,←Nat.pow_add,show(e-k).toNat+(k+((max (-k) 0).toNat:Int)).toNat=(e+((max (-k) 0).toNat:Int)).toNat by omega]
  ·obtain⟨m,hm⟩:=fO h0
   obtain⟨q,hq⟩: ∃q,n=q*2^ (k-e).toNat:=by
    refine⟨2^ (tz n-(k-e).toNat)*(2*m+1), ?_⟩;rw[Nat.mul_right_comm,←Nat.pow_add,show tz n-(k-e).toNat+(k-e).toNat=tz n by omega]
    exact hm
   have e1:eZ n (e-k)=n:=by rw[fw,show(e-k).toNat=0 by omega,Nat.pow_zero,Nat.mul_one]
   have e2:dX 1 (e-k)=2^ (k-e).toNat:=by rw[eM,Nat.one_mul,show-(e-k)=k-e by omega]
   rw[e1,e2,hq,Nat.mul_mod_left,Nat.mul_div_cancel _ (bG _)];refine⟨rfl, ?_⟩;refine fH (K:=(max (-e) 0).toNat) (by simp only;omega) (by simp only;omega) ?_;rw[eV,eV];simp only;rw[Nat.mul_assoc,←Nat.pow_add,show(k-e).toNat+(e+((max (-e) 0).toNat:Int)).toNat=(k+((max (-e) 0).toNat:Int)).toNat by omega]
theorem tdecimals_any (s:ByteArray)(w:World)(hs:s.size≤12000):
  yC 124 #[.string s] w (yR w (.bool (digB s))):=by
 obtain⟨B,hB⟩: ∃b,digB s=b:=⟨_,rfl⟩;rw[hB];replace hB:Hid _:=hB
 go_enter func124,ntmps124
 go_wp2
 go_loop [6] (fun iv=> ∃k:Nat,k≤s.size∧iv=yi k∧Hid (∀i,i<k→48≤byt s i∧byt s i≤57)) (fun iv=>s.size-(intOf iv).toNat)
 case atStart=>exact⟨0,Nat.zero_le _,rfl,fun i hi=>by omega⟩
 case round=>
  obtain⟨k,hk,rfl,hall⟩:=hrel
  by_cases hlt:k<s.size
  ·have hik:=li s k hlt
   obtain⟨y,hy⟩: ∃y,byt s k=y:=⟨_,rfl⟩;rw[hy] at hik;have HY:Hid (byt s k=y):=hy;have hy8:y<256:=by rw[←hy];exact Ay s k
   clear hy
   by_cases h1:y<48
   ·go_wp2
    go_ret
    have e:B=false:=by
     rw[←hB.out,←Bool.not_eq_true,digB_iff];intro h;have:=(h.2 k hlt).1;rw[HY.out] at this;omega
    rw[e];exact⟨rfl,Below.refl _ _⟩
   ·by_cases h2:57<y
    ·go_wp2
     go_ret
     have e:B=false:=by
      rw[←hB.out,←Bool.not_eq_true,digB_iff];intro h;have:=(h.2 k hlt).2;rw[HY.out] at this;omega
     rw[e];exact⟨rfl,Below.refl _ _⟩
    ·go_wp2
     go_round
     case rel=>exact⟨k+1,by omega,by go_num,fun i hi=>by
      by_cases c:i=k
      ·rw[c,HY.out];omega
      ·exact hall.out i (by omega)⟩
     case measure=>simp[intOf];omega
  ·obtain rfl:k=s.size:=by omega
   by_cases h0:s.size=0
   ·have:=IX s h0
    subst this
    go_wp2
    go_ret
    rw[←hB.out];exact⟨rfl,Below.refl _ _⟩
   ·have hemp:=Qw s h0
    go_wp2
    go_ret
    rw[←hB.out,(digB_iff s).2 ⟨h0,hall.out⟩];exact⟨rfl,Below.refl _ _⟩
def nm (R D L:Int)(gr:Bool)(n:Nat)(e:Int):Nat:=shN n (e-(ai R:Int)*cP R D L gr n e)
def fD (R D L G:Int)(gr:Bool)(n:Nat)(e:Int):Nat:=if n=0 then 0 else if dA R D L G gr n e=true then nm R D L gr n e else 0
def fK (R D L G:Int)(gr:Bool)(n:Nat)(e:Int):Int:=if n=0 then L else if dA R D L G gr n e=true then cP R D L gr n e else 0
theorem Og {R D L G:Int}{gr:Bool}{n:Nat}{e:Int}(hg:bk R D L G=0)(hb:bitLen n≤40000)(e1: -100000≤e)(e2:e≤100000):
  -341000≤cP R D L gr n e∧cP R D L gr n e≤341000∧ -341000≤(ai R:Int)*cP R D L gr n e∧(ai R:Int)*cP R D L gr n e≤341000:=by
 obtain⟨hR,d1,d2,l1,l2,-,-,-,-⟩:=cB hg;have hp:=Bp (R:=R) (D:=D) (t:=(bitLen n:Int)-1+e) d1 d2 (by omega) (by omega);unfold cP
 split
 ·unfold ai
  split<;>simp<;>omega
 ·exact hp
theorem GK {R D L G:Int}{gr:Bool}{n:Nat}{e:Int}(h0:n≠0):dA R D L G gr n e=true↔L≤cP R D L gr n e∧cP R D L gr n e≤G∧(ai R:Int)*cP R D L gr n e≤e+(tz n:Int):=by
 unfold dA;rw[decide_eq_true_iff]
 constructor
 ·rintro(h|h)
  ·exact absurd h h0
  ·exact h
 ·exact .inr
theorem fS (zs : List Nat) : (cF zs).size = zs.length := by
 unfold cF
 show (zs.map (fun n => UInt8.ofNat n)).toArray.size = _
 simp
theorem jO {M:Nat}(h:M≠0)(n:Int):0<dX M n:=by
 rw[eM];exact Nat.mul_pos (by omega) (bG _)
theorem NH (N M:Nat)(n:Int):eZ N (n+1)*dX M n=2*eZ N n*dX M (n+1):=by
 rw[fw,fw,eM,eM]
 by_cases h:0≤n
 ·rw[show(-n).toNat=0 from by omega,show(-(n+1)).toNat=0 from by omega,show(n+1).toNat=n.toNat+1 from by omega,Nat.pow_succ]
  simp only[Nat.pow_zero,Nat.mul_one];rw[←Nat.mul_assoc N,Nat.mul_comm _ 2,←Nat.mul_assoc 2,Nat.mul_assoc 2]
 ·rw[show n.toNat=0 from by omega,show(n+1).toNat=0 from by omega,show(-n).toNat=(-(n+1)).toNat+1 from by omega,Nat.pow_succ]
  simp only[Nat.pow_zero,Nat.mul_one];rw[←Nat.mul_assoc M,←Nat.mul_assoc N,Nat.mul_comm _ 2,←Nat.mul_assoc 2]
theorem Zv {J:Int}{N1 M1 N2 M2:Nat}{E1 E2:Int}(n1:N1≠0)(m1:M1≠0)(n2:N2≠0)(m2:M2≠0)(h:ut J N1 M1 E1 N2 M2 E2)(hJ:J≤dY N1 M1 E1):dY N1 M1 E1=dY N2 M2 E2:=by
 have key: ∀{N M:Nat} {E:Int} (i:Int),N≠0→M≠0→(1≤eZ N (E-i)/dX M (E-i)↔i≤dY N M E):=fun {N M E} i hN hM=>by
  have:=BD N M (E-i) 0 hN hM;rw[qD N M E];rw[Nat.pow_zero] at this
  constructor
  ·intro g;have:=this.1 g;omega
  ·intro g;exact this.2 (by omega)
 have a1:=(key (E:=E1) (dY N1 M1 E1) n1 m1).2 (Int.le_refl _);have a2:=fun g=>(key (E:=E1) (dY N1 M1 E1+1) n1 m1).1 g
 rw[(h _ hJ).1] at a1;have b1:=(key (E:=E2) _ n2 m2).1 a1;have b2: ¬dY N1 M1 E1+1≤dY N2 M2 E2:=fun g=>by
  have:=(key (E:=E2) _ n2 m2).2 g;rw[←(h _ (by omega)).1] at this;have:=a2 this;omega
 omega
theorem decS_le {n k:Nat}(h:n<10^k)(hk:1≤k):(oW n).size≤k:=by
 unfold oW
 split
 ·exact hk
 ·rw[fS,List.length_reverse,List.length_map]
  exact Dg.dg_len_le 10 n k (by omega) h
def dcC (x:ak):Nat:=(oW (dcW x)).size
theorem dc_in {x:ak}(hx:x.n<2^64)(e1: -16500≤x.e)(e2:x.e≤16500)(h0:x.n≠0):(-5000≤dcG x∧dcG x≤5000)∧(∃c,c=36964∧dcW x<2^c)∧dcC x≤36964:=by
 have hb:=bF x.n 64 hx;have hb1:=Gq h0;have hG: -5000≤dcG x∧dcG x≤5000:=pb_in (by omega) (by omega);obtain⟨a,ha⟩: ∃a,a=64:=⟨_,rfl⟩;obtain⟨c,hc⟩: ∃c,c=36964:=⟨_,rfl⟩;rw[←ha] at hx;have hW:dcW x<2^c:=Nat.lt_of_le_of_lt (Nat.div_le_self _ _) (sc_in ha hc hx e2 (n:=60-dcG x) (by omega)).1;refine⟨hG,⟨c,hc,hW⟩, ?_⟩;rw[←hc];exact decS_le (Nat.lt_of_lt_of_le hW (Nat.pow_le_pow_left (by omega) c)) (by omega)
def prN (H C:Nat)(P:Int)(k:Nat):Int:=if k< (oW (prQ H C k)).size then P+1 else P
def prR (g:Bool)(H C:Nat)(P:Int)(k:Nat):ByteArray:=tpS g (oW (prQ H C k)) k ⟨(Lib.itoa (prN H C P k)).toArray⟩
theorem decS_one (n:Nat):1≤(oW n).size:=by
 unfold oW
 split
 ·exact Nat.le_refl _
 ·rename_i h
  rw[fS,List.length_reverse,List.length_map]
  rcases Nat.eq_zero_or_pos (Dg.dg 10 n).length with c|c
  ·exact absurd ((Dg.dg_nil_iff 10 _ (by omega)).1 (List.length_eq_zero_iff.1 c)) h
  ·exact c
end Go.Proofs.YtdhpndnncmagiaaGreatDoor
