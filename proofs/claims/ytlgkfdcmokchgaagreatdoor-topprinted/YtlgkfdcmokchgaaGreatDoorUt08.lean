/-
  Texts laid together: Dz, Leaf, Div1, Rev, Dec, DecW, Begun, Add, Cmp, Ref3, Bits, Shift, Ref6, Dy1, Dr1, Back, Long, Roo1, Co8, Co19, Gr1, Gr2, Gr4, Gr5, Cr9, Rk1, Ref8.
-/
import Derived.Test.YtlgkfdcmokchgaaGreatDoorUt01
import Derived.Test.YtlgkfdcmokchgaaGreatDoorUt02
set_option maxRecDepth 100000
set_option maxHeartbeats 4000000
namespace Go.Proofs.YtlgkfdcmokchgaaGreatDoor
open _root_.Go.Proofs.Tryz
open Go.RowKit
def bare (a:ak):ak:=if a.n=0 then⟨false,0,0⟩ else⟨a.s,a.n/2^tz a.n,a.e+tz a.n⟩
theorem AM (a b:Int)(w:World):yC 137 #[yi a,yi b] w fun e w'=>e= .returned (yi (dm a b))∧w'=w:=by
 unfold dm
 by_cases h1:a<b
 ·rw[if_pos h1]
  go_enter func137,ntmps137
  go_wp2
  go_ret
  exact⟨rfl,rfl⟩
 ·by_cases h2:b<a
  ·rw[if_neg h1,if_pos h2]
   go_enter func137,ntmps137
   go_wp2
   go_ret
   exact⟨rfl,rfl⟩
  ·rw[if_neg h1,if_neg h2]
   go_enter func137,ntmps137
   go_wp2
   go_ret
   exact⟨rfl,rfl⟩
theorem RF (a b:Int)(w:World):yC 138 #[.int .u32 a,.int .u32 b] w fun e w'=>e= .returned (yi (dm a b))∧w'=w:=by
 unfold dm
 by_cases h1:a<b
 ·rw[if_pos h1]
  go_enter func138,ntmps138
  go_wp2
  go_ret
  exact⟨rfl,rfl⟩
 ·by_cases h2:b<a
  ·rw[if_neg h1,if_pos h2]
   go_enter func138,ntmps138
   go_wp2
   go_ret
   exact⟨rfl,rfl⟩
  ·rw[if_neg h1,if_neg h2]
   go_enter func138,ntmps138
   go_wp2
   go_ret
   exact⟨rfl,rfl⟩
theorem Vb (hi lo y:Nat)(w:World)(h1:hi<y)(h2:lo<4294967296)(h3:y<4294967296):
  yC 101 #[.int .u32 hi,.int .u32 lo,.int .u32 y] w (yR w (.tuple #[.int .u32 ((hi*4294967296+lo)/y:Nat),.int .u32 ((hi*4294967296+lo) % y:Nat)])):=by
 have hor:=KJ hi lo (by omega) h2;obtain⟨t,ht⟩: ∃t,hi*4294967296+lo=t:=⟨_,rfl⟩;have hq1:=I6 h1 h2 ht.symm;have htb:t<18446744073709551616:=by omega
 rw[ht] at hor⊢;have hr1:t % y<y:=Nat.mod_lt _ (by omega);obtain⟨q,hq⟩: ∃q,t/y=q:=⟨_,rfl⟩;obtain⟨r,hr⟩: ∃r,t % y=r:=⟨_,rfl⟩;have hqI:(t:Int)/(y:Int)=(q:Int):=by rw[←hq];exact(Int.natCast_ediv t y).symm
 have hrI:(t:Int) % (y:Int)=(r:Int):=by rw[←hr];exact(Int.natCast_emod t y).symm
 rw[hq] at hq1⊢;rw[hr] at hr1⊢;clear hq hr ht;have hd:decide (y≤hi)=false:=by simp;omega
 have hy:((y:Int) != 0)=true:=by rw[bne_iff_ne];omega
 go_enter func101,ntmps101
 go_wp2
 go_quiet (fail)
 go_wp2
 go_ret2
 exact⟨rfl,aL (Below.refl _ _) _⟩
theorem IJ {zs cur:List Nat}{i:Nat}(h:XT zs cur i)(hi:i<zs.length-1-i):XT zs ((cur.set i (cur.getD (zs.length-1-i) 0)).set (zs.length-1-i) (cur.getD i 0)) (i+1):=by
 obtain⟨h1,h2,h3⟩:=h;refine⟨by simpa using h1,by omega,fun k hk=> ?_⟩
 rw[Dg.getD_set _ _ _ _ (by simp;omega),Dg.getD_set _ _ _ _ (by omega)]
 by_cases e1:zs.length-1-i=k
 ·rw[if_pos e1,if_pos (by omega),h3 i (by omega),if_neg (by omega)]
  rw[←e1,show zs.length-1-(zs.length-1-i)=i from by omega]
 ·rw[if_neg e1]
  by_cases e2:i=k
  ·rw[if_pos e2,if_pos (by omega),h3 _ (by omega),if_neg (by omega),←e2]
  ·rw[if_neg e2,h3 k hk]
   by_cases e3:k<i∨zs.length-1-i<k
   ·rw[if_pos e3,if_pos (by omega)]
   ·rw[if_neg e3,if_neg (by omega)]
theorem Tryz.infoU8:(Tryz.prog.info? 5).map (fun i=>(i.zero,i.size,i.bytes))=some (some (.int .u8 0),1,1):=by kernel_rfl
def cF (zs:List Nat):ByteArray:=⟨(zs.map (fun n=>UInt8.ofNat n)).toArray⟩
def oW (n:Nat):ByteArray:=if n=0 then⟨#[48]⟩ else cF (((Dg.dg 10 n).map (fun d=>48+d)).reverse)
theorem Iu: ∀(zs:List Nat) (s:ByteArray),((zs.map (fun n:Nat=>(n:Int))).foldl (fun r n=>r.push (UInt8.ofNat n.toNat)) s)=⟨s.data++(zs.map (fun n=>UInt8.ofNat n)).toArray⟩:=by
 intro zs
 induction zs with
 |nil=>intro s;simp
 |cons z zs ih=>
  intro s;simp only[List.map_cons,List.foldl_cons];rw[ih];simp[ByteArray.push]
theorem lQ {P:Program}{w:World}{base e g n cap:Nat}{zs:List Nat}(src dst:TypeId)(hs:P.underlying src=some (.slice e))(he:P.underlying e=some (.int .u8))(hd:P.underlying dst=some .string)
  (h:Own w base e .u8 (.slice (some ⟨g,0,none⟩) n cap) zs):(convert src dst (.slice (some ⟨g,0,none⟩) n cap)).run P w= .ok (.string (cF zs)) w:=by
 rw[run_convert_bytes_string w src dst e _ _ _ hs he hd];have hn:=h.len;subst hn;have hl:=run_loadCells_list (P:=P) w ⟨g,0,none⟩ (zs.map (fun n:Nat=>Value.int .u8 n)) (by
  intro j u hj;have hjl:j<zs.length:=by have:=(List.getElem?_eq_some_iff.1 hj).1;simpa using this
  rw[j9 _ zs j hjl] at hj;rw[rO,Nat.zero_add,h.c j hjl];exact hj)
 rw[List.length_map] at hl;have:=run_bytesToString (P:=P) w ⟨g,0,none⟩ zs.length cap (zs.map (fun n:Nat=>(n:Int))) (by
  rw[hl];simp)
 rw[this,Iu];simp[cF]
theorem Own.keep {w w':World}{base e:Nat}{k:IntKind}{v:Value}{zs:List Nat}{G:Nat}(h:Own w base e k v zs)(hg:w.grownBy w' (some G))(hlt:G<base):Own w' base e k v zs:=by
 refine World.ownsRow.kept h hg ?_
 by_cases hb:v.ownBlock=some G
 ·have:=(World.ownsRow.lt h G hb).1
  omega
 ·exact .inr hb
theorem Own.keep2 {w w':World}{base base' e e':Nat}{k k':IntKind}{v':Value}{zs zs':List Nat}{g n cap:Nat}(h:Own w base e k (.slice (some ⟨g,0,none⟩) n cap) zs)(h':Own w base' e' k' v' zs')(hlt:g<base')(hg:w.grownBy w' v'.ownBlock):
  Own w' base e k (.slice (some ⟨g,0,none⟩) n cap) zs:=by
 have hn:=h.len;subst hn;refine World.ownsRow.kept h hg (.inr ?_);intro e;have:=(World.ownsRow.lt h' g e.symm).1;omega
def L5 (n:Nat)(ds:List Nat)(m:Nat):Prop:=Dg.Small 10 ds∧n=Dg.vl 10 ds+10^ds.length*m
def Xp (n m:Nat)(ds:List Nat)(j g:Nat):Prop:=Dg.Small 10 ds∧j≤9∧g<10^ (9-j)∧n=Dg.vl 10 ds+10^ds.length*(g+10^ (9-j)*m)
theorem qP {B:Nat}{l:List Nat}{x:Nat}(h:Dg.Small B l)(hx:x<B):Dg.Small B (l++[x]):=by
 intro i;rw[List.getD_eq_getElem?_getD,List.getElem?_append]
 by_cases hi:i<l.length
 ·rw[if_pos hi];simpa[List.getD_eq_getElem?_getD] using h i
 ·rw[if_neg hi]
  by_cases h2:i-l.length=0
  ·simp[h2];exact hx
  ·rw[List.getElem?_eq_none (by simp;omega)];simp;omega
theorem Pd {n m:Nat}{ds:List Nat}(h:L5 n ds m):Xp n (m/1000000000) ds 0 (m % 1000000000):=by
 refine⟨h.1,by omega,by simp;omega, ?_⟩;rw[h.2];have:m % 1000000000+10^ (9-0)*(m/1000000000)=m:=by simpa using Nat.mod_add_div m 1000000000
 rw[this]
theorem TJ {n m:Nat}{ds:List Nat}{j g:Nat}(h:Xp n m ds j g)(hj:j<9):Xp n m (ds++[g % 10]) (j+1) (g/10):=by
 obtain⟨h1,h2,h3,h4⟩:=h;have e:9-j=(9-(j+1))+1:=by omega
 rw[e,Nat.pow_succ] at h3 h4;refine⟨qP h1 (Nat.mod_lt _ (by omega)),by omega,by omega, ?_⟩;rw[Dg.vl_append];simp only[Dg.vl,List.length_append,List.length_cons,List.length_nil,Nat.pow_succ];rw[h4];generalize 10^ (9-(j+1))=p at*;have e2:g+p*10*m=g % 10+10*(g/10+p*m):=by
  have:=Nat.mod_add_div g 10;rw[Nat.mul_add,Nat.mul_comm p 10,Nat.mul_assoc];omega
 rw[e2,Nat.mul_add];simp only[Nat.mul_zero,Nat.add_zero];rw[Nat.mul_assoc];omega
theorem Xq {n m:Nat}{ds:List Nat}{g:Nat}(h:Xp n m ds 9 g):L5 n ds m:=by
 obtain⟨h1,h2,h3,h4⟩:=h;have:g=0:=by simpa using h3
 subst this;exact⟨h1,by simpa using h4⟩
theorem TK (a b:Nat)(h:10^a<4294967296^b):a<32*b:=by
 have h1:2^a≤10^a:=Nat.pow_le_pow_left (by omega) a;have h2:(4294967296:Nat)^b=2^ (32*b):=by rw[Nat.pow_mul]
 rw[h2] at h;exact(Nat.pow_lt_pow_iff_right (by omega)).1 (Nat.lt_of_le_of_lt h1 h)
theorem Xr {n m:Nat}{ds:List Nat}{L:Nat}(h:L5 n ds m)(hm:m≠0)(hn:n<4294967296^L):ds.length<32*L:=by
 apply TK;have:10^ds.length≤10^ds.length*m:=Nat.le_mul_of_pos_right _ (by omega);have:=h.2;omega
def afn (w:World)(L n m:Nat)(lv rv:Value)(wr:World):Prop:=
 ∃ds len,rv= .slice (some ⟨w.heap.size,0,none⟩) len L∧Own wr w.heap.size 54 .u32 (.slice (some ⟨w.heap.size,0,none⟩) len L) (Dg.dg 4294967296 m)∧Own wr (w.heap.size+1) 5 .u8 lv (ds.map (fun d=>48+d))∧L5 n ds m∧yB w wr∧w.heap.size<wr.heap.size∧len≤L∧ds.length≤32*L+9
def afo (w:World)(L n m len base0:Nat)(qs:List Nat)(lv gv jv:Value)(wr:World):Prop:=
 ∃ds j g,gv= .int .u32 ((g:Nat):Int)∧jv=yi ((j:Nat):Int)∧j≤9∧ds.length=base0+j∧g<1000000000∧Own wr w.heap.size 54 .u32 (.slice (some ⟨w.heap.size,0,none⟩) len L) qs∧Own wr (w.heap.size+1) 5 .u8 lv (ds.map (fun d=>48+d))∧Xp n m ds j g∧yB w wr∧w.heap.size<wr.heap.size
theorem Qb {w wr w3:World}{L len g:Nat}{qs es:List Nat}{lv v':Value}(bel:yB w wr)(hsz:w.heap.size<wr.heap.size)
  (ownQ:Own wr w.heap.size 54 .u32 (.slice (some ⟨w.heap.size,0,none⟩) len L) qs) (ownL:Own wr (w.heap.size+1) 5 .u8 lv (es.map (fun d=>48+d)))
  (hown':w3.ownsRow (w.heap.size+1) 5 1 v' (es.length+1) ((es.map ((fun n:Nat=>Value.int .u8 (n:Int))∘fun d=>48+d))++[.int .u8 (48+(g:Int) % 10)]))
  (hgrow:(wr.alloc (.cells #[.int .u8 (48+(g:Int) % 10)] 5)).grownBy w3 lv.ownBlock):
  Own w3 w.heap.size 54 .u32 (.slice (some ⟨w.heap.size,0,none⟩) len L) qs∧Own w3 (w.heap.size+1) 5 .u8 v' ((es++[g % 10]).map (fun d=>48+d))∧yB w w3∧w.heap.size<w3.heap.size:=by
 have b1:yB wr (wr.alloc (.cells #[.int .u8 (48+(g:Int) % 10)] 5)):=(Below.refl _ _).alloc (Nat.le_refl _) _;refine⟨(ownQ.l b1).keep2 (ownL.l b1) (by omega) hgrow, ?_, ?_, ?_⟩
 ·unfold Own
  have e:(48+(g:Int) % 10)=((48+g % 10:Nat):Int):=by omega
  rw[e] at hown'
  simpa using hown'
 ·refine(aa bel b1).grown hgrow (Nat.le_trans bel.size b1.size) (fun k hk=> ?_)
  have:=(World.ownsRow.lt ownL k hk).1;omega
 ·exact Nat.lt_of_lt_of_le hsz (Nat.le_trans b1.size hgrow.size)
theorem XV {n k:Nat}{ds:List Nat}(hne:n≠0)(hn:n=Dg.vl 10 ds)(htr:ds.take k=Dg.dg 10 (Dg.vl 10 ds)):cF (((ds.map (fun d=>48+d)).take k).reverse)=oW n:=by
 subst hn;unfold oW;rw[if_neg hne,←List.map_take,htr]
theorem cE {w:World}{k:IntKind}{e:Nat}(zs:List Nat)(cs:Array Value)(hcs:cs=(zs.map (fun n:Nat=>Value.int k (n:Int))).toArray)(hl:zs.length≤maxLen):
  Rd (w.alloc (.cells cs e)) k (.slice (some ⟨w.heap.size,0,none⟩) zs.length zs.length) zs:=by
 refine⟨_,zs.length,rfl,Nat.le_refl _,hl,fun _=>⟨w.heap.size,0,rfl,fun i hi=> ?_⟩⟩
 rw[World.cell?_alloc_at _ _ _ _ rfl,hcs,Nat.zero_add];simp only[List.getElem?_toArray];exact j9 k zs i hi
theorem zA (x y c:Nat)(w:World)(hx:x<4294967296)(hy:y<4294967296)(hc:c≤1):
  yC 182 #[.int .u32 x,.int .u32 y,.int .u32 c] w fun e w'=>e= .returned (.tuple #[.int .u32 ((x+4294967296-y-c) % 4294967296:Nat),.int .u32 ((brw x y c:Nat):Int)])∧w'=w:=by
 have hb:=NE x y c hx hy hc;have hsg: ¬IntKind.u32.signed=true:=by decide
 have hd:(((x:Int)-(y:Int)) % 4294967296-(c:Int)) % 4294967296=(((x+4294967296-y-c) % 4294967296:Nat):Int):=by omega
 obtain⟨d,ed⟩: ∃d,(x+4294967296-y-c) % 4294967296=d:=⟨_,rfl⟩;rw[ed] at hd⊢;have Hd:Hid _:=hd;clear hd ed
 go_enter func182,ntmps182
 go_wp2
 go_ret2
 exact⟨by rw[←Hd.out];rfl,rfl⟩
theorem jF (va vb:Value)(xs ys:List Nat)(w:World)(ha:Rd w .u32 va xs)(hb:Rd w .u32 vb ys)(sa:Dg.Small 4294967296 xs)(sb:Dg.Small 4294967296 ys)(na:Dg.Norm xs)(nb:Dg.Norm ys):
  yC 93 #[va,vb] w (yR w (yi (dm (Dg.vl 4294967296 xs) (Dg.vl 4294967296 ys)))):=by
 obtain⟨ao,ca,rfl,hla,hma,hca⟩:=ha;obtain⟨bo,cb,rfl,hlb,hmb,hcb⟩:=hb;unfold maxLen at hma hmb;obtain⟨r,hr⟩: ∃r,dm (Dg.vl 4294967296 xs) (Dg.vl 4294967296 ys)=r:=⟨_,rfl⟩;have hc0:=AM (xs.length:Int) (ys.length:Int) w
 by_cases h1:xs.length<ys.length
 ·have hv:=Dg.vl_lt_of_len 4294967296 (by omega) xs ys sa nb h1
  rw[gX (by omega)] at hr;subst hr;rw[gX (by omega)] at hc0;rw[gX (by omega)]
  go_enter func93,ntmps93
  go_wp2_with fail
  refine hc0.mono ?_;rintro e w' ⟨rfl,rfl⟩
  go_wp2
  go_ret
  exact⟨rfl,Below.refl _ _⟩
 ·by_cases h2:ys.length<xs.length
  ·have hv:=Dg.vl_lt_of_len 4294967296 (by omega) ys xs sb na h2
   rw[sO (by omega)] at hc0;rw[sO (by omega)];clear hr
   go_enter func93,ntmps93
   go_wp2_with fail
   refine hc0.mono ?_;rintro e w' ⟨rfl,rfl⟩
   go_wp2
   go_ret
   exact⟨rfl,Below.refl _ _⟩
  ·have hle:xs.length=ys.length:=by omega
   rw[hle,Bh] at hc0;rw[hr];have HR:Hid _:=hr;have HL:Hid _:=hle;rw[hle] at hla hca⊢;clear hr hle h1 h2
   go_enter func93,ntmps93
   go_wp2_with fail
   refine hc0.mono ?_;rintro e w' ⟨rfl,rfl⟩;clear hc0
   go_wp2
   go_loopw [6] (fun iv wr=> ∃k:Nat,k≤ys.length∧iv=yi ((k:Int)-1)∧Hid (∀j,k≤j→xs.getD j 0=ys.getD j 0)∧Below w'.heap.size w' wr) (fun iv _=>(intOf iv+1).toNat)
   case atStart=>exact⟨ys.length,Nat.le_refl _,rfl,fun j hj=>by rw[Dg.getD_of_le xs j (by rw[HL.out];exact hj),Dg.getD_of_le ys j hj],Below.refl _ _⟩
   case round=>
    obtain⟨k,hk,rfl,hall,bel⟩:=hrel
    by_cases hk0:k=0
    ·subst hk0
     have he:=Dg.eq_of_all xs ys HL.out (fun j=>hall j (by omega))
     have hr0:r=0:=by rw[←HR.out,he,Bh]
     subst hr0;clear he
     go_wp2
     go_ret
     exact⟨rfl,bel⟩
    ·obtain⟨m,rfl⟩: ∃m,k=m+1:=⟨k-1,by omega⟩
     obtain⟨b,off,rfl,hcell⟩:=hca (by omega);obtain⟨b2,off2,rfl,hcell2⟩:=hcb (by omega);have hx:=cell_later bel (hcell m (by omega));have hy:=cell_later bel (hcell2 m (by omega));have hst:xs.getD m 0<ys.getD m 0→dm (Dg.vl 4294967296 xs) (Dg.vl 4294967296 ys)= -1:=fun h=>
      gX (by have:=Dg.vl_lt_of_digit 4294967296 xs ys m HL.out (by rw[HL.out];omega) hall h sa;omega)
     have hst2:ys.getD m 0<xs.getD m 0→dm (Dg.vl 4294967296 xs) (Dg.vl 4294967296 ys)=1:=fun h=>
      sO (by have:=Dg.vl_lt_of_digit 4294967296 ys xs m HL.out.symm (by omega) (fun j hj=>(hall j hj).symm) h sb;omega)
     rw[HR.out] at hst hst2;obtain⟨x,ex⟩: ∃x,xs.getD m 0=x:=⟨_,rfl⟩;obtain⟨y,ey⟩: ∃y,ys.getD m 0=y:=⟨_,rfl⟩;have HX:Hid _:=ex;have HY:Hid _:=ey;rw[ex] at hx hst hst2;rw[ey] at hy hst hst2;clear ex ey hcell hcell2 hca hcb;have hcm:=fun wx=>RF (x:Int) (y:Int) wx
     have hmI:((m+1:Nat):Int)-1=(m:Int):=by omega
     by_cases hxy:x<y
     ·have hr1:=hst hxy
      subst hr1;rw[gX (by omega)] at hcm;clear hst hst2
      go_wp2
      go_quiet ((go_at_call 138;exact Calls.quiet_of_same (hcm _)))
      go_wp2
      go_ret
      exact⟨rfl,aL bel _⟩
     ·by_cases hyx:y<x
      ·have hr1:=hst2 hyx
       subst hr1;rw[sO (by omega)] at hcm;clear hst hst2
       go_wp2
       go_quiet ((go_at_call 138;exact Calls.quiet_of_same (hcm _)))
       go_wp2
       go_ret
       exact⟨rfl,aL bel _⟩
      ·have hxe:x=y:=by omega
       subst hxe;rw[Bh] at hcm;clear hst hst2
       go_wp2
       go_quiet ((go_at_call 138;exact Calls.quiet_of_same (hcm _)))
       go_wp2
       go_roundw
       case rel=>exact⟨m,by omega,by go_num,fun j hj=>by
        by_cases e:j=m
        ·rw[e];exact HX.out.trans HY.out.symm
        ·exact hall j (by omega),aL bel _⟩
       case measure=>simp[intOf]
theorem fm (va vb:Value)(xs ys:List Nat)(w:World)(ha:Rd w .i64 va xs)(hb:Rd w .i64 vb ys)(sa:Dg.Small 65536 xs)(sb:Dg.Small 65536 ys)(na:Dg.Norm xs)(nb:Dg.Norm ys):
  yC 63 #[va,vb] w (yR w (yi (dm (Dg.vl 65536 xs) (Dg.vl 65536 ys)))):=by
 obtain⟨ao,ca,rfl,hla,hma,hca⟩:=ha;obtain⟨bo,cb,rfl,hlb,hmb,hcb⟩:=hb;unfold maxLen at hma hmb
 by_cases h1:xs.length<ys.length
 ·have hv:=Dg.vl_lt_of_len 65536 (by omega) xs ys sa nb h1
  rw[gX (by omega)];have hne:((xs.length:Int) != (ys.length:Int))=true:=by rw[bne_iff_ne];omega
  go_enter func63,ntmps63
  go_wp2
  go_ret
  exact⟨rfl,Below.refl _ _⟩
 ·by_cases h2:ys.length<xs.length
  ·have hv:=Dg.vl_lt_of_len 65536 (by omega) ys xs sb na h2
   rw[sO (by omega)];have hne:((xs.length:Int) != (ys.length:Int))=true:=by rw[bne_iff_ne];omega
   go_enter func63,ntmps63
   go_wp2
   go_ret
   exact⟨rfl,Below.refl _ _⟩
  ·have hle:xs.length=ys.length:=by omega
   obtain⟨r,hr⟩: ∃r,dm (Dg.vl 65536 xs) (Dg.vl 65536 ys)=r:=⟨_,rfl⟩;rw[hr];have HR:Hid _:=hr;have HL:Hid _:=hle;rw[hle] at hla hca⊢;clear hr hle h1 h2
   go_enter func63,ntmps63
   go_wp2
   go_loopw [5] (fun iv wr=> ∃k:Nat,k≤ys.length∧iv=yi ((k:Int)-1)∧Hid (∀j,k≤j→xs.getD j 0=ys.getD j 0)∧yB w wr) (fun iv _=>(intOf iv+1).toNat)
   case atStart=>exact⟨ys.length,Nat.le_refl _,rfl,fun j hj=>by rw[Dg.getD_of_le xs j (by rw[HL.out];exact hj),Dg.getD_of_le ys j hj],Below.refl _ _⟩
   case round=>
    obtain⟨k,hk,rfl,hall,bel⟩:=hrel
    by_cases hk0:k=0
    ·subst hk0
     have he:=Dg.eq_of_all xs ys HL.out (fun j=>hall j (by omega))
     have hr0:r=0:=by rw[←HR.out,he,Bh]
     subst hr0;clear he
     go_wp2
     go_ret
     exact⟨rfl,bel⟩
    ·obtain⟨m,rfl⟩: ∃m,k=m+1:=⟨k-1,by omega⟩
     obtain⟨b,off,rfl,hcell⟩:=hca (by omega);obtain⟨b2,off2,rfl,hcell2⟩:=hcb (by omega);have hx:=cell_later bel (hcell m (by omega));have hy:=cell_later bel (hcell2 m (by omega));have hst:xs.getD m 0<ys.getD m 0→dm (Dg.vl 65536 xs) (Dg.vl 65536 ys)= -1:=fun h=>
      gX (by have:=Dg.vl_lt_of_digit 65536 xs ys m HL.out (by rw[HL.out];omega) hall h sa;omega)
     have hst2:ys.getD m 0<xs.getD m 0→dm (Dg.vl 65536 xs) (Dg.vl 65536 ys)=1:=fun h=>
      sO (by have:=Dg.vl_lt_of_digit 65536 ys xs m HL.out.symm (by omega) (fun j hj=>(hall j hj).symm) h sb;omega)
     rw[HR.out] at hst hst2;obtain⟨x,ex⟩: ∃x,xs.getD m 0=x:=⟨_,rfl⟩;obtain⟨y,ey⟩: ∃y,ys.getD m 0=y:=⟨_,rfl⟩;have HX:Hid _:=ex;have HY:Hid _:=ey;rw[ex] at hx hst hst2;rw[ey] at hy hst hst2;clear ex ey hcell hcell2 hca hcb;have hmI:((m+1:Nat):Int)-1=(m:Int):=by omega
     rw[hmI];clear hmI
     by_cases hxy:x<y
     ·have hr1:=hst hxy
      subst hr1;clear hst hst2
      go_wp2
      go_quiet (fail)
      go_wp2
      go_ret
      exact⟨rfl,aL bel _⟩
     ·by_cases hyx:y<x
      ·have hr1:=hst2 hyx
       subst hr1;clear hst hst2
       go_wp2
       go_quiet (fail)
       go_wp2
       go_quiet (fail)
       go_wp2
       go_ret
       exact⟨rfl,aL (aL bel _) _⟩
      ·have hxe:x=y:=by omega
       subst hxe;clear hst hst2
       go_wp2
       go_quiet (fail)
       go_wp2
       go_quiet (fail)
       go_wp2
       go_roundw
       case rel=>exact⟨m,by omega,by go_num,fun j hj=>by
        by_cases e:j=m
        ·rw[e];exact HX.out.trans HY.out.symm
        ·exact hall j (by omega),aL bel _⟩
       case measure=>simp[intOf]
theorem Un (x:Int)(w:World)(h0:0≤x)(h1:x≤4294967295):
  yC 133 #[.int .u32 x] w fun e w'=>e= .returned (yi (bitLen x.toNat:Nat))∧w'=w:=by
 go_enter func133,ntmps133
 go_wp2
 all_goals try (exfalso;have hz:=Lib.len8tab_size;omega)
 all_goals (go_ret;refine⟨congrArg Ending.returned (congrArg (Value.int IntKind.i64) ?_),rfl⟩)
 all_goals simp only[X4]
 ·exact qz 24 _ x.toNat (by have:=bitLen_shift x.toNat 24 (by omega);rw[this];congr 2;omega) (by omega)
 ·exact qz 16 _ x.toNat (by have:=bitLen_shift x.toNat 16 (by omega);rw[this];congr 2;omega) (by omega)
 ·exact qz 8 _ x.toNat (by have:=bitLen_shift x.toNat 8 (by omega);rw[this];congr 2;omega) (by omega)
 ·have hb:=bitLen_le8 x.toNat (by omega)
  have e1:=IntWalk.wrap64_in ((bitLen x.toNat:Nat):Int) ⟨by omega,by omega⟩;rw[e1,e1]
theorem IK (x:Nat)(w:World)(h:x<4294967296):
  yC 133 #[.int .u32 x] w fun e w'=>e= .returned (yi (bitLen x:Nat))∧w'=w:=by
 have:=Un x w (by omega) (by omega);rw[Int.toNat_natCast] at this;exact this
theorem Y9 {xs ds:List Nat}{wh P Q k v:Nat}(h:abK xs ds wh P Q k)(hk:k<xs.length-wh)(hv:v=xs.getD (wh+k) 0/P+xs.getD (wh+k+1) 0 % P*Q):abK xs (ds.set k v) wh P Q (k+1):=by
 obtain⟨h1,h2⟩:=h;refine⟨by simpa using h1,fun j=> ?_⟩
 rw[Dg.getD_set _ _ _ _ (by omega)]
 by_cases e:k=j
 ·subst e;rw[if_pos rfl,if_pos (by omega)];exact hv
 ·rw[if_neg e,h2 j]
  by_cases e2:j<k
  ·rw[if_pos e2,if_pos (by omega)]
  ·rw[if_neg e2,if_neg (by omega)]
theorem XR (P Q:Nat)(l:List Nat)(k:Nat)(h:k<l.length):(low P Q l).take (k+1)=(low P Q l).take k++[l.getD k 0/P+l.getD (k+1) 0 % P*Q]:=by
 rw[Dg.take_succ' _ k (by rw[mA];exact h),Gb P Q l k h]
theorem Ug (P Q:Nat)(l:List Nat)(hPQ:P*Q=65536)(hs:Dg.Small 65536 l):Dg.Small 65536 (low P Q l):=by
 intro j
 by_cases hj:j<l.length
 ·rw[Gb P Q l j hj]
  have hP:0<P:=by
   rcases Nat.eq_zero_or_pos P with e|e
   ·subst e;simp at hPQ
   ·exact e
  have h1:l.getD j 0/P<Q:=by rw[Nat.div_lt_iff_lt_mul hP,Nat.mul_comm,hPQ];exact hs j
  have h2:(l.getD (j+1) 0 % P+1)*Q≤P*Q:=Nat.mul_le_mul_right _ (Nat.mod_lt _ hP);rw[Nat.add_mul,hPQ] at h2;omega
 ·rw[Dg.getD_of_le _ _ (by rw[mA];omega)];omega
theorem Zx (l:List Nat)(k t m:Nat)(hk:k<l.length)(h: ∀j,j<k→l.getD j 0=0)(hd:l.getD k 0=2^t*(2*m+1))(ht:t<32):tz (Dg.vl 4294967296 l)=32*k+t:=by
 have h1:=Dg.vl_split 4294967296 l k hk;have h0:Dg.vl 4294967296 (l.take k)=0:=Dg.vl_zeros 4294967296 (l.take k) (fun i=>by
  by_cases hi:i<k
  ·have:=h i hi
   simpa[List.getD_eq_getElem?_getD,List.getElem?_take,hi] using this
  ·simp[List.getD_eq_getElem?_getD,List.getElem?_take,hi])
 rw[h0,hd,Nat.zero_add] at h1;obtain⟨u,hu⟩: ∃u,Dg.vl 4294967296 (l.drop (k+1))=u:=⟨_,rfl⟩;rw[hu] at h1;have e32:(4294967296:Nat)=2^t*(2*2^ (31-t)):=by
  have:(4294967296:Nat)=2^ (t+(1+(31-t))):=by rw[show t+(1+(31-t))=32 from by omega]
  rw[this,Nat.pow_add,Nat.pow_add,Nat.pow_one]
 have e1:(2:Nat)^ (32*k)=4294967296^k:=by rw[Nat.pow_mul]
 refine F8 (m:=m+2^ (31-t)*u) ?_;rw[h1,Nat.pow_add,e1,Nat.mul_assoc]
 congr 1
 generalize 2^ (31-t)=c at*;have e2:4294967296*u=2^t*(2*(c*u)):=by rw[e32];simp only[Nat.mul_assoc]
 rw[e2,←Nat.mul_add]
 congr 1
 omega
theorem QY (l:List Nat)(k t m:Nat)(hk:k<l.length)(h: ∀j,j<k→l.getD j 0=0)(hd:l.getD k 0=2^t*(2*m+1))(ht:t<16):tz (Dg.vl 65536 l)=16*k+t:=by
 have h1:=Dg.vl_split 65536 l k hk;have h0:Dg.vl 65536 (l.take k)=0:=Dg.vl_zeros 65536 (l.take k) (fun i=>by
  by_cases hi:i<k
  ·have:=h i hi
   simpa[List.getD_eq_getElem?_getD,List.getElem?_take,hi] using this
  ·simp[List.getD_eq_getElem?_getD,List.getElem?_take,hi])
 rw[h0,hd,Nat.zero_add] at h1;obtain⟨u,hu⟩: ∃u,Dg.vl 65536 (l.drop (k+1))=u:=⟨_,rfl⟩;rw[hu] at h1;have e32:(65536:Nat)=2^t*(2*2^ (15-t)):=by
  have:(65536:Nat)=2^ (t+(1+(15-t))):=by rw[show t+(1+(15-t))=16 from by omega]
  rw[this,Nat.pow_add,Nat.pow_add,Nat.pow_one]
 have e1:(2:Nat)^ (16*k)=65536^k:=by rw[Nat.pow_mul]
 refine F8 (m:=m+2^ (15-t)*u) ?_;rw[h1,Nat.pow_add,e1,Nat.mul_assoc]
 congr 1
 generalize 2^ (15-t)=c at*;have e2:65536*u=2^t*(2*(c*u)):=by rw[e32];simp only[Nat.mul_assoc]
 rw[e2,←Nat.mul_add]
 congr 1
 omega
theorem XC (x:Nat)(w:World)(h:x<4294967296):yC 168 #[.int .u32 x] w fun e w'=>e= .returned (yi ((32-bitLen x:Nat):Int))∧w'=w:=by
 have hl:=IK x w h;have hb:=bF x 32 (by omega);obtain⟨l,hl2⟩: ∃l,bitLen x=l:=⟨_,rfl⟩;rw[hl2] at hl hb⊢;clear hl2
 go_enter func168,ntmps168
 go_wp2_with fail
 refine hl.mono ?_;rintro e w' ⟨rfl,rfl⟩
 go_wp2
 go_ret
 exact⟨by go_num,rfl⟩
def GsR (w:World)(g at0 top d1 d0 p0:Nat)(gv rv:Value)(wr:World):Prop:=
 ∃(t r:Nat),gv= .int .u64 t∧rv= .int .u64 r∧Hid (GsI top d1 d0 p0 t r)∧r<4294967296∧t≤4294967297∧wr.cell? ⟨g,at0,none⟩=some (.int .u32 p0)∧yB w wr
theorem V7 (ys:List Nat)(s:Nat)(sb:Dg.Small 4294967296 ys)(nb:Dg.Norm ys)(hn:2≤ys.length)(hs:s=32-bitLen (ys.getD (ys.length-1) 0)):
  s<32∧2147483648*4294967296^ (ys.length-1)≤Dg.vl 4294967296 ys*2^s∧Dg.vl 4294967296 ys*2^s<4294967296^ys.length:=by
 have hy0:ys.getD (ys.length-1) 0≠0:=nb (by intro e;rw[e] at hn;simp at hn);have hyl:=sb (ys.length-1);have hsp:=Dg.vl_split 4294967296 ys (ys.length-1) (by omega);have hlo:=Dg.vl_lt 4294967296 (ys.take (ys.length-1)) (Dg.small_take sb _ (by omega));rw[List.length_take,Nat.min_eq_left (by omega)] at hlo;rw[show ys.length-1+1=ys.length from by omega,List.drop_length] at hsp
 simp only[Dg.vl,Nat.mul_zero,Nat.add_zero] at hsp;generalize ys.getD (ys.length-1) 0=y at*;generalize Dg.vl 4294967296 (ys.take (ys.length-1))=lo at*;have⟨h1,h2,h3⟩:=uB y hy0;have h4:=bF y 32 (by omega);have e1:2^ (bitLen y-1)*2^s=2147483648:=by rw[←Nat.pow_add,show bitLen y-1+s=31 from by omega]
 have e2:2^bitLen y*2^s=4294967296:=by rw[←Nat.pow_add,show bitLen y+s=32 from by omega]
 have e3:(4294967296:Nat)^ys.length=4294967296^ (ys.length-1)*4294967296:=by rw[←Nat.pow_succ,show(ys.length-1).succ=ys.length from by omega]
 have a1:2^ (bitLen y-1)*2^s≤y*2^s:=Nat.mul_le_mul_right _ h2;have a2:(y+1)*2^s≤2^bitLen y*2^s:=Nat.mul_le_mul_right _ h3;refine⟨by omega, ?_, ?_⟩
 ·rw[hsp,Nat.add_mul,Nat.mul_assoc]
  have:4294967296^ (ys.length-1)*2147483648≤4294967296^ (ys.length-1)*(y*2^s):=Nat.mul_le_mul_left _ (by omega);rw[Nat.mul_comm 2147483648];omega
 ·rw[hsp,e3]
  have b1:(lo+4294967296^ (ys.length-1)*y)<4294967296^ (ys.length-1)*(y+1):=by rw[Nat.mul_add,Nat.mul_one];omega
  have b2:(lo+4294967296^ (ys.length-1)*y)*2^s<4294967296^ (ys.length-1)*(y+1)*2^s:=Nat.mul_lt_mul_of_pos_right b1 (Nat.pow_pos (by omega));rw[Nat.mul_assoc (4294967296^ (ys.length-1)) (y+1)] at b2;have b3:4294967296^ (ys.length-1)*((y+1)*2^s)≤4294967296^ (ys.length-1)*4294967296:=Nat.mul_le_mul_left _ (by omega);omega
theorem TH (x:Int)(w:World)(h0:0≤x)(h1:x≤4294967295):
  yC 157 #[.int .u64 x] w fun e w'=>e= .returned (yi (bitLen x.toNat:Nat))∧w'=w:=by
 go_enter func157,ntmps157
 go_wp2
 all_goals try (exfalso;have hz:=Lib.len8tab_size;omega)
 all_goals (go_ret;refine⟨congrArg Ending.returned (congrArg (Value.int IntKind.i64) ?_),rfl⟩)
 all_goals simp only[X4]
 ·exact qz 24 _ x.toNat (by have:=bitLen_shift x.toNat 24 (by omega);rw[this];congr 2;omega) (by omega)
 ·exact qz 16 _ x.toNat (by have:=bitLen_shift x.toNat 16 (by omega);rw[this];congr 2;omega) (by omega)
 ·exact qz 8 _ x.toNat (by have:=bitLen_shift x.toNat 8 (by omega);rw[this];congr 2;omega) (by omega)
 ·have hb:=bitLen_le8 x.toNat (by omega)
  have e1:=IntWalk.wrap64_in ((bitLen x.toNat:Nat):Int) ⟨by omega,by omega⟩;rw[e1,e1]
theorem LZ (k:Nat)(w:World)(h:k≤4294967295):
  yC 122 #[.int .u64 k] w fun e w'=>e= .returned (yi (bitLen k:Nat))∧w'=w:=by
 have h64:=TH k w (by omega) (by omega);rw[Int.toNat_natCast] at h64;have H:Hid _:=h64;clear h64
 go_enter func122,ntmps122
 go_wp2_with fail
 refine Calls.mono H.out ?_;rintro e w' ⟨rfl,rfl⟩
 go_wp2
 go_ret
 exact⟨rfl,rfl⟩
theorem Cr (g cap:Nat)(zs:List Nat)(f c:Nat)(w:World)(hr:ik w g zs)(hs:Dg.Small 256 zs)(hc:c≤64)(hfc:f+c≤8*zs.length)(hl:zs.length≤1000):
  yC 143 #[.slice (some ⟨g,0,none⟩) zs.length cap,yi f,yi c] w fun e w'=>e= .returned (.int .u64 (eH zs f c:Nat))∧w'=w:=by
 go_enter func143,ntmps143
 go_wp2
 go_loop [7,8] (fun xv iv=> ∃j i x:Nat,Hid (i=f+j)∧j≤c∧iv=yi (i:Int)∧xv= .int .u64 (x:Int)∧Hid (x=eH zs f j)) (fun xv iv=>((f:Int)+c-intOf iv).toNat)
 case atStart=>exact⟨0,f,0,rfl,by omega,rfl,rfl,rfl⟩
 case round=>
  obtain⟨j,i,x,Hi,hj,rfl,rfl,hx⟩:=hrel;have hi:=Hi.out
  by_cases hjc:j<c
  ·obtain⟨q,hq⟩: ∃q,i/8=q:=⟨_,rfl⟩
   obtain⟨r,hr'⟩: ∃r,i % 8=r:=⟨_,rfl⟩;have hqI:(i:Int)/8=(q:Int):=by omega
   have hrI:(i:Int) % 8=(r:Int):=by omega
   have hcell:=hr.c q (by omega);have hsm:=hs q;obtain⟨y,hy⟩: ∃y,zs.getD q 0=y:=⟨_,rfl⟩;rw[hy] at hcell hsm;have hql:q<zs.length:=by omega
   have hr8:r<8:=by omega
   have HH:Hid (_∧_∧_∧_):=⟨hi,hq,hr',hy⟩;have hic:(i:Int)< (f:Int)+(c:Int):=by omega
   have hib:(i:Int)≤8000:=by omega
   clear hi hq hr' hy
   go_wp2
   obtain⟨hi,hq,hr',hy⟩:=HH.out;have hxl:=gh zs f j;have hpw:(2:Nat)^j≤2^63:=Nat.pow_le_pow_right (by omega) (by omega);refine⟨⟨j+1,i+1,2*x+y/2^ (7-r) % 2, ?_,by omega,rfl, ?_, ?_⟩, ?_⟩
   ·show i+1=f+(j+1)
    omega
   ·rw[XO x y r (by have:=hx.out;omega) hsm]
   ·show 2*x+y/2^ (7-r) % 2=eH zs f (j+1)
    have:=hx.out;rw[eH,←this,fU,←hi,hq,hr',hy]
   ·simp only[intOf]
    omega
  ·have hd: ¬((i:Int)< (f:Int)+(c:Int)):=by omega
   have hjc':j=c:=by omega
   have HX:Hid (_∧_):=⟨hx.out,hjc'⟩;have hib:(i:Int)≤8000:=by omega
   clear hi hjc'
   go_wp2
   go_ret
   obtain⟨h1,h2⟩:=HX.out;subst h1 h2;exact⟨rfl,rfl⟩
theorem vi {P:Program}{w:World}{e g cap:Nat}{zs:List Nat}(src dst:TypeId)(hs:P.underlying src=some (.slice e))(he:P.underlying e=some (.int .u8))(hd:P.underlying dst=some .string)
  (h:ik w g zs):(convert src dst (.slice (some ⟨g,0,none⟩) zs.length cap)).run P w= .ok (.string (cF zs)) w:=by
 rw[run_convert_bytes_string w src dst e _ _ _ hs he hd];have hl:=run_loadCells_list (P:=P) w ⟨g,0,none⟩ (zs.map (fun n:Nat=>Value.int .u8 (n:Int))) (by
  intro j u hj;have hjl:j<zs.length:=by have:=(List.getElem?_eq_some_iff.1 hj).1;simpa using this
  rw[j9 _ zs j hjl] at hj;rw[rO,Nat.zero_add,h.c j hjl];exact hj)
 rw[List.length_map] at hl;have:=run_bytesToString (P:=P) w ⟨g,0,none⟩ zs.length cap (zs.map (fun n:Nat=>(n:Int))) (by
  rw[hl];simp)
 rw[this,Iu];simp[cF]
theorem tY (R D L G:Int)(gr:Bool)(w:World):
  yC 119 #[ygV R D L G gr] w (yR w (yi (xg R))):=by
 have bA:=af w (.cells (ygA R D L G gr) 145);unfold xg
 by_cases h:R=16
 ·rw[if_pos h]
  subst h
  go_enter func119,ntmps119
  go_wp2
  go_ret
  exact⟨rfl,bA⟩
 ·rw[if_neg h]
  have e:(R==16)=false:=by simp;exact h
  go_enter func119,ntmps119
  go_wp2
  go_ret
  exact⟨rfl,bA⟩
theorem FE (R D L G:Int)(gr:Bool)(top:Int)(w:World)(h1:1≤D)(h2:D≤120)(t1: -1000000≤top)(t2:top≤1000000):
  yC 116 #[ygV R D L G gr,yi top] w (yR w (yi (aT R D top))):=by
 have b1:=af w (.cells (ygA R D L G gr) 145);have l1:=ah w (ygL R D L G gr) 145;have HW:Hid (yJ 119 #[ygV R D L G gr] (yi (xg R))):=fun w1=>tY R D L G gr w1
 have hwl:=eN R;have hfl:=Qd top (ai R) (by omega);unfold aT;rw[jf] at HW;obtain⟨wd,hwd⟩: ∃k,ai R=k:=⟨_,rfl⟩;rw[hwd] at HW hwl hfl⊢;have hne:((wd:Int)==0)=false:=by simp;omega
 have hne2: ¬(wd:Int)=0:=by omega
 have q1: -1000000≤top.tdiv wd∧top.tdiv wd≤1000000:=by
  have:=Int.natAbs_tdiv_le_natAbs top wd;omega
 have q2: -1000004≤top.tdiv wd*wd∧top.tdiv wd*wd≤1000004:=by
  have e:=Int.tmod_add_mul_tdiv top wd;have e2:(wd:Int)*top.tdiv wd=top.tdiv wd*wd:=Int.mul_comm _ _;have hx:=Int.tmod_lt_of_pos top (b:=(wd:Int)) (by omega);have hy:=Int.tmod_lt_of_pos (-top) (b:=(wd:Int)) (by omega);rw[Int.neg_tmod] at hy;omega
 obtain⟨q,hq⟩: ∃q,top.tdiv wd=q:=⟨_,rfl⟩;rw[hq] at hfl q1 q2;obtain⟨m,hm⟩: ∃m,q*(wd:Int)=m:=⟨_,rfl⟩;rw[hm] at hfl q2;have w0:IntKind.i64.wrap q=q:=IntWalk.i64_in _ ⟨by omega,by omega⟩;have w1:IntKind.i64.wrap m=m:=IntWalk.i64_in _ ⟨by omega,by omega⟩;have w2:IntKind.i64.wrap (D-1)=D-1:=IntWalk.i64_in _ ⟨by omega,by omega⟩;clear hwd
 by_cases hlt:top<m
 ·rw[hfl.1 hlt]
  have w3:IntKind.i64.wrap (q-1)=q-1:=IntWalk.i64_in _ ⟨by omega,by omega⟩;have w4:IntKind.i64.wrap (q-1-(D-1))=q-1-(D-1):=IntWalk.i64_in _ ⟨by omega,by omega⟩;clear hfl
  go_enter func116,ntmps116
  go_wp2_with fail
  refine(HW.out _).mono ?_;rintro z w3' ⟨rfl,b3⟩;have b03:=aa b1 b3;have c1:=(l1.l b3).c 1 rfl
  go_wp2
  go_ret
  exact⟨rfl,b03⟩
 ·rw[hfl.2 hlt]
  have hltf:decide (top<m)=false:=by simp;omega
  have w4:IntKind.i64.wrap (q-(D-1))=q-(D-1):=IntWalk.i64_in _ ⟨by omega,by omega⟩;clear hfl
  go_enter func116,ntmps116
  go_wp2_with fail
  refine(HW.out _).mono ?_;rintro z w3' ⟨rfl,b3⟩;have b03:=aa b1 b3;have c1:=(l1.l b3).c 1 rfl
  go_wp2
  go_ret
  exact⟨rfl,b03⟩
theorem oP {a L:Nat}(h:(Dg.dg 4294967296 a).length≤L):bitLen a≤32*L:=by
 refine bF a _ ?_;rw[Nat.pow_mul];have h1:=Dg.vl_lt 4294967296 _ (Dg.small_dg 4294967296 a (by omega));rw[Dg.vl_dg _ _ (by omega)] at h1;exact Nat.lt_of_lt_of_le h1 (Nat.pow_le_pow_right (by omega) h)
def Fk (w:World)(t:fz)(e:Ending)(w':World):Prop:=
 ∃v,e= .returned (ypV t.s v t.p t.ex t.ov t.un)∧Own w' w.heap.size 54 .u32 v (Dg.dg 4294967296 t.d)∧yB w w'
theorem FJ (N M:Nat)(E:Int)(hla:(Dg.dg 4294967296 N).length≤10000)(hlb:(Dg.dg 4294967296 M).length≤10000)(e1: -20000≤E)(e2:E≤20000): -340001≤dY N M E∧dY N M E≤340001:=by
 have h1:bitLen N≤32*10000:=oP hla;have h2:bitLen M≤32*10000:=oP hlb;unfold dY
 split<;>omega
theorem Qg {R D L G:Int}{gr:Bool}{N M:Nat}{E:Int}(hg:bk R D L G=0)(hla:(Dg.dg 4294967296 N).length≤10000)(hlb:(Dg.dg 4294967296 M).length≤10000)(e1: -20000≤E)(e2:E≤20000): -341000≤dj R D L gr N M E∧dj R D L gr N M E≤341000∧ -341000≤(ai R:Int)*dj R D L gr N M E∧(ai R:Int)*dj R D L gr N M E≤341000:=by
 obtain⟨hR,d1,d2,l1,l2,-,-,-,-⟩:=cB hg;obtain⟨t1,t2⟩:=FJ N M E hla hlb e1 e2;have hp:=Bp (R:=R) d1 d2 t1 t2;unfold dj
 split
 ·have hw:=eN R
  unfold ai
  split<;>omega
 ·exact hp
def ji (k:Nat)(ng:Bool)(E FF:Nat):ak:=
 if k=3 then(if E+1=2^exN k∨0<E∧FF<2^ (dgN k-1) then⟨false,0,0⟩ else bare ⟨ng,FF,wdI (rdN k)*(lsI k+(((E-1:Nat):Nat):Int))⟩)
 else if k≤2 then(if E+1=2^exN k then⟨false,0,0⟩ else bare ⟨ng,FF+(if 0<E then 2^ (dgN k-1) else 0),wdI (rdN k)*(lsI k+(((E-1:Nat):Nat):Int))⟩)
 else if k≤5 then bare ⟨ng,FF,wdI (rdN k)*(lsI k+(E:Int))⟩
 else(if E=0 then⟨false,0,0⟩ else bare ⟨ng,FF+2^ (dgN k-1),wdI (rdN k)*(lsI k+(E:Int)-1)⟩)
theorem ut.trans {J K:Int}{N1 M1 N2 M2 N3 M3:Nat}{E1 E2 E3:Int}(h:ut J N1 M1 E1 N2 M2 E2)(g:ut K N2 M2 E2 N3 M3 E3):ut (max J K) N1 M1 E1 N3 M3 E3:=fun j hj=>by
 obtain⟨a1,a2⟩:=h j (by omega);obtain⟨b1,b2⟩:=g j (by omega);exact⟨a1.trans b1,a2.trans b2⟩
theorem ut.mono {J K:Int}{N1 M1 N2 M2:Nat}{E1 E2:Int}(h:ut J N1 M1 E1 N2 M2 E2)(hk:J≤K):ut K N1 M1 E1 N2 M2 E2:=fun j hj=>h j (by omega)
theorem IB {n at':Nat}{ds:List Nat}(hO:L5 n ds 0)(hl:at'+1≤ds.length)(hz: ∀i,i<at'→ds.getD (ds.length-1-i) 0=0)(hs:at'+1=ds.length∨ds.getD (ds.length-1-at') 0≠0):
  cF ((txt ds).drop at')=oW n:=by
 have hn:=hO.2;simp only[Nat.mul_zero,Nat.add_zero] at hn;have hdrop:(txt ds).drop at'=txt (ds.take (ds.length-at')):=by
  unfold txt;rw[List.drop_reverse];simp[List.map_take]
 have hz2: ∀i,ds.length-at'≤i→ds.getD i 0=0:=fun i hi=>by
  by_cases h:i<ds.length
  ·have:=hz (ds.length-1-i) (by omega)
   rwa [show ds.length-1-(ds.length-1-i)=i from by omega] at this
  ·exact Dg.getD_of_le _ _ (by omega)
 rw[hdrop];unfold oW
 by_cases h0:n=0
 ·rw[if_pos h0]
  have hall: ∀i,ds.getD i 0=0:=by
   rcases hs with hs|hs
   ·have h1:Dg.vl 10 ds=0:=by omega
    have ht:=Dg.vl_take_drop 10 ds 1 (by omega);have hd:Dg.vl 10 (ds.take 1)=0:=by omega
    have h3:=Dg.vl_take_succ 10 ds 0 (by omega);simp only[Dg.vl,List.take_zero,Nat.zero_add,Nat.pow_zero,Nat.one_mul] at h3;intro i
    by_cases hi:i=0
    ·subst hi;omega
    ·exact hz2 i (by omega)
   ·exfalso
    have ht:=Dg.trim_eq 10 (by omega) ds (ds.length-at') hO.1 (by omega) hz2 (fun _=>by rw[show ds.length-at'-1=ds.length-1-at' from by omega];exact hs)
    rw[show Dg.vl 10 ds=0 from by omega,Dg.dg_zero] at ht
    have:=congrArg List.length ht;simp at this;omega
  rcases hs with hs|hs
  ·have h1:ds.length-at'=1:=by omega
   rw[h1,show ds.take 1=[0] from ?_]
   ·rfl
   ·rw[Dg.take_succ' ds 0 (by omega),hall 0];rfl
  ·exact absurd (hall _) hs
 ·rw[if_neg h0]
  have hlast:ds.getD (ds.length-at'-1) 0≠0:=by
   rcases hs with hs|hs
   ·intro e
    apply h0;rw[hn];refine Dg.vl_zeros 10 ds (fun i=> ?_)
    by_cases hi:i<ds.length-at'
    ·rw[show i=ds.length-at'-1 from by omega];exact e
    ·exact hz2 i (by omega)
   ·rwa [show ds.length-at'-1=ds.length-1-at' from by omega]
  rw[Dg.trim_eq 10 (by omega) ds (ds.length-at') hO.1 (by omega) hz2 (fun _=>hlast),←hn]
  rfl
end Go.Proofs.YtlgkfdcmokchgaaGreatDoor
