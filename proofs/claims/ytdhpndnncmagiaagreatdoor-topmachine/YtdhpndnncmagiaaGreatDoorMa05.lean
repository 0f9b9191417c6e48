/-
  Texts laid together: Dz, Ab1, Leaf, Div1, DivBy, Rev, Dec, DecW, Add, Bits, Shift, Dy1, Dy2, Lk, Dr1, Read2, Long, Roo1, Co6, Co15, Gr1, Gr2, Gr4, Gr5, Gm1, Gr7, Gh1, Gk3, Cr9.
-/
import Derived.Test.YtdhpndnncmagiaaGreatDoorMa01
import Derived.Test.YtdhpndnncmagiaaGreatDoorMa02
import Derived.Test.YtdhpndnncmagiaaGreatDoorMa03
set_option maxRecDepth 100000
set_option maxHeartbeats 4000000
namespace Go.Proofs.YtdhpndnncmagiaaGreatDoor
open _root_.Go.Proofs.Tryz
open Go.RowKit
theorem adl (B:Nat)(l:List Nat)(j:Nat)(hB:0<B)(_hs:Dg.Small B l)(h0:Dg.vl B l=0):l.getD j 0=0:=by
 by_cases h:j<l.length
 ·have h1:=Dg.vl_split B l j h
  rw[h0] at h1;have h2:B^j*l.getD j 0=0:=by
   rcases Nat.eq_zero_or_pos (l.getD j 0) with e|e
   ·rw[e,Nat.mul_zero]
   ·exfalso
    have h3:0<B^j*l.getD j 0:=Nat.mul_pos (Nat.pow_pos hB) e;have h4:B^j*(l.getD j 0+B*Dg.vl B (l.drop (j+1)))=0:=by omega
    rw[Nat.mul_add] at h4;omega
  rcases Nat.mul_eq_zero.1 h2 with e|e
  ·exact absurd e (Nat.ne_of_gt (Nat.pow_pos hB))
  ·exact e
 ·simp[List.getD_eq_getElem?_getD,show l.length≤j from by omega]
abbrev yOL (c:Int)(g:Bool)(t:ak)(o:Option Addr)(k:Nat):List Value:=[.int .i64 c,.bool g,.bool t.s,.slice o (Dg.dg 4294967296 t.n).length k,.int .i64 t.e]
abbrev yOV (c:Int)(g:Bool)(t:ak)(o:Option Addr)(k:Nat):Value:= .agg #[.int .i64 c,.bool g,.bool t.s,.slice o (Dg.dg 4294967296 t.n).length k,.int .i64 t.e]
abbrev yOA (c:Int)(g:Bool)(t:ak)(o:Option Addr)(k:Nat):Array Value:= #[.int .i64 c,.bool g,.bool t.s,.slice o (Dg.dg 4294967296 t.n).length k,.int .i64 t.e]
abbrev yDL (t:ak)(o:Option Addr)(k:Nat):List Value:=[.bool t.s,.slice o (Dg.dg 4294967296 t.n).length k,.int .i64 t.e]
abbrev yDV (t:ak)(o:Option Addr)(k:Nat):Value:= .agg #[.bool t.s,.slice o (Dg.dg 4294967296 t.n).length k,.int .i64 t.e]
abbrev yDA (t:ak)(o:Option Addr)(k:Nat):Array Value:= #[.bool t.s,.slice o (Dg.dg 4294967296 t.n).length k,.int .i64 t.e]
theorem AM (a b:Int)(w:World):yC 87 #[yi a,yi b] w fun e w'=>e= .returned (yi (dm a b))∧w'=w:=by
 unfold dm
 by_cases h1:a<b
 ·rw[if_pos h1]
  go_enter func87,ntmps87
  go_wp2
  go_ret
  exact⟨rfl,rfl⟩
 ·by_cases h2:b<a
  ·rw[if_neg h1,if_pos h2]
   go_enter func87,ntmps87
   go_wp2
   go_ret
   exact⟨rfl,rfl⟩
  ·rw[if_neg h1,if_neg h2]
   go_enter func87,ntmps87
   go_wp2
   go_ret
   exact⟨rfl,rfl⟩
theorem RF (a b:Int)(w:World):yC 88 #[.int .u32 a,.int .u32 b] w fun e w'=>e= .returned (yi (dm a b))∧w'=w:=by
 unfold dm
 by_cases h1:a<b
 ·rw[if_pos h1]
  go_enter func88,ntmps88
  go_wp2
  go_ret
  exact⟨rfl,rfl⟩
 ·by_cases h2:b<a
  ·rw[if_neg h1,if_pos h2]
   go_enter func88,ntmps88
   go_wp2
   go_ret
   exact⟨rfl,rfl⟩
  ·rw[if_neg h1,if_neg h2]
   go_enter func88,ntmps88
   go_wp2
   go_ret
   exact⟨rfl,rfl⟩
theorem Vb (hi lo y:Nat)(w:World)(h1:hi<y)(h2:lo<4294967296)(h3:y<4294967296):
  yC 150 #[.int .u32 hi,.int .u32 lo,.int .u32 y] w (yR w (.tuple #[.int .u32 ((hi*4294967296+lo)/y:Nat),.int .u32 ((hi*4294967296+lo) % y:Nat)])):=by
 have hor:=KJ hi lo (by omega) h2;obtain⟨t,ht⟩: ∃t,hi*4294967296+lo=t:=⟨_,rfl⟩;have hq1:=I6 h1 h2 ht.symm;have htb:t<18446744073709551616:=by omega
 rw[ht] at hor⊢;have hr1:t % y<y:=Nat.mod_lt _ (by omega);obtain⟨q,hq⟩: ∃q,t/y=q:=⟨_,rfl⟩;obtain⟨r,hr⟩: ∃r,t % y=r:=⟨_,rfl⟩;have hqI:(t:Int)/(y:Int)=(q:Int):=by rw[←hq];exact(Int.natCast_ediv t y).symm
 have hrI:(t:Int) % (y:Int)=(r:Int):=by rw[←hr];exact(Int.natCast_emod t y).symm
 rw[hq] at hq1⊢;rw[hr] at hr1⊢;clear hq hr ht;have hd:decide (y≤hi)=false:=by simp;omega
 have hy:((y:Int) != 0)=true:=by rw[bne_iff_ne];omega
 go_enter func150,ntmps150
 go_wp2
 go_quiet (fail)
 go_wp2
 go_ret2
 exact⟨rfl,aL (Below.refl _ _) _⟩
def acQ (zs cur:List Nat)(d k r:Nat):Prop:=
 cur.length=zs.length∧Dg.Small 4294967296 cur∧r<d∧(∀j,j<k→cur.getD j 0=zs.getD j 0)∧Dg.vl 4294967296 (zs.drop k)=Dg.vl 4294967296 (cur.drop k)*d+r
theorem Tx {zs cur:List Nat}{d k r t:Nat}(h:acQ zs cur d (k+1) r)(hk:k<zs.length)(ht:t=r*4294967296+zs.getD k 0)(hd:0<d)(hq:t/d<4294967296):
  acQ zs (cur.set k (t/d)) d k (t % d):=by
 obtain⟨h1,h2,h3,h4,h5⟩:=h;refine⟨by simpa using h1,Dg.small_set h2 _ _ hq,Nat.mod_lt _ hd,fun j hj=> ?_, ?_⟩
 ·rw[Dg.getD_set _ _ _ _ (by omega),if_neg (by omega)];exact h4 j (by omega)
 ·rw[AU zs k hk,AU (cur.set k (t/d)) k (by simpa using(by omega:k<cur.length)),Dg.getD_set _ _ _ _ (by omega),if_pos rfl,List.drop_set_of_lt (by omega)]
  simp only[Dg.vl];rw[h5];have:=Nat.div_add_mod t d;rw[Nat.add_mul,Nat.mul_comm (t/d) d,Nat.mul_assoc,Nat.mul_add];have e:r*4294967296=4294967296*r:=Nat.mul_comm _ _;omega
theorem IJ {zs cur:List Nat}{i:Nat}(h:XT zs cur i)(hi:i<zs.length-1-i):XT zs ((cur.set i (cur.getD (zs.length-1-i) 0)).set (zs.length-1-i) (cur.getD i 0)) (i+1):=by
 obtain⟨h1,h2,h3⟩:=h;refine⟨by simpa using h1,by omega,fun k hk=> ?_⟩
 rw[Dg.getD_set _ _ _ _ (by simp;omega),Dg.getD_set _ _ _ _ (by omega)]
 by_cases e1:zs.length-1-i=k
 ·rw[if_pos e1,if_pos (by omega),h3 i (by omega),if_neg (by omega)]
  rw[←e1,show zs.length-1-(zs.length-1-i)=i from by omega]
 ·rw[if_neg e1]
  by_cases e2:i=k
  ·rw[if_pos e2,if_pos (by omega),h3 _ (by omega),if_neg (by omega),←e2]
  ·rw[if_neg e2,h3 k hk]
   by_cases e3:k<i∨zs.length-1-i<k
   ·rw[if_pos e3,if_pos (by omega)]
   ·rw[if_neg e3,if_neg (by omega)]
theorem Tryz.infoU8:(Tryz.prog.info? 5).map (fun i=>(i.zero,i.size,i.bytes))=some (some (.int .u8 0),1,1):=by kernel_rfl
def cF (zs:List Nat):ByteArray:=⟨(zs.map (fun n=>UInt8.ofNat n)).toArray⟩
def oW (n:Nat):ByteArray:=if n=0 then⟨#[48]⟩ else cF (((Dg.dg 10 n).map (fun d=>48+d)).reverse)
theorem Iu: ∀(zs:List Nat) (s:ByteArray),((zs.map (fun n:Nat=>(n:Int))).foldl (fun r n=>r.push (UInt8.ofNat n.toNat)) s)=⟨s.data++(zs.map (fun n=>UInt8.ofNat n)).toArray⟩:=by
 intro zs
 induction zs with
 |nil=>intro s;simp
 |cons z zs ih=>
  intro s;simp only[List.map_cons,List.foldl_cons];rw[ih];simp[ByteArray.push]
theorem lQ {P:Program}{w:World}{base e g n cap:Nat}{zs:List Nat}(src dst:TypeId)(hs:P.underlying src=some (.slice e))(he:P.underlying e=some (.int .u8))(hd:P.underlying dst=some .string)
  (h:Own w base e .u8 (.slice (some ⟨g,0,none⟩) n cap) zs):(convert src dst (.slice (some ⟨g,0,none⟩) n cap)).run P w= .ok (.string (cF zs)) w:=by
 rw[run_convert_bytes_string w src dst e _ _ _ hs he hd];have hn:=h.len;subst hn;have hl:=run_loadCells_list (P:=P) w ⟨g,0,none⟩ (zs.map (fun n:Nat=>Value.int .u8 n)) (by
  intro j u hj;have hjl:j<zs.length:=by have:=(List.getElem?_eq_some_iff.1 hj).1;simpa using this
  rw[j9 _ zs j hjl] at hj;rw[rO,Nat.zero_add,h.c j hjl];exact hj)
 rw[List.length_map] at hl;have:=run_bytesToString (P:=P) w ⟨g,0,none⟩ zs.length cap (zs.map (fun n:Nat=>(n:Int))) (by
  rw[hl];simp)
 rw[this,Iu];simp[cF]
theorem Own.keep {w w':World}{base e:Nat}{k:IntKind}{v:Value}{zs:List Nat}{G:Nat}(h:Own w base e k v zs)(hg:w.grownBy w' (some G))(hlt:G<base):Own w' base e k v zs:=by
 refine World.ownsRow.kept h hg ?_
 by_cases hb:v.ownBlock=some G
 ·have:=(World.ownsRow.lt h G hb).1
  omega
 ·exact .inr hb
theorem Own.keep2 {w w':World}{base base' e e':Nat}{k k':IntKind}{v':Value}{zs zs':List Nat}{g n cap:Nat}(h:Own w base e k (.slice (some ⟨g,0,none⟩) n cap) zs)(h':Own w base' e' k' v' zs')(hlt:g<base')(hg:w.grownBy w' v'.ownBlock):
  Own w' base e k (.slice (some ⟨g,0,none⟩) n cap) zs:=by
 have hn:=h.len;subst hn;refine World.ownsRow.kept h hg (.inr ?_);intro e;have:=(World.ownsRow.lt h' g e.symm).1;omega
def L5 (n:Nat)(ds:List Nat)(m:Nat):Prop:=Dg.Small 10 ds∧n=Dg.vl 10 ds+10^ds.length*m
def Xp (n m:Nat)(ds:List Nat)(j g:Nat):Prop:=Dg.Small 10 ds∧j≤9∧g<10^ (9-j)∧n=Dg.vl 10 ds+10^ds.length*(g+10^ (9-j)*m)
theorem qP {B:Nat}{l:List Nat}{x:Nat}(h:Dg.Small B l)(hx:x<B):Dg.Small B (l++[x]):=by
 intro i;rw[List.getD_eq_getElem?_getD,List.getElem?_append]
 by_cases hi:i<l.length
 ·rw[if_pos hi];simpa[List.getD_eq_getElem?_getD] using h i
 ·rw[if_neg hi]
  by_cases h2:i-l.length=0
  ·simp[h2];exact hx
  ·rw[List.getElem?_eq_none (by simp;omega)];simp;omega
theorem Pd {n m:Nat}{ds:List Nat}(h:L5 n ds m):Xp n (m/1000000000) ds 0 (m % 1000000000):=by
 refine⟨h.1,by omega,by simp;omega, ?_⟩;rw[h.2];have:m % 1000000000+10^ (9-0)*(m/1000000000)=m:=by simpa using Nat.mod_add_div m 1000000000
 rw[this]
theorem TJ {n m:Nat}{ds:List Nat}{j g:Nat}(h:Xp n m ds j g)(hj:j<9):Xp n m (ds++[g % 10]) (j+1) (g/10):=by
 obtain⟨h1,h2,h3,h4⟩:=h;have e:9-j=(9-(j+1))+1:=by omega
 rw[e,Nat.pow_succ] at h3 h4;refine⟨qP h1 (Nat.mod_lt _ (by omega)),by omega,by omega, ?_⟩;rw[Dg.vl_append];simp only[Dg.vl,List.length_append,List.length_cons,List.length_nil,Nat.pow_succ];rw[h4];generalize 10^ (9-(j+1))=p at*;have e2:g+p*10*m=g % 10+10*(g/10+p*m):=by
  have:=Nat.mod_add_div g 10;rw[Nat.mul_add,Nat.mul_comm p 10,Nat.mul_assoc];omega
 rw[e2,Nat.mul_add];simp only[Nat.mul_zero,Nat.add_zero];rw[Nat.mul_assoc];omega
theorem Xq {n m:Nat}{ds:List Nat}{g:Nat}(h:Xp n m ds 9 g):L5 n ds m:=by
 obtain⟨h1,h2,h3,h4⟩:=h;have:g=0:=by simpa using h3
 subst this;exact⟨h1,by simpa using h4⟩
theorem TK (a b:Nat)(h:10^a<4294967296^b):a<32*b:=by
 have h1:2^a≤10^a:=Nat.pow_le_pow_left (by omega) a;have h2:(4294967296:Nat)^b=2^ (32*b):=by rw[Nat.pow_mul]
 rw[h2] at h;exact(Nat.pow_lt_pow_iff_right (by omega)).1 (Nat.lt_of_le_of_lt h1 h)
theorem Xr {n m:Nat}{ds:List Nat}{L:Nat}(h:L5 n ds m)(hm:m≠0)(hn:n<4294967296^L):ds.length<32*L:=by
 apply TK;have:10^ds.length≤10^ds.length*m:=Nat.le_mul_of_pos_right _ (by omega);have:=h.2;omega
theorem XV {n k:Nat}{ds:List Nat}(hne:n≠0)(hn:n=Dg.vl 10 ds)(htr:ds.take k=Dg.dg 10 (Dg.vl 10 ds)):cF (((ds.map (fun d=>48+d)).take k).reverse)=oW n:=by
 subst hn;unfold oW;rw[if_neg hne,←List.map_take,htr]
theorem zA (x y c:Nat)(w:World)(hx:x<4294967296)(hy:y<4294967296)(hc:c≤1):
  yC 200 #[.int .u32 x,.int .u32 y,.int .u32 c] w fun e w'=>e= .returned (.tuple #[.int .u32 ((x+4294967296-y-c) % 4294967296:Nat),.int .u32 ((brw x y c:Nat):Int)])∧w'=w:=by
 have hb:=NE x y c hx hy hc;have hsg: ¬IntKind.u32.signed=true:=by decide
 have hd:(((x:Int)-(y:Int)) % 4294967296-(c:Int)) % 4294967296=(((x+4294967296-y-c) % 4294967296:Nat):Int):=by omega
 obtain⟨d,ed⟩: ∃d,(x+4294967296-y-c) % 4294967296=d:=⟨_,rfl⟩;rw[ed] at hd⊢;have Hd:Hid _:=hd;clear hd ed
 go_enter func200,ntmps200
 go_wp2
 go_ret2
 exact⟨by rw[←Hd.out];rfl,rfl⟩
theorem Un (x:Int)(w:World)(h0:0≤x)(h1:x≤4294967295):
  yC 75 #[.int .u32 x] w fun e w'=>e= .returned (yi (bitLen x.toNat:Nat))∧w'=w:=by
 go_enter func75,ntmps75
 go_wp2
 all_goals try (exfalso;have hz:=Lib.len8tab_size;omega)
 all_goals (go_ret;refine⟨congrArg Ending.returned (congrArg (Value.int IntKind.i64) ?_),rfl⟩)
 all_goals simp only[X4]
 ·exact qz 24 _ x.toNat (by have:=bitLen_shift x.toNat 24 (by omega);rw[this];congr 2;omega) (by omega)
 ·exact qz 16 _ x.toNat (by have:=bitLen_shift x.toNat 16 (by omega);rw[this];congr 2;omega) (by omega)
 ·exact qz 8 _ x.toNat (by have:=bitLen_shift x.toNat 8 (by omega);rw[this];congr 2;omega) (by omega)
 ·have hb:=bitLen_le8 x.toNat (by omega)
  have e1:=IntWalk.wrap64_in ((bitLen x.toNat:Nat):Int) ⟨by omega,by omega⟩;rw[e1,e1]
theorem IK (x:Nat)(w:World)(h:x<4294967296):
  yC 75 #[.int .u32 x] w fun e w'=>e= .returned (yi (bitLen x:Nat))∧w'=w:=by
 have:=Un x w (by omega) (by omega);rw[Int.toNat_natCast] at this;exact this
theorem IL (B:Nat)(b:Nat)(hb:B=2^b)(h1:1<B)(zs:List Nat)(hs:Dg.Small B zs)(hn:Dg.Norm zs)(hne:zs≠[]):bitLen (Dg.vl B zs)=b*(zs.length-1)+bitLen (zs.getD (zs.length-1) 0):=by
 have hl:0<zs.length:=List.length_pos_iff.2 hne;have hsp:=Dg.vl_split B zs (zs.length-1) (by omega);rw[show zs.length-1+1=zs.length from by omega,List.drop_of_length_le (Nat.le_refl _)] at hsp
 simp only[Dg.vl,Nat.mul_zero,Nat.add_zero] at hsp;have hlt:=Dg.vl_lt B (zs.take (zs.length-1)) (Dg.small_take hs _ (by omega));rw[List.length_take,Nat.min_eq_left (by omega)] at hlt;have hpw:B^ (zs.length-1)=2^ (b*(zs.length-1)):=by rw[hb,Nat.pow_mul]
 have hdiv:Dg.vl B zs/2^ (b*(zs.length-1))=zs.getD (zs.length-1) 0:=by
  rw[←hpw,hsp,Nat.add_comm,Nat.mul_add_div (Nat.pow_pos (by omega)),Nat.div_eq_of_lt hlt,Nat.add_zero]
 have hnz:=hn hne;rw[bitLen_shift _ (b*(zs.length-1)) (by rw[hdiv];exact hnz),hdiv]
theorem Y9 {xs ds:List Nat}{wh P Q k v:Nat}(h:abK xs ds wh P Q k)(hk:k<xs.length-wh)(hv:v=xs.getD (wh+k) 0/P+xs.getD (wh+k+1) 0 % P*Q):abK xs (ds.set k v) wh P Q (k+1):=by
 obtain⟨h1,h2⟩:=h;refine⟨by simpa using h1,fun j=> ?_⟩
 rw[Dg.getD_set _ _ _ _ (by omega)]
 by_cases e:k=j
 ·subst e;rw[if_pos rfl,if_pos (by omega)];exact hv
 ·rw[if_neg e,h2 j]
  by_cases e2:j<k
  ·rw[if_pos e2,if_pos (by omega)]
  ·rw[if_neg e2,if_neg (by omega)]
theorem Vp (x k idx:Nat)(w:World)(hx0:((x:Int)==0)=false)
  (key:bits BinOp.and IntKind.u32 x (-(x:Int) % 4294967296)*125613361 % 4294967296/134217728=(idx:Int))
  (hi:idx<32) (hk:k<32) (hcell:w.cell? ⟨1,idx,none⟩=some (.int .u8 k)):
  yC 184 #[.int .u32 x] w fun e w'=>e= .returned (yi k)∧w'=w:=by
 go_enter func184,ntmps184
 go_wp2_with (simp only[key])
 go_ret
 exact⟨rfl,rfl⟩
theorem Zx (l:List Nat)(k t m:Nat)(hk:k<l.length)(h: ∀j,j<k→l.getD j 0=0)(hd:l.getD k 0=2^t*(2*m+1))(ht:t<32):tz (Dg.vl 4294967296 l)=32*k+t:=by
 have h1:=Dg.vl_split 4294967296 l k hk;have h0:Dg.vl 4294967296 (l.take k)=0:=Dg.vl_zeros 4294967296 (l.take k) (fun i=>by
  by_cases hi:i<k
  ·have:=h i hi
   simpa[List.getD_eq_getElem?_getD,List.getElem?_take,hi] using this
  ·simp[List.getD_eq_getElem?_getD,List.getElem?_take,hi])
 rw[h0,hd,Nat.zero_add] at h1;obtain⟨u,hu⟩: ∃u,Dg.vl 4294967296 (l.drop (k+1))=u:=⟨_,rfl⟩;rw[hu] at h1;have e32:(4294967296:Nat)=2^t*(2*2^ (31-t)):=by
  have:(4294967296:Nat)=2^ (t+(1+(31-t))):=by rw[show t+(1+(31-t))=32 from by omega]
  rw[this,Nat.pow_add,Nat.pow_add,Nat.pow_one]
 have e1:(2:Nat)^ (32*k)=4294967296^k:=by rw[Nat.pow_mul]
 refine F8 (m:=m+2^ (31-t)*u) ?_;rw[h1,Nat.pow_add,e1,Nat.mul_assoc]
 congr 1
 generalize 2^ (31-t)=c at*;have e2:4294967296*u=2^t*(2*(c*u)):=by rw[e32];simp only[Nat.mul_assoc]
 rw[e2,←Nat.mul_add]
 congr 1
 omega
def Dv (w:World)(v:Value)(t:ak):Prop:= ∃s,v=(ydV t.s s t.e)∧Rd w .u32 s (Dg.dg 4294967296 t.n)
theorem cD (a:Addr)(W:World)(g:Fn):(store a (Value.func g #[] #[])).run Tryz.prog W=stored Tryz.prog W a (Value.func g #[] #[]) .plain:=run_store _ W a _ _ rfl
def Rv (w:World)(v:Value)(t:ak):Prop:= ∃s,v=(ydV t.s s t.e)∧Rd w .i64 s (Dg.dg 65536 t.n)
def LI (zs cur:List Nat)(sc mo k c:Nat):Prop:=
 cur.length=zs.length∧Dg.Small 4294967296 cur∧c<4294967296∧(∀j,k≤j→cur.getD j 0=zs.getD j 0)∧Dg.vl 4294967296 (cur.take k)+4294967296^k*c=Dg.vl 4294967296 (zs.take k)*sc+mo
theorem Xe {zs cur:List Nat}{sc mo c m:Nat}(h:LI zs cur sc mo zs.length c)(hz:zs=Dg.dg 4294967296 m)(hsc:1≤sc)(hc:c=0∨0<c):
  (if c=0 then cur else cur++[c])=Dg.dg 4294967296 (m*sc+mo):=by
 obtain⟨h1,h2,h3,h4,h5⟩:=h;rw[List.take_of_length_le (by omega),List.take_of_length_le (Nat.le_refl _)] at h5;have hm:Dg.vl 4294967296 zs=m:=by rw[hz,Dg.vl_dg _ _ (by omega)]
 rw[hm] at h5
 by_cases e:c=0
 ·subst e
  rw[if_pos rfl];refine Dg.eq_dg 4294967296 (by omega) _ _ h2 (Dg.norm_of_ge 4294967296 cur h2 (fun hne=> ?_)) (by omega)
  have hzne:zs≠[]:=by intro e;rw[e] at h1;exact hne (List.eq_nil_of_length_eq_zero h1)
  have:=Dg.vl_ge 4294967296 zs hzne (by rw[hz];exact Dg.norm_dg _ _ (by omega));rw[h1];have h6:m≤m*sc:=Nat.le_mul_of_pos_right _ (by omega);omega
 ·rw[if_neg e]
  refine Dg.eq_dg 4294967296 (by omega) _ _ (qP h2 h3) (fun _=> ?_) ?_
  ·simp[List.getD_eq_getElem?_getD];exact e
  ·rw[Dg.vl_append,h1]
   simp only[Dg.vl,Nat.mul_zero,Nat.add_zero];omega
theorem V7 (ys:List Nat)(s:Nat)(sb:Dg.Small 4294967296 ys)(nb:Dg.Norm ys)(hn:2≤ys.length)(hs:s=32-bitLen (ys.getD (ys.length-1) 0)):
  s<32∧2147483648*4294967296^ (ys.length-1)≤Dg.vl 4294967296 ys*2^s∧Dg.vl 4294967296 ys*2^s<4294967296^ys.length:=by
 have hy0:ys.getD (ys.length-1) 0≠0:=nb (by intro e;rw[e] at hn;simp at hn);have hyl:=sb (ys.length-1);have hsp:=Dg.vl_split 4294967296 ys (ys.length-1) (by omega);have hlo:=Dg.vl_lt 4294967296 (ys.take (ys.length-1)) (Dg.small_take sb _ (by omega));rw[List.length_take,Nat.min_eq_left (by omega)] at hlo;rw[show ys.length-1+1=ys.length from by omega,List.drop_length] at hsp
 simp only[Dg.vl,Nat.mul_zero,Nat.add_zero] at hsp;generalize ys.getD (ys.length-1) 0=y at*;generalize Dg.vl 4294967296 (ys.take (ys.length-1))=lo at*;have⟨h1,h2,h3⟩:=uB y hy0;have h4:=bF y 32 (by omega);have e1:2^ (bitLen y-1)*2^s=2147483648:=by rw[←Nat.pow_add,show bitLen y-1+s=31 from by omega]
 have e2:2^bitLen y*2^s=4294967296:=by rw[←Nat.pow_add,show bitLen y+s=32 from by omega]
 have e3:(4294967296:Nat)^ys.length=4294967296^ (ys.length-1)*4294967296:=by rw[←Nat.pow_succ,show(ys.length-1).succ=ys.length from by omega]
 have a1:2^ (bitLen y-1)*2^s≤y*2^s:=Nat.mul_le_mul_right _ h2;have a2:(y+1)*2^s≤2^bitLen y*2^s:=Nat.mul_le_mul_right _ h3;refine⟨by omega, ?_, ?_⟩
 ·rw[hsp,Nat.add_mul,Nat.mul_assoc]
  have:4294967296^ (ys.length-1)*2147483648≤4294967296^ (ys.length-1)*(y*2^s):=Nat.mul_le_mul_left _ (by omega);rw[Nat.mul_comm 2147483648];omega
 ·rw[hsp,e3]
  have b1:(lo+4294967296^ (ys.length-1)*y)<4294967296^ (ys.length-1)*(y+1):=by rw[Nat.mul_add,Nat.mul_one];omega
  have b2:(lo+4294967296^ (ys.length-1)*y)*2^s<4294967296^ (ys.length-1)*(y+1)*2^s:=Nat.mul_lt_mul_of_pos_right b1 (Nat.pow_pos (by omega));rw[Nat.mul_assoc (4294967296^ (ys.length-1)) (y+1)] at b2;have b3:4294967296^ (ys.length-1)*((y+1)*2^s)≤4294967296^ (ys.length-1)*4294967296:=Nat.mul_le_mul_left _ (by omega);omega
theorem aaT {n L j:Nat}(h:n<4294967296^L):(Dg.dg 4294967296 (n^j)).length≤L*j+1:=by
 refine Dg.dg_len_le 4294967296 _ _ (by omega) ?_;rw[Nat.pow_succ,Nat.pow_mul];have h1:n^j≤(4294967296^L)^j:=Nat.pow_le_pow_left (by omega) j;have h2:0< (4294967296^L)^j:=Nat.pow_pos (Nat.pow_pos (by omega));omega
theorem TH (x:Int)(w:World)(h0:0≤x)(h1:x≤4294967295):
  yC 151 #[.int .u64 x] w fun e w'=>e= .returned (yi (bitLen x.toNat:Nat))∧w'=w:=by
 go_enter func151,ntmps151
 go_wp2
 all_goals try (exfalso;have hz:=Lib.len8tab_size;omega)
 all_goals (go_ret;refine⟨congrArg Ending.returned (congrArg (Value.int IntKind.i64) ?_),rfl⟩)
 all_goals simp only[X4]
 ·exact qz 24 _ x.toNat (by have:=bitLen_shift x.toNat 24 (by omega);rw[this];congr 2;omega) (by omega)
 ·exact qz 16 _ x.toNat (by have:=bitLen_shift x.toNat 16 (by omega);rw[this];congr 2;omega) (by omega)
 ·exact qz 8 _ x.toNat (by have:=bitLen_shift x.toNat 8 (by omega);rw[this];congr 2;omega) (by omega)
 ·have hb:=bitLen_le8 x.toNat (by omega)
  have e1:=IntWalk.wrap64_in ((bitLen x.toNat:Nat):Int) ⟨by omega,by omega⟩;rw[e1,e1]
theorem xW (zs:List Nat)(i:Nat):fU zs i<2:=Nat.mod_lt _ (by omega)
theorem gh (zs:List Nat)(f:Nat): ∀n,eH zs f n<2^n
 |0=>by simp[eH]
 |n+1=>by
  have h1:=gh zs f n;have h2:=xW zs (f+n);rw[Nat.pow_succ];simp only[eH];omega
theorem Nq (x:Nat):Dg.vl 4294967296 [x % 4294967296,x/4294967296]=x:=by
 simp only[Dg.vl];omega
theorem nK (n m:Int)(w:World)(h0:0≤m)(h1:m≤1000000):yC 147 #[yi n,yi m] w fun z w'=>z= .returned (.bool (eJ m n))∧w'=w:=by
 have hw:IntKind.i64.wrap (-m)= -m:=IntWalk.i64_in _ ⟨by omega,by omega⟩;unfold eJ
 by_cases h:n< -m
 ·go_enter func147,ntmps147
  go_wp2
  go_ret
  simp[h]
 ·go_enter func147,ntmps147
  go_wp2
  go_ret
  simp;omega
def aT (R D top:Int):Int:=top/(ai R:Int)-(D-1)
theorem Eg (n k L j:Nat)(h:(Dg.dg 4294967296 n).length≤L)(hk:k≤32*j):(Dg.dg 4294967296 (n*2^k)).length≤L+j:=by
 apply Dg.dg_len_le 4294967296 _ _ (by omega);have h1:=Dg.vl_lt 4294967296 (Dg.dg 4294967296 n) (Dg.small_dg _ _ (by omega));rw[Dg.vl_dg _ _ (by omega)] at h1;have h2:4294967296^ (Dg.dg 4294967296 n).length≤4294967296^L:=Nat.pow_le_pow_right (by omega) h;have h3:2^k≤4294967296^j:=by
  rw[show(4294967296:Nat)=2^32 from rfl,←Nat.pow_mul]
  exact Nat.pow_le_pow_right (by omega) hk
 rw[Nat.pow_add];exact Nat.lt_of_lt_of_le (Nat.mul_lt_mul_of_pos_right (Nat.lt_of_lt_of_le h1 h2) (Nat.pow_pos (by omega))) (Nat.mul_le_mul_left _ h3)
theorem oP {a L:Nat}(h:(Dg.dg 4294967296 a).length≤L):bitLen a≤32*L:=by
 refine bF a _ ?_;rw[Nat.pow_mul];have h1:=Dg.vl_lt 4294967296 _ (Dg.small_dg 4294967296 a (by omega));rw[Dg.vl_dg _ _ (by omega)] at h1;exact Nat.lt_of_lt_of_le h1 (Nat.pow_le_pow_right (by omega) h)
theorem Sb (B n:Nat)(hB:2≤B):(Dg.dg B n).getD 0 0=n % B:=by
 by_cases h:n=0
 ·subst h
  rw[show Dg.dg B 0=[] from(Dg.dg_nil_iff B 0 hB).2 rfl]
  simp
 ·have hs:=Dg.small_dg B n hB
  have hv:=Dg.vl_dg B n hB;obtain⟨x,xs,hx⟩: ∃x xs,Dg.dg B n=x::xs:=by
   rcases hd:Dg.dg B n with _| ⟨x,xs⟩
   ·exact absurd ((Dg.dg_nil_iff B n hB).1 hd) h
   ·exact⟨x,xs,rfl⟩
  rw[hx] at hs hv⊢;have h0:x<B:=by simpa using hs 0
  simp only[Dg.vl] at hv;rw[←hv];simp[Nat.mod_eq_of_lt h0]
theorem wV (r:Nat):(((Dg.dg 4294967296 r).length:Int)==0)=decide (r=0):=by
 have h:=Dg.dg_nil_iff 4294967296 r (by omega)
 by_cases h0:r=0
 ·rw[h.2 h0]
  simp[h0]
 ·have e:(((Dg.dg 4294967296 r).length:Int)==0)=false:=by
   simp;exact fun e=>h0 (h.1 e)
  rw[e];simp[h0]
def dj (R D L:Int)(gr:Bool)(N M:Nat)(E:Int):Int:=
 if(decide (aT R D (dY N M E)<L)&&gr)=true then L else aT R D (dY N M E)
def shP (R D L:Int)(gr:Bool)(N M:Nat)(E:Int):Int:=E-(ai R:Int)*dj R D L gr N M E
def cH (R D L:Int)(gr:Bool)(N M:Nat)(E:Int):Nat:=eZ N (shP R D L gr N M E)/dX M (shP R D L gr N M E)
def gF (R D L:Int)(gr:Bool)(N M:Nat)(E:Int):Nat:=eZ N (shP R D L gr N M E) % dX M (shP R D L gr N M E)
theorem FJ (N M:Nat)(E:Int)(hla:(Dg.dg 4294967296 N).length≤10000)(hlb:(Dg.dg 4294967296 M).length≤10000)(e1: -20000≤E)(e2:E≤20000): -340001≤dY N M E∧dY N M E≤340001:=by
 have h1:bitLen N≤32*10000:=oP hla;have h2:bitLen M≤32*10000:=oP hlb;unfold dY
 split<;>omega
theorem Bp {R D t:Int}(h1:1≤D)(h2:D≤120)(t1: -340001≤t)(t2:t≤340001): -341000≤aT R D t∧aT R D t≤341000∧ -341000≤(ai R:Int)*aT R D t∧(ai R:Int)*aT R D t≤341000:=by
 unfold aT ai
 split<;>omega
theorem Qg {R D L G:Int}{gr:Bool}{N M:Nat}{E:Int}(hg:bk R D L G=0)(hla:(Dg.dg 4294967296 N).length≤10000)(hlb:(Dg.dg 4294967296 M).length≤10000)(e1: -20000≤E)(e2:E≤20000): -341000≤dj R D L gr N M E∧dj R D L gr N M E≤341000∧ -341000≤(ai R:Int)*dj R D L gr N M E∧(ai R:Int)*dj R D L gr N M E≤341000:=by
 obtain⟨hR,d1,d2,l1,l2,-,-,-,-⟩:=cB hg;obtain⟨t1,t2⟩:=FJ N M E hla hlb e1 e2;have hp:=Bp (R:=R) d1 d2 t1 t2;unfold dj
 split
 ·have hw:=eN R
  unfold ai
  split<;>omega
 ·exact hp
theorem fw (N:Nat)(n:Int):eZ N n=N*2^n.toNat:=by
 unfold eZ
 split
 ·rw[show n.toNat=0 by omega,Nat.pow_zero,Nat.mul_one]
 ·rfl
theorem eM (M:Nat)(n:Int):dX M n=M*2^ (-n).toNat:=by
 unfold dX
 split
 ·rfl
 ·rw[show(-n).toNat=0 by omega,Nat.pow_zero,Nat.mul_one]
theorem BC (N M a b:Nat)(hN:N≠0)(hM:M≠0):M*2^b≤N*2^a↔(b:Int)≤dY N M 0+a:=by
 obtain⟨n1,n2,n3⟩:=uB N hN;obtain⟨m1,m2,m3⟩:=uB M hM;obtain⟨ln,hln⟩: ∃ln,bitLen N=ln:=⟨_,rfl⟩;obtain⟨lm,hlm⟩: ∃lm,bitLen M=lm:=⟨_,rfl⟩;have ht:dY N M 0=0+(((ln:Int)-(lm:Int))-(if eZ N (-((ln:Int)-(lm:Int)))/dX M (-((ln:Int)-(lm:Int)))=0 then 1 else 0)):=by
  unfold dY;rw[hln,hlm]
 rw[hln] at n1 n2 n3;rw[hlm] at m1 m2 m3;have low:M*2^ (ln-1)≤N*2^lm:=by
  rw[Nat.mul_comm];exact Nat.mul_le_mul n2 (Nat.le_of_lt m3)
 have high: ¬M*2^ln≤N*2^ (lm-1):=by
  have h1:N*2^ (lm-1)<2^ln*2^ (lm-1):=Nat.mul_lt_mul_of_pos_right n3 (bG _);have h2:2^ln*2^ (lm-1)≤M*2^ln:=by
   rw[Nat.mul_comm (2^ln)];exact Nat.mul_le_mul_right _ m2
  omega
 have hq:eZ N (-((ln:Int)-(lm:Int)))/dX M (-((ln:Int)-(lm:Int)))=0↔ ¬M*2^ (ln-lm)≤N*2^ (lm-ln):=by
  rw[fw,eM,show(-((ln:Int)-(lm:Int))).toNat=lm-ln by omega,show(-(-((ln:Int)-(lm:Int)))).toNat=ln-lm by omega,Nat.div_eq_zero_iff]
  have:=Nat.mul_pos (Nat.pos_of_ne_zero hM) (bG (ln-lm));omega
 by_cases hz:eZ N (-((ln:Int)-(lm:Int)))/dX M (-((ln:Int)-(lm:Int)))=0
 ·rw[if_pos hz] at ht
  have h0:=hq.1 hz
  constructor
  ·intro h
   refine Decidable.byContradiction fun c=>h0 (DS h ?_)
   omega
  ·intro h
   exact DS low (by omega)
 ·rw[if_neg hz] at ht
  have h0:M*2^ (ln-lm)≤N*2^ (lm-ln):=Decidable.byContradiction fun c=>hz (hq.2 c)
  constructor
  ·intro h
   refine Decidable.byContradiction fun c=>high (DS h ?_)
   omega
  ·intro h
   exact DS h0 (by omega)
theorem XI (x y:Int):Instr.sameNow (.int .i64) (yi x) (yi y)=some (decide (x=y)):=by
 simp[Instr.sameNow]
 by_cases h:x=y<;>simp[h]
theorem G0 (b:Bool)(x:Option Addr)(y z:Nat)(e:Int)(W:World):(Instr.field 86 (ydV b (.slice x y z) e) 0).run Tryz.prog W= .ok (ydV b (.slice x y z) e) W:=by kernel_rfl
theorem Ju (b:Bool)(x:Option Addr)(y z:Nat)(e:Int)(W:World):(Instr.field 59 (ydV b (.slice x y z) e) 2).run Tryz.prog W= .ok (yi e) W:=by kernel_rfl
theorem jq {d k L:Nat}(h:d<2^k)(hk:k≤32*L):(Dg.dg 4294967296 d).length≤L:=by
 refine Dg.dg_len_le 4294967296 _ _ (by omega) (Nat.lt_of_lt_of_le h ?_);rw[show(4294967296:Nat)=2^32 from by decide,←Nat.pow_mul]
 exact Nat.pow_le_pow_right (by omega) hk
def zR (k:Nat)(ng:Bool)(E FF:Nat):Bool:=
 if k=3 then(if E+1=2^exN k then(if FF=2^ (dgN k-1) then ng else false) else if 0<E∧FF<2^ (dgN k-1) then false else ng)
 else if k≤2 then(if E+1=2^exN k then(if FF=0 then ng else false) else ng)
 else if k≤5 then ng
 else(if E=0 then false else ng)
end Go.Proofs.YtdhpndnncmagiaaGreatDoor
