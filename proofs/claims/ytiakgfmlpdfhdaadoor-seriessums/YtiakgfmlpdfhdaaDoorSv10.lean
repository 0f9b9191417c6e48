/-
  Texts laid together: Dz, DivBy, Begun, Laws1, Bits, Dy1, Dy3, Dr1, Dy6, Dr2, Dk1, Long0, Long, Over, Ref7, Into0, Into1, Dn1, Bm3, Cv5.
-/
import Derived.Test.YtiakgfmlpdfhdaaDoorSv01
import Derived.Test.YtiakgfmlpdfhdaaDoorSv02
import Derived.Test.YtiakgfmlpdfhdaaDoorSv03
import Derived.Test.YtiakgfmlpdfhdaaDoorSv04
namespace Go.Proofs.YtiakgfmlpdfhdaaDoor
open Go.RowKit
def bare (a:ak):ak:=if a.n=0 then⟨false,0,0⟩ else⟨a.s,a.n/2^tz a.n,a.e+tz a.n⟩
theorem eL {K:Nat}{a:ak}(ha: -(K:Int)≤a.e): -(K:Int)≤(bare a).e:=by
 unfold bare
 by_cases h:a.n=0
 ·rw[if_pos h];simp
 ·rw[if_neg h];simp only;omega
def acQ (zs cur:List Nat)(d k r:Nat):Prop:=
 cur.length=zs.length∧Dg.Small 4294967296 cur∧r<d∧(∀j,j<k→cur.getD j 0=zs.getD j 0)∧Dg.vl 4294967296 (zs.drop k)=Dg.vl 4294967296 (cur.drop k)*d+r
theorem Tx {zs cur:List Nat}{d k r t:Nat}(h:acQ zs cur d (k+1) r)(hk:k<zs.length)(ht:t=r*4294967296+zs.getD k 0)(hd:0<d)(hq:t/d<4294967296):
  acQ zs (cur.set k (t/d)) d k (t % d):=by
 obtain⟨h1,h2,h3,h4,h5⟩:=h;refine⟨by simpa using h1,Dg.small_set h2 _ _ hq,Nat.mod_lt _ hd,fun j hj=> ?_, ?_⟩
 ·rw[Dg.getD_set _ _ _ _ (by omega),if_neg (by omega)];exact h4 j (by omega)
 ·rw[AU zs k hk,AU (cur.set k (t/d)) k (by simpa using(by omega:k<cur.length)),Dg.getD_set _ _ _ _ (by omega),if_pos rfl,List.drop_set_of_lt (by omega)]
  simp only[Dg.vl];rw[h5];have:=Nat.div_add_mod t d;rw[Nat.add_mul,Nat.mul_comm (t/d) d,Nat.mul_assoc,Nat.mul_add];have e:r*4294967296=4294967296*r:=Nat.mul_comm _ _;omega
theorem aF {zs:List Nat}(h:chk zs=0):Dg.Norm zs∧zs.length≤1200:=by
 unfold chk at h
 by_cases h1:0<zs.length∧zs.getD (zs.length-1) 0=0
 ·rw[if_pos h1] at h;omega
 ·rw[if_neg h1] at h
  by_cases h2:1200<zs.length
  ·rw[if_pos h2] at h;omega
  ·refine⟨fun hne e=>h1 ⟨List.length_pos_iff.2 hne,e⟩,by omega⟩
theorem cE {w:World}{k:IntKind}{e:Nat}(zs:List Nat)(cs:Array Value)(hcs:cs=(zs.map (fun n:Nat=>Value.int k (n:Int))).toArray)(hl:zs.length≤maxLen):
  Rd (w.alloc (.cells cs e)) k (.slice (some ⟨w.heap.size,0,none⟩) zs.length zs.length) zs:=by
 refine⟨_,zs.length,rfl,Nat.le_refl _,hl,fun _=>⟨w.heap.size,0,rfl,fun i hi=> ?_⟩⟩
 rw[World.cell?_alloc_at _ _ _ _ rfl,hcs,Nat.zero_add];simp only[List.getElem?_toArray];exact j9 k zs i hi
theorem oZ {xs:List Nat}(sa:Dg.Small 4294967296 xs):Dg.vl 4294967296 xs<65536^ (2*xs.length):=by
 rw[JJ];exact Dg.vl_lt _ _ sa
theorem zX {xs:List Nat}(sa:Dg.Small 4294967296 xs):(Dg.dg 65536 (Dg.vl 4294967296 xs)).length≤2*xs.length:=
 Dg.dg_len_le _ _ _ (by omega) (oZ sa)
theorem IL (B:Nat)(b:Nat)(hb:B=2^b)(h1:1<B)(zs:List Nat)(hs:Dg.Small B zs)(hn:Dg.Norm zs)(hne:zs≠[]):bitLen (Dg.vl B zs)=b*(zs.length-1)+bitLen (zs.getD (zs.length-1) 0):=by
 have hl:0<zs.length:=List.length_pos_iff.2 hne;have hsp:=Dg.vl_split B zs (zs.length-1) (by omega);rw[show zs.length-1+1=zs.length from by omega,List.drop_of_length_le (Nat.le_refl _)] at hsp
 simp only[Dg.vl,Nat.mul_zero,Nat.add_zero] at hsp;have hlt:=Dg.vl_lt B (zs.take (zs.length-1)) (Dg.small_take hs _ (by omega));rw[List.length_take,Nat.min_eq_left (by omega)] at hlt;have hpw:B^ (zs.length-1)=2^ (b*(zs.length-1)):=by rw[hb,Nat.pow_mul]
 have hdiv:Dg.vl B zs/2^ (b*(zs.length-1))=zs.getD (zs.length-1) 0:=by
  rw[←hpw,hsp,Nat.add_comm,Nat.mul_add_div (Nat.pow_pos (by omega)),Nat.div_eq_of_lt hlt,Nat.add_zero]
 have hnz:=hn hne;rw[bitLen_shift _ (b*(zs.length-1)) (by rw[hdiv];exact hnz),hdiv]
theorem Zx (l:List Nat)(k t m:Nat)(hk:k<l.length)(h: ∀j,j<k→l.getD j 0=0)(hd:l.getD k 0=2^t*(2*m+1))(ht:t<32):tz (Dg.vl 4294967296 l)=32*k+t:=by
 have h1:=Dg.vl_split 4294967296 l k hk;have h0:Dg.vl 4294967296 (l.take k)=0:=Dg.vl_zeros 4294967296 (l.take k) (fun i=>by
  by_cases hi:i<k
  ·have:=h i hi
   simpa[List.getD_eq_getElem?_getD,List.getElem?_take,hi] using this
  ·simp[List.getD_eq_getElem?_getD,List.getElem?_take,hi])
 rw[h0,hd,Nat.zero_add] at h1;obtain⟨u,hu⟩: ∃u,Dg.vl 4294967296 (l.drop (k+1))=u:=⟨_,rfl⟩;rw[hu] at h1;have e32:(4294967296:Nat)=2^t*(2*2^ (31-t)):=by
  have:(4294967296:Nat)=2^ (t+(1+(31-t))):=by rw[show t+(1+(31-t))=32 from by omega]
  rw[this,Nat.pow_add,Nat.pow_add,Nat.pow_one]
 have e1:(2:Nat)^ (32*k)=4294967296^k:=by rw[Nat.pow_mul]
 refine F8 (m:=m+2^ (31-t)*u) ?_;rw[h1,Nat.pow_add,e1,Nat.mul_assoc]
 congr 1
 generalize 2^ (31-t)=c at*;have e2:4294967296*u=2^t*(2*(c*u)):=by rw[e32];simp only[Nat.mul_assoc]
 rw[e2,←Nat.mul_add]
 congr 1
 omega
def bU (t:ak):ak×Int:=
 if 1200< (Dg.dg 4294967296 (bare t).n).length then(⟨false,0,0⟩,2) else if(bare t).e< -20000∨20000< (bare t).e then(⟨false,0,0⟩,3) else(bare t,0)
theorem QY (l:List Nat)(k t m:Nat)(hk:k<l.length)(h: ∀j,j<k→l.getD j 0=0)(hd:l.getD k 0=2^t*(2*m+1))(ht:t<16):tz (Dg.vl 65536 l)=16*k+t:=by
 have h1:=Dg.vl_split 65536 l k hk;have h0:Dg.vl 65536 (l.take k)=0:=Dg.vl_zeros 65536 (l.take k) (fun i=>by
  by_cases hi:i<k
  ·have:=h i hi
   simpa[List.getD_eq_getElem?_getD,List.getElem?_take,hi] using this
  ·simp[List.getD_eq_getElem?_getD,List.getElem?_take,hi])
 rw[h0,hd,Nat.zero_add] at h1;obtain⟨u,hu⟩: ∃u,Dg.vl 65536 (l.drop (k+1))=u:=⟨_,rfl⟩;rw[hu] at h1;have e32:(65536:Nat)=2^t*(2*2^ (15-t)):=by
  have:(65536:Nat)=2^ (t+(1+(15-t))):=by rw[show t+(1+(15-t))=16 from by omega]
  rw[this,Nat.pow_add,Nat.pow_add,Nat.pow_one]
 have e1:(2:Nat)^ (16*k)=65536^k:=by rw[Nat.pow_mul]
 refine F8 (m:=m+2^ (15-t)*u) ?_;rw[h1,Nat.pow_add,e1,Nat.mul_assoc]
 congr 1
 generalize 2^ (15-t)=c at*;have e2:65536*u=2^t*(2*(c*u)):=by rw[e32];simp only[Nat.mul_assoc]
 rw[e2,←Nat.mul_add]
 congr 1
 omega
theorem gZ (n L:Nat)(h:(Dg.dg 4294967296 n).length≤L):tz n≤32*L:=by
 by_cases h0:n=0
 ·subst h0;exact Nat.zero_le _
 ·obtain⟨m,hm⟩:=fO h0
  have h1:=Dg.vl_lt 4294967296 (Dg.dg 4294967296 n) (Dg.small_dg _ _ (by omega));rw[Dg.vl_dg _ _ (by omega)] at h1;have h2:4294967296^ (Dg.dg 4294967296 n).length≤4294967296^L:=Nat.pow_le_pow_right (by omega) h;have h3:(4294967296:Nat)^L=2^ (32*L):=by rw[Nat.pow_mul]
  have h4:2^tz n*1≤2^tz n*(2*m+1):=Nat.mul_le_mul_left _ (by omega);rw[←hm,Nat.mul_one] at h4;have h5:2^tz n<2^ (32*L):=by rw[←h3];omega
  exact Nat.le_of_lt ((Nat.pow_lt_pow_iff_right (by omega)).1 h5)
theorem im (n L:Nat)(h:(Dg.dg 4294967296 n).length≤L):(Dg.dg 65536 n).length≤2*L:=by
 apply Dg.dg_len_le 65536 _ _ (by omega);have h1:=Dg.vl_lt 4294967296 (Dg.dg 4294967296 n) (Dg.small_dg _ _ (by omega));rw[Dg.vl_dg _ _ (by omega)] at h1;have h2:4294967296^ (Dg.dg 4294967296 n).length≤4294967296^L:=Nat.pow_le_pow_right (by omega) h;rw[JJ];omega
def aY (t:ak)(b:Int)(up:Bool):ak:=
 if(bitLen t.n:Int)-b≤((if t.n=0 then 0 else tz t.n:Nat):Int) then t
 else⟨t.s,t.n/2^ ((bitLen t.n:Int)-b).toNat+(if(up != t.s)=true then 1 else 0),t.e+((bitLen t.n:Int)-b)⟩
theorem gf {a L:Nat}(h:(Dg.dg 4294967296 a).length≤L):bitLen a≤32*L:=by
 refine bF a _ ?_;rw[Nat.pow_mul];have h1:=Dg.vl_lt 4294967296 _ (Dg.small_dg 4294967296 a (by omega));rw[Dg.vl_dg _ _ (by omega)] at h1;exact Nat.lt_of_lt_of_le h1 (Nat.pow_le_pow_right (by omega) h)
theorem NC {B X D i m g:Nat}(hB:0<B)(hX:X<D*B^ (i+1))(hD:B^ (m+1)≤D)(hg:g<B)
  (hlow: ∀k,k*(D/B^m)≤X/B^ (i+m)→k<B→k≤g) (hup:g*(D/B^m)≤X/B^ (i+m)):
  X/B^i/D<B∧(g=X/B^i/D∨g=X/B^i/D+1):=by
 have hE:0<B^m:=Nat.pow_pos hB;have hD0:0<D:=Nat.lt_of_lt_of_le (Nat.pow_pos hB) hD;have hqB:X/B^i/D<B:=by
  rw[Nat.div_lt_iff_lt_mul hD0,Nat.div_lt_iff_lt_mul (Nat.pow_pos hB),Nat.mul_assoc,Nat.mul_comm B,Nat.mul_assoc,←Nat.pow_succ];exact hX
 refine⟨hqB, ?_⟩;rw[Nat.pow_add,←Nat.div_div_eq_div_mul] at hlow hup;generalize hseg:X/B^i=seg at*;have hv1:D/B^m*B^m≤D:=Nat.div_mul_le_self D _;have hv2:D≤(D/B^m+1)*B^m:=by have:=SF D hE;omega
 have hu1:seg/B^m*B^m≤seg:=Nat.div_mul_le_self seg _;have hu2:seg< (seg/B^m+1)*B^m:=SF seg hE;have hvB:B≤D/B^m:=by
  rw[Nat.le_div_iff_mul_le hE,Nat.mul_comm,←Nat.pow_succ];exact hD
 have l1:=Ox hE hu2 hv1 (Nat.div_mul_le_self seg D);have l2:=hlow _ l1 hqB;have l3:=Oy hup (by omega) hu1 hv2;have l4:g-1≤seg/D:=(Nat.le_div_iff_mul_le hD0).2 l3;omega
theorem V7 (ys:List Nat)(s:Nat)(sb:Dg.Small 4294967296 ys)(nb:Dg.Norm ys)(hn:2≤ys.length)(hs:s=32-bitLen (ys.getD (ys.length-1) 0)):
  s<32∧2147483648*4294967296^ (ys.length-1)≤Dg.vl 4294967296 ys*2^s∧Dg.vl 4294967296 ys*2^s<4294967296^ys.length:=by
 have hy0:ys.getD (ys.length-1) 0≠0:=nb (by intro e;rw[e] at hn;simp at hn);have hyl:=sb (ys.length-1);have hsp:=Dg.vl_split 4294967296 ys (ys.length-1) (by omega);have hlo:=Dg.vl_lt 4294967296 (ys.take (ys.length-1)) (Dg.small_take sb _ (by omega));rw[List.length_take,Nat.min_eq_left (by omega)] at hlo;rw[show ys.length-1+1=ys.length from by omega,List.drop_length] at hsp
 simp only[Dg.vl,Nat.mul_zero,Nat.add_zero] at hsp;generalize ys.getD (ys.length-1) 0=y at*;generalize Dg.vl 4294967296 (ys.take (ys.length-1))=lo at*;have⟨h1,h2,h3⟩:=uB y hy0;have h4:=bF y 32 (by omega);have e1:2^ (bitLen y-1)*2^s=2147483648:=by rw[←Nat.pow_add,show bitLen y-1+s=31 from by omega]
 have e2:2^bitLen y*2^s=4294967296:=by rw[←Nat.pow_add,show bitLen y+s=32 from by omega]
 have e3:(4294967296:Nat)^ys.length=4294967296^ (ys.length-1)*4294967296:=by rw[←Nat.pow_succ,show(ys.length-1).succ=ys.length from by omega]
 have a1:2^ (bitLen y-1)*2^s≤y*2^s:=Nat.mul_le_mul_right _ h2;have a2:(y+1)*2^s≤2^bitLen y*2^s:=Nat.mul_le_mul_right _ h3;refine⟨by omega, ?_, ?_⟩
 ·rw[hsp,Nat.add_mul,Nat.mul_assoc]
  have:4294967296^ (ys.length-1)*2147483648≤4294967296^ (ys.length-1)*(y*2^s):=Nat.mul_le_mul_left _ (by omega);rw[Nat.mul_comm 2147483648];omega
 ·rw[hsp,e3]
  have b1:(lo+4294967296^ (ys.length-1)*y)<4294967296^ (ys.length-1)*(y+1):=by rw[Nat.mul_add,Nat.mul_one];omega
  have b2:(lo+4294967296^ (ys.length-1)*y)*2^s<4294967296^ (ys.length-1)*(y+1)*2^s:=Nat.mul_lt_mul_of_pos_right b1 (Nat.pow_pos (by omega));rw[Nat.mul_assoc (4294967296^ (ys.length-1)) (y+1)] at b2;have b3:4294967296^ (ys.length-1)*((y+1)*2^s)≤4294967296^ (ys.length-1)*4294967296:=Nat.mul_le_mul_left _ (by omega);omega
theorem Xx {a b:Int}(h:b≤a):decide (dm a b<0)=false:=by
 unfold dm;rw[if_neg (by omega)]
 by_cases h2:b<a
 ·rw[if_pos h2];rfl
 ·rw[if_neg h2];rfl
def X9 (xs cur:List Nat)(d k r:Nat):Prop:=
 cur.length=xs.length∧Dg.Small 65536 cur∧r<d∧Dg.vl 65536 (xs.drop k)=Dg.vl 65536 (cur.drop k)*d+r
theorem Qp {xs cur:List Nat}{d k r t:Nat}(h:X9 xs cur d (k+1) r)(hk:k<xs.length)(ht:t=65536*r+xs.getD k 0)(hd:0<d)(hq:t/d<65536):
  X9 xs (cur.set k (t/d)) d k (t % d):=by
 obtain⟨h1,h2,h3,h5⟩:=h;refine⟨by simpa using h1,Dg.small_set h2 _ _ hq,Nat.mod_lt _ hd, ?_⟩;rw[AU xs k hk,AU (cur.set k (t/d)) k (by simpa using(by omega:k<cur.length)),Dg.getD_set _ _ _ _ (by omega),if_pos rfl,List.drop_set_of_lt (by omega)];simp only[Dg.vl];rw[h5];have:=Nat.div_add_mod t d;rw[Nat.add_mul,Nat.mul_comm (t/d) d,Nat.mul_assoc,Nat.mul_add];omega
theorem Ho {P:Program}{w:World}{base e:Nat}{k:IntKind}{v u:Value}{xs ys:List Nat}(t ty:Nat)(i:TypeInfo)(bytes:Nat)(ht:P.underlying t=some (.slice e))(hi:P.info? e=some i)
  (hz:i.zero=some (.int k 0)) (hsize:i.size=1) (hby:i.bytes=bytes) (hb8:bytes≤8)
  (ho:Own w base e k v xs) (hr:Rd w k u ys) (hl:xs.length+ys.length≤3000000) (hbase:base≤w.heap.size):
  ∃v' w',(Builtin.append_ #[t,t] ty #[v,u]).run P w= .ok v' w'∧Own w' base e k v' (xs++ys)∧w.grownBy w' v.ownBlock:=by
 obtain⟨ao,cap,rfl,h1,h2,h3⟩:=hr
 cases ao with
 |none=>
  have hy:ys.length=0:=by
   rcases Nat.eq_zero_or_pos ys.length with e|e
   ·exact e
   ·obtain⟨b,off,e2,_⟩:=h3 e;cases e2
  have hyn:ys=[]:=List.length_eq_zero_iff.1 hy;subst hyn;refine⟨v,w, ?_,by rw[List.append_nil];exact ho,ib _ _⟩
  rcases ho.2 with⟨rfl,_⟩| ⟨g,cap',cur,rfl,_,_,hnc,_⟩
  ·simp[Builtin.append_,run_underlying ht,sizeOf,typeInfo,hi,Builtin.lenOf,Builtin.firstCells]
  ·simp[Builtin.append_,run_underlying ht,sizeOf,typeInfo,hi,Builtin.lenOf,Builtin.firstCells,hnc,storeCells]
 |some ad=>
  obtain⟨v',w',r1,r2,r3,_⟩:=run_append_own (P:=P) (w:=w) base t ty e i (.int k 0) 1 bytes ht hi hz hsize hby rfl (by omega) v xs.length _ ho ad ys.length cap (ys.map (fun n:Nat=>Value.int k (n:Int))) (by simp) (fun j u hj=>by
    have hjl:j<ys.length:=by
     have:=(List.getElem?_eq_some_iff.1 hj).1
     simpa using this
    obtain⟨b,off,e2,hc⟩:=h3 (by omega)
    cases e2
    rw[rO,hc j hjl];rw[←hj,j9 k ys j hjl]) (fun u hu=>by
    obtain⟨n,_,rfl⟩:=List.mem_map.1 hu;rfl) (by unfold maxLen;omega) (Nat.le_trans (Nat.mul_le_mul (show xs.length+ys.length≤3000000 from hl) hb8) (by omega)) hbase
  exact⟨v',w',r1,by unfold Own;rw[List.map_append,List.length_append];exact r2,r3⟩
theorem Wm {rs:List Nat}(h:Dg.Small 65536 rs)(n j:Nat):sJ rs n j<65536^j:=by
 induction j with
 |zero=>simp[sJ]
 |succ j ih=>
  have:=h (n-j);simp only[sJ,Nat.pow_succ];omega
theorem mX (A:ak)(b:Int)(up:Bool)(hb:1≤b):
  (bitLen (bare A).n≤b∧aY A b up=A)∨
  (∃j q:Nat,¬(bitLen (bare A).n:Int)≤b∧A.n≠0∧(bitLen A.n:Int)-b=(j:Int)∧A.n/2^j=q∧q*2^j≤A.n∧A.n< (q+1)*2^j∧q<2^b.toNat∧0<q∧tz A.n≤j∧aY A b up=⟨A.s,q+(if(up != A.s)=true then 1 else 0),A.e+(j:Int)⟩):=by
 by_cases h0:A.n=0
 ·refine Or.inl ⟨?_,if_pos ?_⟩
  ·unfold bare
   rw[if_pos h0]
   show((bitLen 0:Nat):Int)≤b
   rw[gP];omega
  ·rw[h0,gP,if_pos rfl];omega
 ·obtain⟨m,hm⟩:=fO h0
  have hd:=lI hm;have hbl:=Ad (2*m+1) (tz A.n) (by omega);rw[←hm] at hbl;have hbn:(bare A).n=2*m+1:=by
   unfold bare;rw[if_neg h0];exact hd
  rw[hbn]
  by_cases hc:(bitLen (2*m+1):Int)≤b
  ·refine Or.inl ⟨hc,if_pos ?_⟩
   rw[if_neg h0,hbl];omega
  ·refine Or.inr ?_
   obtain⟨j,hj⟩: ∃j:Nat,(bitLen A.n:Int)-b=(j:Int):=⟨((bitLen A.n:Int)-b).toNat,by omega⟩;obtain⟨sp1,sp2⟩:=bitLen_spec A.n;have hP:0<2^j:=Nat.pow_pos (by omega);refine⟨j,A.n/2^j,hc,h0,hj,rfl,Nat.div_mul_le_self _ _, ?_, ?_, ?_,by omega, ?_⟩
   ·have:=Nat.lt_div_mul_add (a:=A.n) hP
    rw[Nat.add_mul,Nat.one_mul];exact this
   ·rw[Nat.div_lt_iff_lt_mul hP,←Nat.pow_add]
    have e:b.toNat+j=bitLen A.n:=by omega
    rw[e];exact sp1
   ·apply Nat.div_pos _ hP
    refine Nat.le_trans (Nat.pow_le_pow_right (by omega) ?_) (sp2 h0);omega
   ·unfold aY
    rw[if_neg h0,if_neg (by rw[hbl] at hj⊢;omega),hj,Int.toNat_natCast]
theorem Iw (A:ak)(b:Int)(up:Bool)(hb:1≤b):
  aY A b up=A∨
  (∃j q:Nat,q*2^j<A.n∧A.n< (q+1)*2^j∧2^b.toNat≤2*q∧aY A b up=⟨A.s,q+(if(up != A.s)=true then 1 else 0),A.e+(j:Int)⟩):=by
 rcases mX A b up hb with⟨_,h2⟩| ⟨j,q,hn,h0,hj,hq,g1,g2,hqb,hq0,htz,h2⟩
 ·exact .inl h2
 ·refine .inr ⟨j,q, ?_,g2, ?_,h2⟩
  ·rcases Nat.lt_or_ge (q*2^j) A.n with h|h
   ·exact h
   ·exfalso
    have he:A.n=q*2^j:=by omega
    obtain⟨m,hm⟩:=fO (n:=q) (by omega);have h3:A.n=2^ (j+tz q)*(2*m+1):=by
     rw[he,Nat.pow_add,Nat.mul_assoc,←hm,Nat.mul_comm]
    have h4:=F8 h3;have h5:(bare A).n=A.n/2^tz A.n:=by
     unfold bare;rw[if_neg h0]
    have h6:tz A.n=j:=by omega
    rw[h6,hq] at h5;have h7:=bF q _ hqb;rw[h5] at hn;omega
  ·obtain⟨_,sp2⟩:=bitLen_spec A.n
   have h3:=sp2 h0;have h4:bitLen A.n-1=(b.toNat-1)+j:=by omega
   rw[h4,Nat.pow_add] at h3;have h5:2^ (b.toNat-1)*2^j< (q+1)*2^j:=by omega
   have h6:=Nat.lt_of_mul_lt_mul_right h5;have h7:2^b.toNat=2*2^ (b.toNat-1):=by
    rw[←Nat.pow_succ']
    congr 1
    omega
   omega
def FromI (d x:Nat)(ys:List Nat):Prop:=Dg.vl 65536 ys+65536^ys.length*x=d∧Dg.Small 65536 ys∧(x=0→Dg.Norm ys)
theorem vl_snoc (B:Nat): ∀(l:List Nat) (x:Nat),Dg.vl B (l++[x])=Dg.vl B l+B^l.length*x
 | [],x=>by simp[Dg.vl]
 |a::l,x=>by
  show a+B*Dg.vl B (l++[x])=a+B*Dg.vl B l+B^ (l.length+1)*x
  rw[vl_snoc B l x,Nat.mul_add,Nat.pow_succ,Nat.mul_comm (B^l.length) B,Nat.mul_assoc,Nat.add_assoc]
theorem fromI_step {d x:Nat}{ys:List Nat}(h:FromI d x ys)(hx:x≠0):FromI d (x/65536) (ys++[x % 65536]):=by
 obtain⟨h1,h2,-⟩:=h;refine⟨?_, ?_,fun h0=> ?_⟩
 ·rw[vl_snoc,List.length_append,List.length_singleton,Nat.pow_succ,Nat.mul_assoc,Nat.add_assoc,←Nat.mul_add,show x % 65536+65536*(x/65536)=x by omega]
  exact h1
 ·intro i
  rcases Nat.lt_trichotomy i ys.length with c|c|c
  ·have:=h2 i
   rw[List.getD_eq_getElem?_getD,List.getElem?_append_left c,←List.getD_eq_getElem?_getD];exact this
  ·subst c
   rw[List.getD_eq_getElem?_getD,List.getElem?_append_right (Nat.le_refl _)];simp;omega
  ·rw[List.getD_eq_getElem?_getD,List.getElem?_eq_none (by simp;omega)]
   simp
 ·have e:x % 65536=x:=by omega
  rw[e];intro _;simp[hx]
end Go.Proofs.YtiakgfmlpdfhdaaDoor
