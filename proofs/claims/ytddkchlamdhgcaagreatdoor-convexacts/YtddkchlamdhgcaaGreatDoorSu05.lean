/-
  Texts laid together: Mem, Dz, Leaf, Wrong, Div1, DivBy, Add, Plus, Ref4, Bits, Shift, Ref5, Ref6, Dy1, Dy2, Lk, Take, Back, Long0, Long, Long1, Over, Gr2, Gr4, Gh1, Ref7, IntoM, Into1, Into2, Gq1, Cv9.
-/
import Derived.Lib.TrailingZeros
import Derived.OpenShut
import Derived.Laws.MathBits
import Derived.Lib.BitFns
import Derived.Lib.Walk
import Derived.Lib.Small
import Derived.Shelf.Spec.TrailingZeros
import Derived.Deep.RegionHeld3
import Derived.Laws.ResultCell
import Derived.ChangeMaps4
import Derived.Deep.MidRow
import Derived.Deep.Cut
import Derived.Deep.DeepCutAuto
import Derived.Laws.IdiomStrings
import Derived.Deep.RegionWith
import Derived.Laws.OwnMore
import Derived.Deep.AppendLies
import Derived.Test.YtddkchlamdhgcaaGreatDoorSu01
set_option maxRecDepth 100000
namespace Go.Proofs.YtddkchlamdhgcaaGreatDoor
open _root_.Go.Proofs.Tryz
open Go.RowKit
theorem Own.store {w:World}{base e:Nat}{k:IntKind}{g n cap:Nat}{zs:List Nat}(h:Own w base e k (.slice (some ⟨g,0,none⟩) n cap) zs)(j x:Nat):
  Own (w.setCell ⟨g,j,none⟩ (.int k x)) base e k (.slice (some ⟨g,0,none⟩) n cap) (zs.set j x):=by
 have hn:=h.len;subst hn;have:=(World.ownsRow.stored h j (.int k x)).1;unfold Own;rw[List.length_set,List.map_set];exact this
theorem Own.lower {w:World}{base base' e:Nat}{k:IntKind}{v:Value}{zs:List Nat}(h:Own w base e k v zs)(hb:base'≤base):Own w base' e k v zs:=by
 obtain⟨h1,h2⟩:=h;refine⟨h1, ?_⟩
 rcases h2 with h2| ⟨g,cap,cur,hv,hbg,r⟩
 ·exact .inl h2
 ·exact .inr ⟨g,cap,cur,hv,by omega,r⟩
theorem gL {w:World}{base e:Nat}{k:IntKind}{v:Value}{n:Nat}(h:w.ownsRow base e 1 v n (madeCells #[Value.int k 0] n).toList):Own w base e k v (List.replicate n 0):=by
 rw[toList_madeCells_one] at h
 simpa[Own] using h
theorem adl (B:Nat)(l:List Nat)(j:Nat)(hB:0<B)(_hs:Dg.Small B l)(h0:Dg.vl B l=0):l.getD j 0=0:=by
 by_cases h:j<l.length
 ·have h1:=Dg.vl_split B l j h
  rw[h0] at h1;have h2:B^j*l.getD j 0=0:=by
   rcases Nat.eq_zero_or_pos (l.getD j 0) with e|e
   ·rw[e,Nat.mul_zero]
   ·exfalso
    have h3:0<B^j*l.getD j 0:=Nat.mul_pos (Nat.pow_pos hB) e;have h4:B^j*(l.getD j 0+B*Dg.vl B (l.drop (j+1)))=0:=by omega
    rw[Nat.mul_add] at h4;omega
  rcases Nat.mul_eq_zero.1 h2 with e|e
  ·exact absurd e (Nat.ne_of_gt (Nat.pow_pos hB))
  ·exact e
 ·simp[List.getD_eq_getElem?_getD,show l.length≤j from by omega]
theorem jD (ao:Option Addr)(len cap:Nat)(zs:List Nat)(w:World)(h:Rd w .u32 (.slice ao len cap) zs):
  yC 104 #[.slice ao len cap] w fun e w'=> ∃n,e= .returned (.slice ao n cap)∧Ou zs n∧w'=w:=by
 obtain rfl:=wn h;obtain⟨hlc,hm,hc⟩:=iQ h
 go_enter func104,ntmps104
 go_wp2
 go_loop [3] (fun i=> ∃k:Nat,k≤zs.length∧i=yi k∧Hid (∀i,k≤i→zs.getD i 0=0)) (fun i=>(intOf i).toNat)
 case atStart=>exact⟨zs.length,Nat.le_refl _,rfl,fun i hi=>Dg.getD_of_le _ _ hi⟩
 case round=>
  obtain⟨k,hk,rfl,hz⟩:=hrel
  by_cases hk0:k=0
  ·subst hk0
   go_wp2
   go_ret
   exact⟨0,rfl,⟨Nat.zero_le _,hz,fun h=>absurd h (by omega)⟩,rfl⟩
  ·obtain⟨b,off,rfl,hcell⟩:=hc (by omega)
   have h1:=hcell (k-1) (by omega);obtain⟨d,hd⟩: ∃d,zs.getD (k-1) 0=d:=⟨_,rfl⟩;rw[hd] at h1;have Hd:Hid _:=hd;clear hd hcell hc h
   by_cases hd0:d=0
   ·subst hd0
    go_wp2
    go_round
    case rel=>exact⟨k-1,by omega,by go_num,fun i hi=>by
     by_cases e:i=k-1
     ·rw[e];exact Hd.out
     ·exact hz i (by omega)⟩
    case measure=>simp[intOf];omega
   ·go_wp2
    go_ret
    exact⟨k,rfl,⟨hk,hz,fun _=>by rw[Hd.out];exact hd0⟩,rfl⟩
def Num (w:World)(n:Nat)(e:Ending)(w':World):Prop:=
 ∃v,e= .returned v∧Own w' w.heap.size 135 .u32 v (Dg.dg 4294967296 n)∧yB w w'
theorem pr {w:World}{base e:Nat}{k:IntKind}{g:Nat}{zs:List Nat}(h:w.heap[g]? =some (.cells (zs.map (fun n:Nat=>Value.int k (n:Int))).toArray e (0,0)))(hb:base≤g)(hm:zs.length≤maxLen):
  Own w base e k (.slice (some ⟨g,0,none⟩) zs.length zs.length) zs:=by
 refine⟨by simp,.inr ⟨g,_,_,rfl,hb,h,Nat.le_refl _,hm,by simp, ?_⟩⟩;simp only[Nat.mul_one];exact List.take_of_length_le (by simp)
theorem Nv (w:World)(g:Nat)(old cs:Array Value)(t:TypeId)(hg:w.heap[g]? =some (.cells old t (0,0))):(w.setRow g cs).heap[g]? =some (.cells cs t (0,0)):=by
 simp[World.setRow,Array.getElem?_modify,hg]
theorem Ew {w w':World}(g:Option Nat)(h:yB w w'):w.grownBy w' g:=⟨h.os,h.tape,h.output,h.size,fun k hk _=>h.block k hk⟩
theorem eF {w w1 w2:World}{g:Option Nat}(h:w.grownBy w1 g)(k:w1.grownBy w2 g):w.grownBy w2 g:=
 ⟨k.os.trans h.os,k.tape.trans h.tape,k.output.trans h.output,Nat.le_trans h.size k.size,fun i hi hne=>(k.block i (Nat.lt_of_lt_of_le hi h.size) hne).trans (h.block i hi hne)⟩
def acQ (zs cur:List Nat)(d k r:Nat):Prop:=
 cur.length=zs.length∧Dg.Small 4294967296 cur∧r<d∧(∀j,j<k→cur.getD j 0=zs.getD j 0)∧Dg.vl 4294967296 (zs.drop k)=Dg.vl 4294967296 (cur.drop k)*d+r
theorem ur (x y c:Nat)(w:World)(hx:x<4294967296)(hy:y<4294967296)(hc:c≤1):
  yC 106 #[.int .u32 x,.int .u32 y,.int .u32 c] w fun e w'=>e= .returned (.tuple #[.int .u32 ((x+y+c) % 4294967296:Nat),.int .u32 ((x+y+c)/4294967296:Nat)])∧w'=w:=by
 go_enter func106,ntmps106
 go_wp2
 go_ret2
 exact⟨by go_num,rfl⟩
def Qv (xs ys ps:List Nat)(k c:Nat):Prop:=
 ps.length=xs.length+1∧Dg.Small 4294967296 ps∧c≤1∧Dg.vl 4294967296 (ps.take k)+4294967296^k*c=Dg.vl 4294967296 (xs.take k)+Dg.vl 4294967296 (ys.take k)
theorem sQ (l:List Nat)(k x:Nat)(h:k<l.length):Dg.vl 4294967296 ((l.set k x).take (k+1))=Dg.vl 4294967296 (l.take k)+4294967296^k*x:=by
 rw[Dg.vl_take_succ _ _ _ (by simpa using h),Dg.getD_set _ _ _ _ h,if_pos rfl,List.take_set_of_le (Nat.le_refl _)]
theorem pO (l:List Nat)(k:Nat):Dg.vl 4294967296 (l.take (k+1))=Dg.vl 4294967296 (l.take k)+4294967296^k*l.getD k 0:=by
 by_cases h:k<l.length
 ·exact Dg.vl_take_succ _ _ _ h
 ·rw[List.take_of_length_le (by omega),List.take_of_length_le (by omega),Dg.getD_of_le _ _ (by omega)];omega
theorem zq {xs ys ps:List Nat}{k c x y:Nat}(h:Qv xs ys ps k c)(hk:k<xs.length)(hx:xs.getD k 0=x)(hy:ys.getD k 0=y)(hxl:x<4294967296)(hyl:y<4294967296):
  Qv xs ys (ps.set k ((x+y+c) % 4294967296)) (k+1) ((x+y+c)/4294967296):=by
 obtain⟨h1,h2,h3,h4⟩:=h;refine⟨by simpa using h1,Dg.small_set h2 _ _ (Nat.mod_lt _ (by omega)),by omega, ?_⟩;rw[sQ _ _ _ (by omega),pO xs,pO ys,hx,hy];have e:4294967296^ (k+1)*((x+y+c)/4294967296)=4294967296^k*(4294967296*((x+y+c)/4294967296)):=by rw[Nat.pow_succ,Nat.mul_assoc]
 have e2:4294967296^k*(x+y+c)=4294967296^k*((x+y+c) % 4294967296)+4294967296^k*(4294967296*((x+y+c)/4294967296)):=by
  rw[←Nat.mul_add,Nat.mod_add_div]
 have e3:4294967296^k*(x+y+c)=4294967296^k*x+4294967296^k*y+4294967296^k*c:=by rw[Nat.mul_add,Nat.mul_add]
 rw[e];omega
theorem Nc {xs ys ps:List Nat}{c:Nat}(h:Qv xs ys ps xs.length c)(hl:ys.length≤xs.length):(ps.set xs.length c).length=xs.length+1∧Dg.Small 4294967296 (ps.set xs.length c)∧Dg.vl 4294967296 (ps.set xs.length c)=Dg.vl 4294967296 xs+Dg.vl 4294967296 ys:=by
 obtain⟨h1,h2,h3,h4⟩:=h;refine⟨by simpa using h1,Dg.small_set h2 _ _ (by omega), ?_⟩;have:=sQ ps xs.length c (by omega);rw[List.take_of_length_le (by simp;omega)] at this;rw[this];rw[List.take_of_length_le (Nat.le_refl xs.length),List.take_of_length_le hl] at h4;omega
def QA (xs ys ps:List Nat)(k c:Nat):Prop:=
 ps.length=k∧Dg.Small 65536 ps∧c≤1∧Dg.vl 65536 (xs.take k)+65536^k*c=Dg.vl 65536 ps+Dg.vl 65536 (ys.take k)
theorem Nl {xs ys ps:List Nat}{c:Nat}(h:QA xs ys ps xs.length c)(hl:ys.length≤xs.length)(hv:Dg.vl 65536 ys≤Dg.vl 65536 xs):Dg.vl 65536 ps=Dg.vl 65536 xs-Dg.vl 65536 ys:=by
 obtain⟨h1,h2,h3,h4⟩:=h;rw[List.take_of_length_le (Nat.le_refl xs.length),List.take_of_length_le hl] at h4;have hlt:=Dg.vl_lt 65536 ps h2;rw[h1] at hlt;have hc:c=0:=by
  rcases Nat.eq_zero_or_pos c with e|e
  ·exact e
  ·have:c=1:=by omega
   subst this;omega
 subst hc;omega
theorem IL (B:Nat)(b:Nat)(hb:B=2^b)(h1:1<B)(zs:List Nat)(hs:Dg.Small B zs)(hn:Dg.Norm zs)(hne:zs≠[]):bitLen (Dg.vl B zs)=b*(zs.length-1)+bitLen (zs.getD (zs.length-1) 0):=by
 have hl:0<zs.length:=List.length_pos_iff.2 hne;have hsp:=Dg.vl_split B zs (zs.length-1) (by omega);rw[show zs.length-1+1=zs.length from by omega,List.drop_of_length_le (Nat.le_refl _)] at hsp
 simp only[Dg.vl,Nat.mul_zero,Nat.add_zero] at hsp;have hlt:=Dg.vl_lt B (zs.take (zs.length-1)) (Dg.small_take hs _ (by omega));rw[List.length_take,Nat.min_eq_left (by omega)] at hlt;have hpw:B^ (zs.length-1)=2^ (b*(zs.length-1)):=by rw[hb,Nat.pow_mul]
 have hdiv:Dg.vl B zs/2^ (b*(zs.length-1))=zs.getD (zs.length-1) 0:=by
  rw[←hpw,hsp,Nat.add_comm,Nat.mul_add_div (Nat.pow_pos (by omega)),Nat.div_eq_of_lt hlt,Nat.add_zero]
 have hnz:=hn hne;rw[bitLen_shift _ (b*(zs.length-1)) (by rw[hdiv];exact hnz),hdiv]
def KM (xs ups:List Nat)(wh P k:Nat):Prop:=
 ups.length=xs.length+wh+1∧Dg.Small 4294967296 ups∧(∀j,wh+k<j→ups.getD j 0=0)∧ups.getD (wh+k) 0<P∧Dg.vl 4294967296 ups=4294967296^wh*(Dg.vl 4294967296 (xs.take k)*P)
theorem Nz (xs:List Nat)(wh P:Nat)(hP:0<P):KM xs (List.replicate (xs.length+wh+1) 0) wh P 0:=by
 have hz: ∀j,(List.replicate (xs.length+wh+1) 0).getD j 0=0:=fun j=>by
  by_cases h:j<xs.length+wh+1<;>simp[List.getD_eq_getElem?_getD,h]
 exact⟨by simp,Dg.small_replicate _ _ (by omega),fun j _=>hz j,by rw[hz];exact hP,by simp[Dg.vl_replicate_zero,Dg.vl]⟩
theorem QJ {xs ups:List Nat}{wh P k x:Nat}(h:KM xs ups wh P k)(hk:k<xs.length)(hx:xs.getD k 0=x)(hxl:x<4294967296)(hPQ: ∃Q,P*Q=4294967296)(hP:0<P):
  KM xs ((ups.set (wh+k) (ups.getD (wh+k) 0+x*P % 4294967296)).set (wh+k+1) (x*P/4294967296)) wh P (k+1):=by
 obtain⟨h1,h2,h3,h4,h5⟩:=h;obtain⟨Q,hQ⟩:=hPQ;have hdv:x*P/4294967296<P:=by
  rw[Nat.div_lt_iff_lt_mul (by omega),Nat.mul_comm P];exact Nat.mul_lt_mul_of_pos_right hxl hP
 have hP32:P≤4294967296:=by
  rw[←hQ];exact Nat.le_mul_of_pos_right _ (by
   rcases Nat.eq_zero_or_pos Q with e|e
   ·subst e;simp at hQ
   ·exact e)
 have hmod:x*P % 4294967296+P≤4294967296:=by
  have e:x*P % 4294967296=P*(x % Q):=by rw[←hQ,Nat.mul_comm x P,Nat.mul_mod_mul_left]
  have hQ0:0<Q:=by
   rcases Nat.eq_zero_or_pos Q with e|e
   ·subst e;simp at hQ
   ·exact e
  have e2:P*(x % Q+1)≤P*Q:=Nat.mul_le_mul_left _ (Nat.mod_lt _ hQ0);rw[Nat.mul_add,Nat.mul_one] at e2;rw[e];omega
 have hl:wh+k<ups.length:=by omega
 have hl2:wh+k+1< (ups.set (wh+k) (ups.getD (wh+k) 0+x*P % 4294967296)).length:=by simp;omega
 refine⟨by simpa using h1,Dg.small_set (Dg.small_set h2 _ _ (by omega)) _ _ (by omega),fun j hj=> ?_, ?_, ?_⟩
 ·rw[Dg.getD_set _ _ _ _ hl2,if_neg (by omega),Dg.getD_set _ _ _ _ hl,if_neg (by omega)];exact h3 j (by omega)
 ·rw[show wh+(k+1)=wh+k+1 from by omega,Dg.getD_set _ _ _ _ hl2,if_pos rfl];exact hdv
 ·have s1:=Dg.vl_set 4294967296 ups (wh+k) (ups.getD (wh+k) 0+x*P % 4294967296) hl
  have s2:=Dg.vl_set 4294967296 (ups.set (wh+k) (ups.getD (wh+k) 0+x*P % 4294967296)) (wh+k+1) (x*P/4294967296) hl2;have z1:=h3 (wh+k+1) (by omega);have z2:(ups.set (wh+k) (ups.getD (wh+k) 0+x*P % 4294967296)).getD (wh+k+1) 0=0:=by rw[Dg.getD_set _ _ _ _ hl,if_neg (by omega)];exact z1
  rw[z2] at s2;rw[Dg.vl_take_succ _ _ _ hk,hx,Nat.add_mul,Nat.mul_add,←h5];have e1:4294967296^ (wh+k+1)*(x*P/4294967296)=4294967296^ (wh+k)*(4294967296*(x*P/4294967296)):=by rw[Nat.pow_succ,Nat.mul_assoc]
  have e2:4294967296^wh*(4294967296^k*x*P)=4294967296^ (wh+k)*(x*P):=by rw[Nat.pow_add,Nat.mul_assoc,Nat.mul_assoc]
  have e3:4294967296^ (wh+k)*(x*P)=4294967296^ (wh+k)*(x*P % 4294967296)+4294967296^ (wh+k)*(4294967296*(x*P/4294967296)):=by
   rw[←Nat.mul_add,Nat.mod_add_div]
  rw[Nat.mul_add] at s1;rw[e2,e3];rw[e1] at s2;omega
def Sv (xs ys ps:List Nat)(i:Nat):Prop:=
 ps.length=xs.length+ys.length∧Dg.Small 65536 ps∧(∀j,i+ys.length≤j→ps.getD j 0=0)∧Dg.vl 65536 ps=Dg.vl 65536 (xs.take i)*Dg.vl 65536 ys
def M5 (xs ys ps:List Nat)(i k c:Nat):Prop:=
 ps.length=xs.length+ys.length∧Dg.Small 65536 ps∧c<65536∧(∀j,i+ys.length+1≤j→ps.getD j 0=0)∧(k≤ys.length→ps.getD (i+ys.length) 0=0)∧(ys.length<k→c=0)∧k≤ys.length+1∧
  Dg.vl 65536 ps+65536^ (i+k)*c=Dg.vl 65536 (xs.take i)*Dg.vl 65536 ys+65536^i*(xs.getD i 0*Dg.vl 65536 (ys.take k))
theorem M6 (xs ys:List Nat):Sv xs ys (List.replicate (xs.length+ys.length) 0) 0:=by
 refine⟨by simp,Dg.small_replicate _ _ (by omega),fun j _=> ?_, ?_⟩
 ·by_cases h:j<xs.length+ys.length<;>simp[List.getD_eq_getElem?_getD,h]
 ·simp[Dg.vl_replicate_zero,Dg.vl]
theorem M7 {xs ys ps:List Nat}{i:Nat}(h:Sv xs ys ps i):M5 xs ys ps i 0 0:=
 ⟨h.1,h.2.1,by omega,fun j hj=>h.2.2.1 j (by omega),fun _=>h.2.2.1 _ (by omega),fun _=>rfl,by omega,by rw[h.2.2.2];simp[Dg.vl]⟩
theorem Qk {xs ys ps:List Nat}{i k c:Nat}(h:M5 xs ys ps i k c)(hi:i<xs.length)(hk: ¬(k<ys.length∨0<c)):Sv xs ys ps (i+1):=by
 obtain⟨h1,h2,h3,h4,h5,h6,h7,h8⟩:=h;have hc:c=0:=by omega
 subst hc;refine⟨h1,h2,fun j hj=>h4 j (by omega), ?_⟩
 rw[Dg.vl_take_succ _ _ _ hi,Nat.add_mul,Nat.mul_assoc];have e:ys.take k=ys:=List.take_of_length_le (by omega);rw[e] at h8;omega
theorem C6 (wh pt:Nat)(hpt:pt<16):(List.replicate (wh+1) 0).set wh (2^pt)=Dg.dg 65536 (2^ (16*wh+pt)):=by
 have hp:2^pt<65536:=by
  have:2^pt≤2^15:=Nat.pow_le_pow_right (by omega) (by omega);omega
 have hp0:0<2^pt:=Nat.pow_pos (by omega);refine Dg.eq_dg 65536 (by omega) _ _ (Dg.small_set (Dg.small_replicate _ _ (by omega)) _ _ hp) (fun _=> ?_) ?_
 ·simp only[List.length_set,List.length_replicate,Nat.add_sub_cancel]
  rw[Dg.getD_set _ _ _ _ (by simp),if_pos rfl];omega
 ·have:=Dg.vl_set 65536 (List.replicate (wh+1) 0) wh (2^pt) (by simp)
  have hz:(List.replicate (wh+1) 0).getD wh 0=0:=by simp[List.getD_eq_getElem?_getD]
  rw[hz,Dg.vl_replicate_zero] at this;rw[Nat.pow_add,Nat.pow_mul,show(2:Nat)^16=65536 from by decide]
  omega
theorem Vp (x k idx:Nat)(w:World)(hx0:((x:Int)==0)=false)
  (key:bits BinOp.and IntKind.u32 x (-(x:Int) % 4294967296)*125613361 % 4294967296/134217728=(idx:Int))
  (hi:idx<32) (hk:k<32) (hcell:w.cell? ⟨1,idx,none⟩=some (.int .u8 k)):
  yC 158 #[.int .u32 x] w fun e w'=>e= .returned (yi k)∧w'=w:=by
 go_enter func158,ntmps158
 go_wp2_with (simp only[key])
 go_ret
 exact⟨rfl,rfl⟩
theorem Own.apart {w w':World}{base e b:Nat}{k:IntKind}{v:Value}{zs:List Nat}(h:Own w base e k v zs)(hg:w.grownBy w' (some b))(hb:b<base):Own w' base e k v zs:=by
 obtain⟨hl,h2⟩:=h;refine⟨hl, ?_⟩
 rcases h2 with h2| ⟨g',cap',cur,hv,hbg,hh,r⟩
 ·exact .inl h2
 ·refine .inr ⟨g',cap',cur,hv,hbg, ?_,r⟩
  have hlt:g'<w.heap.size:=by
   rw[Array.getElem?_eq_some_iff] at hh;exact hh.1
  rw[hg.block g' hlt (by intro e;cases e;omega)]
  exact hh
theorem cN (b:Bool)(ao:Option Addr)(n ca:Nat)(e:Int)(w:World):yC 138 #[ydV b (.slice ao n ca) e] w (yR w (.slice ao n ca)):=by
 have b1:yB w (w.alloc (.cells (ydA b (.slice ao n ca) e) 187)):=(Below.refl _ _).alloc (Nat.le_refl _) _
 go_enter func138,ntmps138
 go_wp2
 go_ret
 exact⟨rfl,b1⟩
theorem cD (a:Addr)(W:World)(g:Fn):(store a (Value.func g #[] #[])).run Tryz.prog W=stored Tryz.prog W a (Value.func g #[] #[]) .plain:=run_store _ W a _ _ rfl
def SX (R cur ys:List Nat)(i t k c b:Nat):Prop:=
 cur.length=R.length∧Dg.Small 4294967296 cur∧c<4294967296∧b≤1∧(∀j,i+k≤j→cur.getD j 0=R.getD j 0)∧Dg.vl 4294967296 cur+4294967296^i*(Dg.vl 4294967296 (ys.take k)*t)=Dg.vl 4294967296 R+4294967296^ (i+k)*(b+c)
def acc (R cur ys:List Nat)(i t b:Nat):Prop:=
 cur.length=R.length∧Dg.Small 4294967296 cur∧(∀j,i+ys.length<j→cur.getD j 0=R.getD j 0)∧b≤1∧Dg.vl 4294967296 cur+4294967296^i*(Dg.vl 4294967296 ys*t)=Dg.vl 4294967296 R+4294967296^ (i+ys.length+1)*b
def Sp (R cur ys:List Nat)(i k c:Nat):Prop:=
 cur.length=R.length∧Dg.Small 4294967296 cur∧c≤1∧(∀j,i+k≤j→cur.getD j 0=R.getD j 0)∧Dg.vl 4294967296 cur+4294967296^ (i+k)*c=Dg.vl 4294967296 R+4294967296^i*Dg.vl 4294967296 (ys.take k)
def Py (R cur ys:List Nat)(i o:Nat):Prop:=
 cur.length=R.length∧Dg.Small 4294967296 cur∧(∀j,i+ys.length<j→cur.getD j 0=R.getD j 0)∧o≤1∧Dg.vl 4294967296 cur+4294967296^ (i+ys.length+1)*o=Dg.vl 4294967296 R+4294967296^i*Dg.vl 4294967296 ys
theorem TW {R cur ys:List Nat}{i c p:Nat}(h:Sp R cur ys i ys.length c)(hl:i+ys.length<R.length)(hp:R.getD (i+ys.length) 0=p)(hpl:p<4294967296):
  Py R (cur.set (i+ys.length) ((p+c) % 4294967296)) ys i ((p+c)/4294967296):=by
 obtain⟨h1,h2,h3,h5,h6⟩:=h;refine⟨by simpa using h1,Dg.small_set h2 _ _ (Nat.mod_lt _ (by omega)),fun j hj=> ?_,by omega, ?_⟩
 ·rw[Dg.getD_set _ _ _ _ (by omega),if_neg (by omega)];exact h5 j (by omega)
 ·have hs:=Dg.vl_set 4294967296 cur (i+ys.length) ((p+c) % 4294967296) (by omega)
  rw[h5 _ (Nat.le_refl _),hp] at hs;rw[List.take_of_length_le (Nat.le_refl _)] at h6;generalize hT:p+c=T at*;have e2:4294967296^ (i+ys.length+1)*(T/4294967296)=4294967296^ (i+ys.length)*(4294967296*(T/4294967296)):=by rw[Nat.pow_succ,Nat.mul_assoc]
  have e3:4294967296^ (i+ys.length)*T=4294967296^ (i+ys.length)*(T % 4294967296)+4294967296^ (i+ys.length)*(4294967296*(T/4294967296)):=by rw[←Nat.mul_add,Nat.mod_add_div]
  have e4:4294967296^ (i+ys.length)*T=4294967296^ (i+ys.length)*p+4294967296^ (i+ys.length)*c:=by rw[←hT,Nat.mul_add]
  rw[e2];omega
theorem CG (B:Nat)(l:List Nat)(j:Nat)(hB:0<B)(hs:Dg.Small B l):l.getD j 0=Dg.vl B l/B^j % B:=by
 by_cases h:j<l.length
 ·have h1:=Dg.vl_split B l j h
  have h2:=Dg.vl_lt B (l.take j) (Dg.small_take hs j hB);rw[List.length_take,Nat.min_eq_left (by omega)] at h2;rw[h1,Nat.add_mul_div_left _ _ (Nat.pow_pos hB),Nat.div_eq_of_lt h2,Nat.zero_add,Nat.add_mul_mod_self_left];exact(Nat.mod_eq_of_lt (hs j)).symm
 ·rw[Dg.getD_of_le l j (by omega)]
  have h2:=Dg.vl_lt B l hs;have h3:B^l.length≤B^j:=Nat.pow_le_pow_right hB (by omega);rw[Nat.div_eq_of_lt (by omega),Nat.zero_mod]
theorem Dk (B:Nat)(l:List Nat)(m:Nat)(hB:0<B)(hs:Dg.Small B l)(hz: ∀j,m≤j→l.getD j 0=0):Dg.vl B l<B^m:=by
 by_cases h:m≤l.length
 ·rw[Dg.vl_take_drop B l m h]
  have h1:Dg.vl B (l.drop m)=0:=Dg.vl_zeros B _ (fun i=>by
   have:=hz (m+i) (by omega)
   simpa[List.getD_eq_getElem?_getD,List.getElem?_drop] using this)
  have h2:=Dg.vl_lt B (l.take m) (Dg.small_take hs m hB);rw[List.length_take,Nat.min_eq_left h] at h2;rw[h1,Nat.mul_zero,Nat.add_zero];exact h2
 ·have h2:=Dg.vl_lt B l hs
  have h3:B^l.length≤B^m:=Nat.pow_le_pow_right hB (by omega);omega
theorem NB (B:Nat)(l:List Nat)(m:Nat)(hB:0<B)(hs:Dg.Small B l)(h:Dg.vl B l<B^m)(j:Nat)(hj:m≤j):l.getD j 0=0:=by
 rw[CG B l j hB hs];have h3:B^m≤B^j:=Nat.pow_le_pow_right hB hj;rw[Nat.div_eq_of_lt (by omega),Nat.zero_mod]
theorem Own.other {w w':World}{base e:Nat}{k:IntKind}{b g n cap:Nat}{zs:List Nat}(h:Own w base e k (.slice (some ⟨b,0,none⟩) n cap) zs)(hg:w.grownBy w' (some g))(hne:b≠g):Own w' base e k (.slice (some ⟨b,0,none⟩) n cap) zs:=by
 have hb:=h.block;obtain⟨hl,h2⟩:=h;refine⟨hl, ?_⟩
 rcases h2 with h2| ⟨g',cap',cur,hv,hbg,hh,r⟩
 ·exact .inl h2
 ·refine .inr ⟨g',cap',cur,hv,hbg, ?_,r⟩
  simp at hv;rw[hg.block g' (by omega) (by intro e;cases e;omega)]
  exact hh
theorem Own.form {w:World}{base e:Nat}{k:IntKind}{v:Value}{zs:List Nat}(h:Own w base e k v zs)(hp:0<zs.length): ∃g cap,v= .slice (some ⟨g,0,none⟩) zs.length cap∧base≤g∧g<w.heap.size∧zs.length≤cap:=by
 have h0:=h;obtain⟨hl,h2⟩:=h
 rcases h2 with⟨_,h2⟩| ⟨g',cap',cur,rfl,hbg,hh,r⟩
 ·omega
 ·exact⟨g',cap',rfl,hbg,h0.block.2,r.1⟩
theorem V8 (n D:Nat)(hn:1≤n)(h1:4294967296^ (n-1)≤D)(h2:D<4294967296^n):(Dg.dg 4294967296 D).length=n:=by
 have a:=Dg.dg_len_le 4294967296 D n (by omega) h2;have b:=Dg.vl_lt 4294967296 _ (Dg.small_dg 4294967296 D (by omega));rw[Dg.vl_dg 4294967296 D (by omega)] at b;have c:n-1< (Dg.dg 4294967296 D).length:=by
  rcases Nat.lt_or_ge (n-1) (Dg.dg 4294967296 D).length with e|e
  ·exact e
  ·have:=Nat.pow_le_pow_right (n:=4294967296) (by omega) e
   omega
 omega
theorem RI (X na s:Nat)(h:X<4294967296^na)(hs:s<32):(Dg.dg 4294967296 (X*2^s)).length≤na+1:=by
 apply Dg.dg_len_le 4294967296 _ _ (by omega);have h1:2^s≤4294967296:=by have:2^s≤2^32:=Nat.pow_le_pow_right (by omega) (by omega);omega
 rw[Nat.pow_succ];have h2:X*2^s<4294967296^na*2^s:=Nat.mul_lt_mul_of_pos_right h (Nat.pow_pos (by omega));have h3:4294967296^na*2^s≤4294967296^na*4294967296:=Nat.mul_le_mul_left _ h1;omega
def Jm (A D M:Nat)(R os:List Nat)(N k:Nat):Prop:=
 R.length=N∧os.length=M∧Dg.Small 4294967296 R∧Dg.Small 4294967296 os∧(∀j,j<k→os.getD j 0=0)∧D*Dg.vl 4294967296 os+Dg.vl 4294967296 R=A∧Dg.vl 4294967296 R<D*4294967296^k
def ae2 (w:World)(A D M N gr go gb cb:Nat)(bs:List Nat)(iv:Value)(wr:World):Prop:=
 ∃(k:Nat) (R os:List Nat),k≤M∧iv=yi ((k:Int)-1)∧Jm A D M R os N k∧Own wr w.heap.size 135 .u32 (.slice (some ⟨gr,0,none⟩) N N) R∧Own wr w.heap.size 135 .u32 (.slice (some ⟨go,0,none⟩) M M) os∧
  Own wr w.heap.size 135 .u32 (.slice (some ⟨gb,0,none⟩) bs.length cb) bs∧yB w wr
def Two (w:World)(q r:Nat)(e:Ending)(w':World):Prop:=
 ∃v1 v2,e= .returned (.tuple #[v1,v2])∧Own w' w.heap.size 135 .u32 v1 (Dg.dg 4294967296 q)∧Own w' w.heap.size 135 .u32 v2 (Dg.dg 4294967296 r)∧yB w w'
theorem Iv {A D M N i q:Nat}{R os cur:List Nat}(h:Jm A D M R os N (i+1))(hi:i<M)(hq:q<4294967296)(hl:cur.length=R.length)(sc:Dg.Small 4294967296 cur)
  (hv:Dg.vl 4294967296 cur+4294967296^i*(D*q)=Dg.vl 4294967296 R) (hlt:Dg.vl 4294967296 cur<D*4294967296^i):Jm A D M cur (os.set i q) N i:=by
 obtain⟨h1,h2,h3,h4,h5,h6,h7⟩:=h;refine⟨by omega,by simpa using h2,sc,Dg.small_set h4 _ _ hq,fun j hj=> ?_, ?_,hlt⟩
 ·rw[Dg.getD_set _ _ _ _ (by omega),if_neg (by omega)];exact h5 j (by omega)
 ·have hs:=Dg.vl_set 4294967296 os i q (by omega)
  rw[h5 i (by omega),Nat.mul_zero,Nat.add_zero] at hs;rw[hs,Nat.mul_add,←h6,←hv];have e:D*(4294967296^i*q)=4294967296^i*(D*q):=by rw[←Nat.mul_assoc,←Nat.mul_assoc,Nat.mul_comm D]
  rw[e];omega
theorem acV (l:List Nat)(n:Nat):Dg.vl 4294967296 (l++List.replicate n 0)=Dg.vl 4294967296 l:=by
 rw[Dg.vl_append,Dg.vl_zeros 4294967296 (List.replicate n 0) (fun i=>by
  by_cases h:i<n
  ·simp[List.getD_eq_getElem?_getD,h]
  ·simp[List.getD_eq_getElem?_getD,h]),Nat.mul_zero,Nat.add_zero]
theorem TM {l m:List Nat}(h:Dg.Small 4294967296 l)(k:Dg.Small 4294967296 m):Dg.Small 4294967296 (l++m):=by
 intro i
 by_cases hi:i<l.length
 ·have:=h i
  simpa[List.getD_eq_getElem?_getD,List.getElem?_append_left hi] using this
 ·have:=k (i-l.length)
  simpa[List.getD_eq_getElem?_getD,List.getElem?_append_right (Nat.le_of_not_lt hi)] using this
theorem CV (n:Nat):Dg.Small 4294967296 (List.replicate n 0):=by
 intro i
 by_cases h:i<n
 ·simp[List.getD_eq_getElem?_getD,h]
 ·simp[List.getD_eq_getElem?_getD,h]
theorem Xs {X Y s M N:Nat}{R os:List Nat}(hY:0<Y)(h:Jm (X*2^s) (Y*2^s) M R os N 0):Dg.vl 4294967296 os=X/Y∧Dg.vl 4294967296 R/2^s=X % Y:=by
 obtain⟨-,-,-,-,-,h6,h7⟩:=h;rw[Nat.pow_zero,Nat.mul_one] at h7;have hp:0<2^s:=Nat.pow_pos (by omega);have hD:0<Y*2^s:=Nat.mul_pos hY hp;have e1:X*2^s/(Y*2^s)=Dg.vl 4294967296 os:=by
  rw[←h6,Nat.mul_add_div hD,Nat.div_eq_of_lt h7,Nat.add_zero]
 have e2:X*2^s % (Y*2^s)=Dg.vl 4294967296 R:=by
  rw[←h6,Nat.mul_add_mod,Nat.mod_eq_of_lt h7]
 rw[Nat.mul_div_mul_right _ _ hp] at e1;rw[Nat.mul_mod_mul_right] at e2;refine⟨e1.symm, ?_⟩;rw[←e2,Nat.mul_div_cancel _ hp]
theorem zf (w:World)(base e d:Nat)(hb:base≤w.heap.size):Own (w.alloc (.cells #[.int .u32 d] e)) base e .u32 (.slice (some ⟨w.heap.size,0,none⟩) 1 1) [d]:=
 World.ownsRow_lit (e:=e) (size:=1) (base:=base) w #[.int .u32 d] 1 hb (by unfold maxLen;omega) rfl
def WH (w:World)(q r d:Nat)(e:Ending)(w':World):Prop:=
 ∃v1 v2 v3,e= .returned (.tuple #[v1,v2,v3])∧Own w' w.heap.size 135 .u32 v1 (Dg.dg 4294967296 q)∧Own w' w.heap.size 135 .u32 v2 (Dg.dg 4294967296 r)∧Rd w' .u32 v3 (Dg.dg 4294967296 d)∧yB w w'
theorem Eg (n k L j:Nat)(h:(Dg.dg 4294967296 n).length≤L)(hk:k≤32*j):(Dg.dg 4294967296 (n*2^k)).length≤L+j:=by
 apply Dg.dg_len_le 4294967296 _ _ (by omega);have h1:=Dg.vl_lt 4294967296 (Dg.dg 4294967296 n) (Dg.small_dg _ _ (by omega));rw[Dg.vl_dg _ _ (by omega)] at h1;have h2:4294967296^ (Dg.dg 4294967296 n).length≤4294967296^L:=Nat.pow_le_pow_right (by omega) h;have h3:2^k≤4294967296^j:=by
  rw[show(4294967296:Nat)=2^32 from rfl,←Nat.pow_mul]
  exact Nat.pow_le_pow_right (by omega) hk
 rw[Nat.pow_add];exact Nat.lt_of_lt_of_le (Nat.mul_lt_mul_of_pos_right (Nat.lt_of_lt_of_le h1 h2) (Nat.pow_pos (by omega))) (Nat.mul_le_mul_left _ h3)
theorem wV (r:Nat):(((Dg.dg 4294967296 r).length:Int)==0)=decide (r=0):=by
 have h:=Dg.dg_nil_iff 4294967296 r (by omega)
 by_cases h0:r=0
 ·rw[h.2 h0]
  simp[h0]
 ·have e:(((Dg.dg 4294967296 r).length:Int)==0)=false:=by
   simp;exact fun e=>h0 (h.1 e)
  rw[e];simp[h0]
def D7 (w:World)(h:Bool)(d:Nat)(k:Int)(e:Ending)(w':World):Prop:=
 ∃u,e= .returned (.tuple #[.agg #[u,yi k],.bool h])∧Own w' w.heap.size 135 .u32 u (Dg.dg 4294967296 d)∧yB w w'
theorem G0 (b:Bool)(x:Option Addr)(y z:Nat)(e:Int)(W:World):(Instr.field 187 (ydV b (.slice x y z) e) 0).run Tryz.prog W= .ok (ydV b (.slice x y z) e) W:=by kernel_rfl
theorem Ju (b:Bool)(x:Option Addr)(y z:Nat)(e:Int)(W:World):(Instr.field 76 (ydV b (.slice x y z) e) 2).run Tryz.prog W= .ok (yi e) W:=by kernel_rfl
def X9 (xs cur:List Nat)(d k r:Nat):Prop:=
 cur.length=xs.length∧Dg.Small 65536 cur∧r<d∧Dg.vl 65536 (xs.drop k)=Dg.vl 65536 (cur.drop k)*d+r
theorem Cv (d:Nat)(h:d<65536):Dg.dg 65536 d=if d=0 then[] else[d]:=by
 by_cases e:d=0
 ·subst e;rfl
 ·rw[if_neg e]
  exact(Dg.eq_dg 65536 (by omega) [d] d (Dg.small_cons.2 ⟨h,Dg.small_nil _ (by omega)⟩) (by intro _;simpa using e) (by simp[Dg.vl])).symm
theorem abW (B:Nat)(l:List Nat):Dg.vl B l=l.getD 0 0+B*Dg.vl B (l.drop 1):=by
 cases l with
 |nil=>simp[Dg.vl]
 |cons d l=>simp[Dg.vl]
theorem BH (B:Nat)(l:List Nat)(k:Nat):Dg.vl B l=Dg.vl B (l.take k)+B^k*Dg.vl B (l.drop k):=by
 by_cases h:k≤l.length
 ·exact Dg.vl_take_drop B l k h
 ·rw[List.take_of_length_le (by omega),List.drop_of_length_le (by omega)]
  simp[Dg.vl]
def BI (xs cur:List Nat)(b k R:Nat):Prop:=
 cur.length=xs.length∧Dg.Small 65536 cur∧(∀j,j<k→cur.getD j 0=0)∧R<b∧Dg.vl 65536 (xs.drop k)=Dg.vl 65536 (cur.drop k)*b+R
theorem NF (xs:List Nat)(b:Nat)(hb:0<b):BI xs (List.replicate xs.length 0) b xs.length 0:=by
 refine⟨by simp,Dg.small_replicate _ _ (by omega),fun j hj=>by simp[List.getD_eq_getElem?_getD,hj],hb, ?_⟩
 simp[Dg.vl]
theorem Vo {xs cur:List Nat}{b R:Nat}(h:BI xs cur b 0 R):Dg.vl 65536 xs/b=Dg.vl 65536 cur∧Dg.vl 65536 xs % b=R:=by
 obtain⟨h1,h2,h3,h4,h5⟩:=h;simp only[List.drop_zero] at h5;rw[h5,Nat.mul_comm];exact⟨by rw[Nat.mul_add_div (by omega),Nat.div_eq_of_lt h4];omega,by rw[Nat.mul_add_mod,Nat.mod_eq_of_lt h4]⟩
def aeu (w:World)(xs:List Nat)(b k R:Nat)(cur:List Nat)(rv:Value)(wr:World):Prop:=
 Own wr w.heap.size 3 .i64 (.slice (some ⟨w.heap.size,0,none⟩) xs.length xs.length) cur∧Rd wr .i64 rv (Dg.dg 65536 R)∧BI xs cur b k R∧yB w wr
def aev (W5:World)(g1 n1 Q:Nat)(rv dv:Value)(wq:World):Prop:=
 rv= .slice (some ⟨g1,0,none⟩) n1 n1∧ ∃d:Nat,Q≤d∧d≤65535∧dv=yi d∧yB W5 wq
theorem aaD (w:World)(base e d:Nat)(hb:base≤w.heap.size):Own (w.alloc (.cells #[yi d] e)) base e .i64 (.slice (some ⟨w.heap.size,0,none⟩) 1 1) [d]:=
 World.ownsRow_lit (e:=e) (size:=1) (base:=base) w #[yi d] 1 hb (by unfold maxLen;omega) rfl
theorem Wo {w:World}{k:IntKind}{g n c:Nat}{zs:List Nat}(h:Rd w k (.slice (some ⟨g,0,none⟩) n c) zs)(i:Nat)(hi:i<zs.length):w.cell? ⟨g,i,none⟩=some (.int k ((zs.getD i 0:Nat):Int)):=by
 have hn:=wn h;subst hn;obtain⟨_,_,h3⟩:=iQ h;obtain⟨b,off,e,hc⟩:=h3 (by omega)
 cases e
 have:=hc i hi
 rwa [Nat.zero_add] at this
def JI (w:World)(q r:Nat)(e:Ending)(w':World):Prop:=
 ∃vq vr,e= .returned (.tuple #[vq,vr])∧Rd w' .i64 vq (Dg.dg 65536 q)∧Rd w' .i64 vr (Dg.dg 65536 r)∧yB w w'
def Rp (w:World)(q r d:Nat)(e:Ending)(w':World):Prop:=
 ∃v1 v2 v3,e= .returned (.tuple #[v1,v2,v3])∧Rd w' .i64 v1 (Dg.dg 65536 q)∧Rd w' .i64 v2 (Dg.dg 65536 r)∧Rd w' .i64 v3 (Dg.dg 65536 d)∧yB w w'
theorem drop_vl65 (ds:List Nat)(i:Nat)(h:i<ds.length):Dg.vl 65536 (ds.drop i)=ds.getD i 0+65536*Dg.vl 65536 (ds.drop (i+1))∧Dg.vl 65536 (ds.drop i)≤Dg.vl 65536 ds:=by
 refine⟨?_, ?_⟩
 ·rw[List.drop_eq_getElem_cons h]
  show ds[i]+_=_
  rw[List.getD_eq_getElem?_getD,List.getElem?_eq_getElem h];rfl
 ·have e:=Dg.vl_append 65536 (ds.take i) (ds.drop i)
  rw[List.take_append_drop] at e;rw[e];refine Nat.le_trans ?_ (Nat.le_add_left _ _);exact Nat.le_mul_of_pos_left _ (Nat.pow_pos (by omega))
end Go.Proofs.YtddkchlamdhgcaaGreatDoor
