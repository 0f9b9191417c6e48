/-
  Texts laid together: Read2, Roo1, Tx3, Read3, Gh5, Ce11, Ce12, Rk1, Tx11, Tx12, Tx15.
-/
import Derived.Test.YtdhpndnncmagiaaGreatDoorMa08
import Derived.Test.YtdhpndnncmagiaaGreatDoorMa09
import Derived.Test.YtdhpndnncmagiaaGreatDoorMa11
set_option maxRecDepth 100000
set_option maxHeartbeats 3200000
namespace Go.Proofs.YtdhpndnncmagiaaGreatDoor
open _root_.Go.Proofs.Tryz
open Go.RowKit
theorem Xf (va:Value)(m sc mo:Nat)(w0 w:World)(ho:Own w w0.heap.size 116 .u32 va (Dg.dg 4294967296 m))(hb:yB w0 w)(hsc:1≤sc)(hsc2:sc<4294967296)(hmo:mo<4294967296)(hl:(Dg.dg 4294967296 m).length≤1000000):
  yC 183 #[va,.int .u32 sc,.int .u32 mo] w fun e w'=> ∃v',e= .returned v'∧Own w' w0.heap.size 116 .u32 v' (Dg.dg 4294967296 (m*sc+mo))∧yB w0 w':=by
 obtain⟨i0,hi,hz0,hz1,hz2⟩:=info_parts Tryz.infoU32;obtain⟨zs,hzs⟩: ∃zs,Dg.dg 4294967296 m=zs:=⟨_,rfl⟩;have hsm:Dg.Small 4294967296 zs:=by rw[←hzs];exact Dg.small_dg _ _ (by omega)
 rw[hzs] at ho hl;have HZ:Hid _:=hzs.symm;have hen:=fun cur c (h:LI zs cur sc mo zs.length c)=>Xe h hzs.symm hsc (by omega)
 have HEN:Hid _:=hen;clear hzs hen;obtain⟨ao,ca,rfl⟩:=ho.rd.shape
 go_enter func183,ntmps183
 go_wp2
 go_loopw [7,14] (fun cv kv wr=> ∃(k c:Nat) (cur:List Nat),k≤zs.length∧kv=yi k∧cv= .int .u64 c∧Own wr w0.heap.size 116 .u32 (.slice ao zs.length ca) cur∧LI zs cur sc mo k c∧yB w0 wr) (fun _ kv _=>zs.length-(intOf kv).toNat)
 case atStart=>exact⟨0,mo,zs,Nat.zero_le _,rfl,rfl,ho,⟨rfl,hsm,hmo,fun _ _=>rfl,by simp[Dg.vl]⟩,hb⟩
 case round=>
  clear ho hb;obtain⟨k,c,cur,hk,rfl,rfl,own,hI,bel⟩:=hrel;have hcl:=hI.1;have hc32:=hI.2.2.1
  by_cases hlt:k<zs.length
  ·obtain⟨g,cap,hv,hg1,hg2⟩:=own.shapeOf (by intro e;rw[e] at hcl;simp at hcl;omega)
   simp only[Value.slice.injEq] at hv;obtain⟨rfl,-,rfl⟩:=hv;have hx:=own.c k (by omega);have hf:=own.f k;rw[hI.2.2.2.1 k (Nat.le_refl _)] at hx;have hxl:=hsm k;obtain⟨x,ex⟩: ∃x,zs.getD k 0=x:=⟨_,rfl⟩;rw[ex] at hx hxl;have hst:=Tr hI hlt ex hxl hsc2;have hxy:=uf hxl hsc2;have hxyI:(x:Int)*(sc:Int)≤18446744065119617025:=by rw[←Int.natCast_mul];omega
   have hxy0:0≤(x:Int)*(sc:Int):=by rw[←Int.natCast_mul];omega
   clear ex hcl
   go_wp2
   go_roundw
   case rel=>
    rw[Sd,Se];exact⟨k+1,_,_,by omega,by go_num,rfl,own.store k _,hst,bel.setCell hg1 _⟩
   case measure=>simp[intOf];omega
  ·have hke:k=zs.length:=by omega
   subst hke;have hen:=HEN.out cur c hI;have hcur:cur.length≤1000000:=by omega
   have hbs:=bel.size
   by_cases hc0:c=0
   ·subst hc0
    rw[if_pos rfl] at hen;have own2:=own;rw[hen] at own2;clear hen hcl
    go_wp2
    go_ret
    exact⟨_,rfl,own2,bel⟩
   ·rw[if_neg hc0] at hen
    have HE:Hid _:=hen;have hcp:(0:Int)< (c:Int):=by omega
    clear hen hcl
    go_wp2_with (at_builtin;refine wpList_append_own _ rfl _ _ 64 rfl w0.heap.size 116 i0 (.int .u32 0) 1 4 underlying64 hi hz0 hz1 hz2 rfl (by decide) _ _ _ rfl (World.ownsRow.alloc own _) ⟨wr.heap.size,0,none⟩ 1 1 [.int .u32 c] rfl rfl ?c1 ?c2 ?c3 ?c4 ?c5 ?_)
    case c1=>exact cell_one_new _ _ _
    case c2=>intro u hu;simp at hu;subst hu;rfl
    case c3=>unfold maxLen;omega
    case c4=>omega
    case c5=>simp;omega
    intro v' w3 hown' hgrow _;have R:=Ts bel own hown' hgrow;clear hown' hgrow own;rw[HE.out] at R
    go_wp2
    go_ret
    exact⟨_,rfl,R.1,R.2⟩
theorem Iq (va:Value)(n k L:Nat)(w:World)(ha:Rd w .u32 va (Dg.dg 4294967296 n))(hL:n<4294967296^L)(hLk:L*k≤400000)(hLl:L≤400000)(hk:k≤1000000):
  yC 49 #[va,yi k] w (Num w (n^k)):=by
 have HA:Hid (Rd w .u32 va (Dg.dg 4294967296 n)):=ha;have hnl:(Dg.dg 4294967296 n).length≤L:=Dg.dg_len_le 4294967296 n L (by omega) hL;have HL: ∀j,j≤k→(Dg.dg 4294967296 (n^j)).length≤400001:=fun j hj=>by
  have hp:=aaT (j:=j) hL;have hlj:L*j≤L*k:=Nat.mul_le_mul (Nat.le_refl _) hj;omega
 have HT:Hid (∀j v wr,j≤k→yB w wr→Rd wr .u32 v (Dg.dg 4294967296 (n^j))→yC 76 #[v,va] wr (Num wr (n^ (j+1)))):=fun j v wr hj b r=>by
  have:=qC v va _ _ wr r (ha.l b) (Dg.small_dg _ _ (by omega)) (Dg.small_dg _ _ (by omega)) (by have:=HL j hj;omega) (by omega);rw[Dg.vl_dg _ _ (by omega),Dg.vl_dg _ _ (by omega),←Nat.pow_succ] at this;exact this
 have HS:Hid (∀j v wr,j≤k→Rd wr .u32 v (Dg.dg 4294967296 (n^j))→yC 76 #[v,v] wr (Num wr (n^ (j+j)))):=fun j v wr hj r=>by
  have:=qC v v _ _ wr r r (Dg.small_dg _ _ (by omega)) (Dg.small_dg _ _ (by omega)) (by have:=HL j hj;omega) (by have:=HL j hj;omega);rw[Dg.vl_dg _ _ (by omega),←Nat.pow_add] at this;exact this
 have HB:Hid (∀wr,yC 85 #[.int .u64 k] wr fun e w'=>e= .returned (yi (bitLen k:Nat))∧w'=wr):=fun wr=>LZ k wr (by omega)
 have hbl:bitLen k≤20:=bF k 20 (by omega);have hz:k/2^bitLen k=0:=Nat.div_eq_of_lt (bitLen_spec k).1;have o1:=zf w w.heap.size 116 1 (Nat.le_refl _);have b1:yB w (w.alloc (.cells #[.int .u32 ((1:Nat):Int)] 116)):=(Below.refl _ _).alloc (Nat.le_refl _) _;obtain⟨ao,ca,rfl⟩:=ha.shape;obtain⟨ma,hma⟩: ∃m,(Dg.dg 4294967296 n).length=m:=⟨_,rfl⟩;rw[hma] at HT HA⊢;clear ha hma hnl HL;obtain⟨bl,hbe⟩: ∃b,bitLen k=b:=⟨_,rfl⟩;rw[hbe] at HB hbl hz;clear hbe
 go_enter func49,ntmps49
 go_wp2_with fail
 refine(HB.out _).mono ?_;rintro e w' ⟨rfl,rfl⟩
 go_wp2
 have L0:aex w n k bl (.slice (some ⟨w.heap.size,0,none⟩) 1 1) (yi ((bl:Int)-1)) (w.alloc (.cells #[.int .u32 ((1:Nat):Int)] 116)):=⟨bl,Nat.le_refl _,rfl,by rw[hz];exact o1,b1⟩
 go_loopw [5,6] (aex w n k bl) (fun _ iv _=>(intOf iv+1).toNat)
 case atStart=>exact L0
 case round=>
  clear L0 o1 b1;obtain⟨j,hj,rfl,own,bel⟩:=hrel
  rcases Nat.eq_zero_or_pos j with h0|h0
  ·subst h0
   go_wp2
   go_ret
   refine⟨_,rfl, ?_,bel⟩;rw[show k/2^0=k by simp] at own
   exact own
  ·obtain⟨i,rfl⟩: ∃i,j=i+1:=⟨j-1,by omega⟩
   have hle:k/2^ (i+1)≤k:=Nat.div_le_self _ _;have hh:=aaU k i;have e1:((i+1:Nat):Int)-1=(i:Int):=by omega
   rw[e1]
   go_wp2_with fail
   refine(HS.out _ _ _ hle own.rd).mono ?_;rintro z w2 ⟨v2,rfl,o2,b2⟩;have b02:=aa bel b2;have o2:=o2.lower bel.size;clear own b2;have hq:((k:Int)/2^i).tmod 2=((k/2^i % 2:Nat):Int):=by
    have h1:(k:Int)/2^i=((k/2^i:Nat):Int):=by rw[Int.natCast_ediv,Int.natCast_pow];rfl
    rw[h1,Int.ofNat_tmod];rfl
   by_cases hodd:k/2^i % 2=1
   ·have hc:(((k:Int)/2^i).tmod 2==1)=true:=by rw[hq,hodd];rfl
    have hx:k/2^ (i+1)+k/2^ (i+1)≤k:=by have:=Nat.div_le_self k (2^i);omega
    have hy:k/2^ (i+1)+k/2^ (i+1)+1=k/2^i:=by omega
    have H2:Hid _:=HT.out _ v2 w2 hx b02 o2.rd;rw[hy] at H2;clear hq hh hodd
    go_wp2_with fail
    refine Calls.mono H2.out ?_;rintro z w3 ⟨v3,rfl,o3,b3⟩;have o3:=o3.lower b02.size;have b03:=aa b02 b3
    go_wp2
    go_roundw
    case rel=>exact⟨i,by omega,rfl,o3,b03⟩
    case measure=>simp[intOf]
   ·have hc:(((k:Int)/2^i).tmod 2==1)=false:=by
     rw[hq];have:k/2^i % 2=0:=by omega
     rw[this];rfl
    have hy:k/2^ (i+1)+k/2^ (i+1)=k/2^i:=by omega
    rw[hy] at o2;clear hq hh hodd
    go_wp2
    go_roundw
    case rel=>exact⟨i,by omega,rfl,o2,b02⟩
    case measure=>simp[intOf]
theorem fives_any (k:Nat)(w:World)(hk:k≤300000):yC 77 #[yi k] w (NmR w (5^k)):=by
 have al:=af w (.cells #[.int .u32 5] 116);have q:=ah w [.int .u32 5] 116;have hr:Rd (w.alloc (.cells #[.int .u32 5] 116)) .u32 (.slice (some ⟨w.heap.size,0,none⟩) 1 1) (Dg.dg 4294967296 5):=by
  rw[show Dg.dg 4294967296 5=[5] by decide]
  exact⟨_,_,rfl,by simp,by unfold maxLen;simp,fun _=>⟨_,0,rfl,fun i hi=>by
   obtain rfl:i=0:=by simpa using hi
   exact q.c 0 rfl⟩⟩
 have HP:Hid _:=Iq _ 5 k 1 _ hr (by decide) (by omega) (by omega) (by omega);clear q hr
 go_enter func77,ntmps77
 go_wp2_with fail
 refine Calls.mono HP.out ?_;rintro z w1 ⟨v,rfl,o,b⟩;have bb:=aa al b;have rr:=o.rd;clear al b o HP
 go_wp2
 go_ret
 exact⟨_,rfl,rr,bb⟩
theorem DF (s:ByteArray)(w:World)(hs:s.size≤12000)(hd: ∀i,i<s.size→48≤byt s i∧byt s i≤57):
  yC 125 #[.string s] w (Num w (pv s s.size)):=by
 have HD:Hid _:=hd;clear hd
 go_enter func125,ntmps125
 go_wp2
 go_loopg [0,3] s.size (fun r tv av wr=>ae3 w s r tv av wr)
 case atStart=>exact⟨0,s,rfl,⟨by omega,fun i _=>by rw[Nat.zero_add]⟩,rfl,aQ _ _ _ _,Below.refl _ _⟩
 case round=>
  obtain⟨p,T,rfl,hT,hTs,own,bel⟩:=hrel;have hp1:=hT.1;rw[hTs] at hp1
  by_cases hz:gk=0
  ·have hps:p=s.size:=by omega
   subst hz hps;clear hp1;have hTz: ¬((0:Int)< (T.size:Int)):=by omega
   go_wp2
   go_ret
   exact⟨_,rfl,own,bel⟩
  ·have hps:p≤s.size:=by omega
   have hnum:=Wb s HD.out hs p hps;obtain⟨n,hn⟩: ∃n,(gk-1) % 9+1=n:=⟨_,rfl⟩;have hnI:((T.size:Int)-1) % 9+1=(n:Int):=by omega
   have hn9:n≤9:=by omega
   have hnT:n≤T.size:=by omega
   have HTS:Hid (T.size=gk):=hTs;have hTl:T.size≤12000:=by omega
   have hTp:0<T.size:=by omega
   have HP:Hid (p+gk=s.size):=hp1;clear hn hTs hp1
   go_wp2
   go_loop [5,6,17] (fun gv cv iv=> ∃i g sc:Nat,i≤n∧iv=yi i∧gv= .int .u32 g∧cv= .int .u32 sc∧g<1000000000∧sc≤1000000000∧Hid (ack s p i g sc)) (fun _ _ iv=>n-(intOf iv).toNat)
   case atStart=>exact⟨0,0,1,Nat.zero_le _,rfl,rfl,rfl,by omega,by omega,⟨by simp,by simp,by simp⟩⟩
   case round=>
    obtain⟨i,g,sc,hin,rfl,rfl,rfl,hg9,hsc9,hI⟩:=hrel
    by_cases hlt:i<n
    ·have hix:=li T i (by omega)
     have hby:=hT.2 i (by omega);have hdg:=HD.out (p+i) (by have:=HP.out;have:=HTS.out;omega);have hp8:10^i≤10^8:=Nat.pow_le_pow_right (by omega) (by omega);have hgb:=hI.2.1;have hsb:=hI.2.2;have hst:=Z5 hI rfl hdg.1 hdg.2;rw[hby] at hix;obtain⟨x,ex⟩: ∃x,byt s (p+i)=x:=⟨_,rfl⟩;rw[ex] at hix hdg hst;have hg8:g<100000000:=by omega
     have hs8:sc≤100000000:=by omega
     have hx1:=hdg.1;have hx2:=hdg.2;have HST:Hid (ack s p (i+1) (g*10+(x-48)) (sc*10)):=hst;clear hby ex hp8 hgb hsb hst hdg
     go_wp2
     go_round
     case rel=>exact⟨i+1,g*10+(x-48),sc*10,by omega,by go_num,by go_num,by go_num,by omega,by omega,HST⟩
     case measure=>simp[intOf];omega
    ·have hie:i=n:=by omega
     subst hie;have hsb:=hI.2.2;have hsp:1≤sc:=by rw[hsb];exact Nat.pow_pos (by omega)
     have hpv:=hI.1;have hgr:=Xf _ (pv s p) sc g w wr own bel hsp (by omega) (by omega) (by omega);rw[show pv s p*sc+g=pv s (p+i) from by rw[hpv,hsb]] at hgr
     have hts:=Wa hT hnT;clear hsb hpv hI
     go_wp2_with fail
     refine hgr.mono ?_;rintro e w2 ⟨v',rfl,own2,bel2⟩;clear hgr
     go_wp2
     go_roundg (gk-i)
     case measure=>omega
     case rel=>exact⟨p+i,_,rfl,hts,by have:=HTS.out;simp;omega,own2,bel2⟩
def um (xs:List Nat)(e R D L G:Int)(gr:Bool):Bool:=if onC (aS xs e) (bk R D L G)=0 then dA R D L G gr (Dg.vl 4294967296 xs) e else false
def Zo (xs:List Nat)(e R D L G:Int)(gr:Bool):Nat:=if onC (aS xs e) (bk R D L G)=0 then fD R D L G gr (Dg.vl 4294967296 xs) e else 0
def Zp (xs:List Nat)(e R D L G:Int)(gr:Bool):Int:=if onC (aS xs e) (bk R D L G)=0 then fK R D L G gr (Dg.vl 4294967296 xs) e else 0
def enH (k:Nat)(t:ak):Bool:=um (Dg.dg 4294967296 t.n) t.e (rdN k) (dgN k) (lsI k) (gsI k) (decide (k≤3))
def enE (k:Nat)(ng:Bool)(xs:List Nat)(p:Int):Int:=
 if p< -20000∨20000<p then 3 else if xs.length=0 then 4 else if(enN k ng xs p).2=0∧enH k (enN k ng xs p).1=true then 0 else 4
def gI (n c:Int)(ng:Bool)(xs:List Nat)(p:Int):Int:=
 if dK n=0∨c<1∨5<c then 6 else if chk xs≠0 then chk xs else if c=2 then enE n.toNat ng xs p else qX n.toNat c.toNat xs.length ng p
theorem vP (N M sh:Nat)(E:Int)(s left:Bool)(hM:M≠0)(hl:left=decide (0<N*2^sh % M)):ut (E-sh) N M E (d8 s (N*2^sh/M) (E-sh) left).n 1 (d8 s (N*2^sh/M) (E-sh) left).e:=fun j hj=>by
 obtain⟨d,hd⟩: ∃d:Nat,j=E-sh+d:=⟨(j-(E-sh)).toNat,by omega⟩;subst hd;have c1:=qG (X1:=eZ N (E-(E-sh+d))) (Y1:=dX M (E-(E-sh+d))) (X2:=N*2^sh) (Y2:=M*2^d) (jO hM _) (Nat.mul_pos (by omega) (bG _)) (by
  rw[fw,eM]
  by_cases g:(d:Int)≤sh
  ·rw[show(E-(E-(sh:Int)+(d:Int))).toNat=sh-d from by omega,show(-(E-(E-(sh:Int)+(d:Int)))).toNat=0 from by omega,Nat.pow_zero,Nat.mul_one]
   rw[Nat.mul_assoc,Nat.mul_assoc,Nat.mul_comm M (2^d),←Nat.mul_assoc (2^ (sh-d)),←Nat.pow_add,show sh-d+d=sh from by omega]
  ·rw[show(E-(E-(sh:Int)+(d:Int))).toNat=0 from by omega,show(-(E-(E-(sh:Int)+(d:Int)))).toNat=d-sh from by omega,Nat.pow_zero,Nat.mul_one]
   rw[Nat.mul_assoc N,Nat.mul_comm (2^sh),Nat.mul_assoc M,←Nat.pow_add,show d-sh+sh=d from by omega])
 have hsh:N*2^sh/(M*2^d)=N*2^sh/M/2^d:=(Nat.div_div_eq_div_mul ..).symm;have c2:eZ (d8 s (N*2^sh/M) (E-sh) left).n ((d8 s (N*2^sh/M) (E-sh) left).e-(E-sh+d))=N*2^sh/M*2+(if left=true then 1 else 0):=by
  rw[fw]
  show(N*2^sh/M*2+(if left=true then 1 else 0))*2^ (E-(sh:Int)-1-(E-(sh:Int)+(d:Int))).toNat=_
  rw[show(E-(sh:Int)-1-(E-(sh:Int)+(d:Int))).toNat=0 from by omega,Nat.pow_zero,Nat.mul_one]
 have c3:dX 1 ((d8 s (N*2^sh/M) (E-sh) left).e-(E-sh+d))=2*2^d:=by
  rw[eM]
  show 1*2^ (-(E-(sh:Int)-1-(E-(sh:Int)+(d:Int)))).toNat=_
  rw[show(-(E-(sh:Int)-1-(E-(sh:Int)+(d:Int)))).toNat=d+1 from by omega,Nat.pow_succ,Nat.one_mul,Nat.mul_comm]
 rw[c1.1,c2,c3,hsh];obtain⟨q,hq⟩: ∃q,N*2^sh/M=q:=⟨_,rfl⟩;have hdm:=Nat.div_add_mod (N*2^sh) M;rw[hq] at hdm⊢;have hbit:(q*2+(if left=true then 1 else 0))/2=q:=by cases left<;>simp<;>omega
 refine⟨by rw[←Nat.div_div_eq_div_mul,hbit],c1.2.trans ?_⟩;have e2: ∀x y:Nat,x % y=0↔y∣x:=fun x y=>⟨Nat.dvd_of_mod_eq_zero,Nat.mod_eq_zero_of_dvd⟩
 by_cases h0:N*2^sh % M=0
 ·rw[h0,Nat.add_zero] at hdm
  have hlf:left=false:=by rw[hl,h0];rfl
  subst hlf;rw[e2,e2,NI hM hdm.symm];simp only[Bool.false_eq_true,if_false,Nat.add_zero];rw[Nat.mul_comm q 2]
  constructor
  ·rintro⟨k,hk⟩
   exact⟨k,by rw[hk,Nat.mul_assoc]⟩
  ·rintro⟨k,hk⟩
   exact⟨k,by rw[Nat.mul_assoc] at hk;omega⟩
 ·have hlf:left=true:=by rw[hl];simp;omega
  subst hlf;rw[e2,e2]
  constructor
  ·rintro⟨k,hk⟩
   exfalso
   refine h0 (Nat.mod_eq_zero_of_dvd ⟨2^d*k, ?_⟩);rw[hk,Nat.mul_assoc]
  ·rintro⟨k,hk⟩
   simp only[if_true] at hk;rw[Nat.mul_assoc] at hk;omega
theorem fives_int (k:Int)(w:World)(h1:0≤k)(h2:k≤300000):yC 77 #[yi k] w (NmR w (5^k.toNat)):=by
 have:=fives_any k.toNat w (by omega);rw[show((k.toNat:Nat):Int)=k by omega] at this
 exact this
def dcP (x:ak):Int:=dcG x+(dcC x:Int)-1-60
theorem decS_big {W:Nat}:W<10^ (oW W).size:=by
 unfold oW
 split
 ·rename_i h
  subst h;exact Nat.pow_pos (by omega)
 ·rw[fS,List.length_reverse,List.length_map]
  have:=Dg.vl_lt 10 (Dg.dg 10 W) (Dg.small_dg _ _ (by omega));rw[Dg.vl_dg _ _ (by omega)] at this;exact this
def ptS (n:Int)(s:ByteArray)(k:Nat):ByteArray:=prR (opT n s).s (dcH (opT n s)) (dcC (opT n s)) (dcP (opT n s)) k
end Go.Proofs.YtdhpndnncmagiaaGreatDoor
