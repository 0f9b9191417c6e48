/-
  Texts laid together: Roo1, As1, Co10, Co19.
-/
import Derived.Test.YtpainhklfoaniaaGreatDoorSc16
import Derived.Test.YtpainhklfoaniaaGreatDoorSc10
set_option maxRecDepth 100000
set_option maxHeartbeats 6400000
namespace Go.Proofs.YtpainhklfoaniaaGreatDoor
open _root_.Go.Proofs.Tryz
open Go.RowKit
theorem aaT {n L j:Nat}(h:n<4294967296^L):(Dg.dg 4294967296 (n^j)).length≤L*j+1:=by
 refine Dg.dg_len_le 4294967296 _ _ (by omega) ?_;rw[Nat.pow_succ,Nat.pow_mul];have h1:n^j≤(4294967296^L)^j:=Nat.pow_le_pow_left (by omega) j;have h2:0< (4294967296^L)^j:=Nat.pow_pos (Nat.pow_pos (by omega));omega
theorem TH (x:Int)(w:World)(h0:0≤x)(h1:x≤4294967295):
  yC 152 #[.int .u64 x] w fun e w'=>e= .returned (yi (bitLen x.toNat:Nat))∧w'=w:=by
 go_enter func152,ntmps152
 go_wp2
 all_goals try (exfalso;have hz:=Lib.len8tab_size;omega)
 all_goals (go_ret;refine⟨congrArg Ending.returned (congrArg (Value.int IntKind.i64) ?_),rfl⟩)
 all_goals simp only[X4]
 ·exact qz 24 _ x.toNat (by have:=bitLen_shift x.toNat 24 (by omega);rw[this];congr 2;omega) (by omega)
 ·exact qz 16 _ x.toNat (by have:=bitLen_shift x.toNat 16 (by omega);rw[this];congr 2;omega) (by omega)
 ·exact qz 8 _ x.toNat (by have:=bitLen_shift x.toNat 8 (by omega);rw[this];congr 2;omega) (by omega)
 ·have hb:=bitLen_le8 x.toNat (by omega)
  have e1:=IntWalk.wrap64_in ((bitLen x.toNat:Nat):Int) ⟨by omega,by omega⟩;rw[e1,e1]
theorem LZ (k:Nat)(w:World)(h:k≤4294967295):
  yC 122 #[.int .u64 k] w fun e w'=>e= .returned (yi (bitLen k:Nat))∧w'=w:=by
 have h64:=TH k w (by omega) (by omega);rw[Int.toNat_natCast] at h64;have H:Hid _:=h64;clear h64
 go_enter func122,ntmps122
 go_wp2_with fail
 refine Calls.mono H.out ?_;rintro e w' ⟨rfl,rfl⟩
 go_wp2
 go_ret
 exact⟨rfl,rfl⟩
theorem aaU (k i:Nat):k/2^i=k/2^ (i+1)+k/2^ (i+1)+k/2^i % 2:=by
 rw[Nat.pow_succ,←Nat.div_div_eq_div_mul];omega
def aex (w:World)(n k bl:Nat)(pv iv:Value)(wr:World):Prop:=
 ∃j:Nat,j≤bl∧iv=yi ((j:Int)-1)∧Own wr w.heap.size 108 .u32 pv (Dg.dg 4294967296 (n^ (k/2^j)))∧yB w wr
theorem Iq (va:Value)(n k L:Nat)(w:World)(ha:Rd w .u32 va (Dg.dg 4294967296 n))(hL:n<4294967296^L)(hLk:L*k≤400000)(hLl:L≤400000)(hk:k≤1000000):
  yC 90 #[va,yi k] w (Num w (n^k)):=by
 have HA:Hid (Rd w .u32 va (Dg.dg 4294967296 n)):=ha;have hnl:(Dg.dg 4294967296 n).length≤L:=Dg.dg_len_le 4294967296 n L (by omega) hL;have HL: ∀j,j≤k→(Dg.dg 4294967296 (n^j)).length≤400001:=fun j hj=>by
  have hp:=aaT (j:=j) hL;have hlj:L*j≤L*k:=Nat.mul_le_mul (Nat.le_refl _) hj;omega
 have HT:Hid (∀j v wr,j≤k→yB w wr→Rd wr .u32 v (Dg.dg 4294967296 (n^j))→yC 91 #[v,va] wr (Num wr (n^ (j+1)))):=fun j v wr hj b r=>by
  have:=qC v va _ _ wr r (ha.l b) (Dg.small_dg _ _ (by omega)) (Dg.small_dg _ _ (by omega)) (by have:=HL j hj;omega) (by omega);rw[Dg.vl_dg _ _ (by omega),Dg.vl_dg _ _ (by omega),←Nat.pow_succ] at this;exact this
 have HS:Hid (∀j v wr,j≤k→Rd wr .u32 v (Dg.dg 4294967296 (n^j))→yC 91 #[v,v] wr (Num wr (n^ (j+j)))):=fun j v wr hj r=>by
  have:=qC v v _ _ wr r r (Dg.small_dg _ _ (by omega)) (Dg.small_dg _ _ (by omega)) (by have:=HL j hj;omega) (by have:=HL j hj;omega);rw[Dg.vl_dg _ _ (by omega),←Nat.pow_add] at this;exact this
 have HB:Hid (∀wr,yC 122 #[.int .u64 k] wr fun e w'=>e= .returned (yi (bitLen k:Nat))∧w'=wr):=fun wr=>LZ k wr (by omega)
 have hbl:bitLen k≤20:=bF k 20 (by omega);have hz:k/2^bitLen k=0:=Nat.div_eq_of_lt (bitLen_spec k).1;have o1:=zf w w.heap.size 108 1 (Nat.le_refl _);have b1:yB w (w.alloc (.cells #[.int .u32 ((1:Nat):Int)] 108)):=(Below.refl _ _).alloc (Nat.le_refl _) _;obtain⟨ao,ca,rfl⟩:=ha.shape;obtain⟨ma,hma⟩: ∃m,(Dg.dg 4294967296 n).length=m:=⟨_,rfl⟩;rw[hma] at HT HA⊢;clear ha hma hnl HL;obtain⟨bl,hbe⟩: ∃b,bitLen k=b:=⟨_,rfl⟩;rw[hbe] at HB hbl hz;clear hbe
 go_enter func90,ntmps90
 go_wp2_with fail
 refine(HB.out _).mono ?_;rintro e w' ⟨rfl,rfl⟩
 go_wp2
 have L0:aex w n k bl (.slice (some ⟨w.heap.size,0,none⟩) 1 1) (yi ((bl:Int)-1)) (w.alloc (.cells #[.int .u32 ((1:Nat):Int)] 108)):=⟨bl,Nat.le_refl _,rfl,by rw[hz];exact o1,b1⟩
 go_loopw [5,6] (aex w n k bl) (fun _ iv _=>(intOf iv+1).toNat)
 case atStart=>exact L0
 case round=>
  clear L0 o1 b1;obtain⟨j,hj,rfl,own,bel⟩:=hrel
  rcases Nat.eq_zero_or_pos j with h0|h0
  ·subst h0
   go_wp2
   go_ret
   refine⟨_,rfl, ?_,bel⟩;rw[show k/2^0=k by simp] at own
   exact own
  ·obtain⟨i,rfl⟩: ∃i,j=i+1:=⟨j-1,by omega⟩
   have hle:k/2^ (i+1)≤k:=Nat.div_le_self _ _;have hh:=aaU k i;have e1:((i+1:Nat):Int)-1=(i:Int):=by omega
   rw[e1]
   go_wp2_with fail
   refine(HS.out _ _ _ hle own.rd).mono ?_;rintro z w2 ⟨v2,rfl,o2,b2⟩;have b02:=aa bel b2;have o2:=o2.lower bel.size;clear own b2;have hq:((k:Int)/2^i).tmod 2=((k/2^i % 2:Nat):Int):=by
    have h1:(k:Int)/2^i=((k/2^i:Nat):Int):=by rw[Int.natCast_ediv,Int.natCast_pow];rfl
    rw[h1,Int.ofNat_tmod];rfl
   by_cases hodd:k/2^i % 2=1
   ·have hc:(((k:Int)/2^i).tmod 2==1)=true:=by rw[hq,hodd];rfl
    have hx:k/2^ (i+1)+k/2^ (i+1)≤k:=by have:=Nat.div_le_self k (2^i);omega
    have hy:k/2^ (i+1)+k/2^ (i+1)+1=k/2^i:=by omega
    have H2:Hid _:=HT.out _ v2 w2 hx b02 o2.rd;rw[hy] at H2;clear hq hh hodd
    go_wp2_with fail
    refine Calls.mono H2.out ?_;rintro z w3 ⟨v3,rfl,o3,b3⟩;have o3:=o3.lower b02.size;have b03:=aa b02 b3
    go_wp2
    go_roundw
    case rel=>exact⟨i,by omega,rfl,o3,b03⟩
    case measure=>simp[intOf]
   ·have hc:(((k:Int)/2^i).tmod 2==1)=false:=by
     rw[hq];have:k/2^i % 2=0:=by omega
     rw[this];rfl
    have hy:k/2^ (i+1)+k/2^ (i+1)=k/2^i:=by omega
    rw[hy] at o2;clear hq hh hodd
    go_wp2
    go_roundw
    case rel=>exact⟨i,by omega,rfl,o2,b02⟩
    case measure=>simp[intOf]
open Go.RowKit Go.ChangeMaps Go.MapKept
def Xo:Array MapEntry:= #[⟨yi 1,yi 4,0⟩,⟨yi 2,yi 1,1⟩,⟨yi 3,yi 5,2⟩]
theorem JQ (w:World):yC 105 #[] w fun z w'=>z= .returned (.map (some w.heap.size))∧w'.heap[w.heap.size]? =some (.map Xo 3)∧yB w w':=by
 have ht:=underlying185;have hk:=underlying83;have hb0:(w.alloc (.map #[] 0)).heap[w.heap.size]? =some (.map #[] 0):=heap_alloc_new _ _;have b0:=af w (.map #[] 0);have e0:=run_makeMap (P:=Tryz.prog) 185 w;obtain⟨W1,e1,hb1,b1⟩:=sS ht hk hb0 (Nat.le_refl _) b0 1 (yi 4) rfl;obtain⟨W2,e2,hb2,b2⟩:=sS ht hk hb1 (Nat.le_refl _) b1 2 (yi 1) rfl;obtain⟨W3,e3,hb3,b3⟩:=sS ht hk hb2 (Nat.le_refl _) b2 3 (yi 5) rfl;have HB:Hid (W3.heap[w.heap.size]? =some (.map Xo 3)):=hb3;clear hb1 hb2 hb3 b1 b2 ht hk hb0
 go_enter func105,ntmps105
 go_wp2
 go_ret
 exact⟨rfl,HB.out,b3⟩
def AZ (f:Int):Int:=if f=1 then 4 else if f=2 then 1 else 5
theorem A5 (f:Int)(hf:f=1∨f=2∨f=3)(w:World):yC 78 #[yi f] w (yR w (yi (AZ f))):=by
 have HN:Hid _:=JQ;have HL:Hid (∀W r,W.heap[r]? =some (.map Xo 3)→(Instr.lookup 185 (.map (some r)) (yi f) false).run Tryz.prog W= .ok (yi (AZ f)) W):=fun W r hm=>by
  rcases hf with rfl|rfl|rfl
  ·exact pj underlying185 underlying83 hm 1 (i:=0) rfl
  ·exact pj underlying185 underlying83 hm 2 (i:=1) rfl
  ·exact pj underlying185 underlying83 hm 3 (i:=2) rfl
 generalize AZ f=c at*;clear hf
 go_enter func78,ntmps78
 go_wp2_with fail
 refine(HN.out _).mono ?_;rintro z w1 ⟨rfl,hm,b1⟩;have hl:=HL.out w1 _ hm;clear hm HL HN
 go_wp2
 go_ret
 exact⟨rfl,b1⟩
def aaV (wy:Int)(ng:Bool):Bool:=if wy=1∨wy=2 then true else if wy=4 then !ng else(ng&&decide (wy=5))
theorem CT (n wy fam R D L G:Int)(gr ng:Bool)(hw:1≤wy∧wy≤5)(w:World):yC 141 #[ykV n wy fam R D L G gr,.bool ng] w (yR w (.bool (aaV wy ng))):=by
 have h5:wy=1∨wy=2∨wy=3∨wy=4∨wy=5:=by omega
 have b0:=af w (.cells (ykA n wy fam R D L G gr) 143);clear hw
 rcases h5 with rfl|rfl|rfl|rfl|rfl
 all_goals
  cases ng
  all_goals
   go_enter func141,ntmps141
   go_wp2
   go_ret
   exact⟨rfl,b0⟩
theorem It (n wy fam R D L G c p fl er:Int)(gr ng:Bool)(ao:Option Addr)(la ca:Nat)(st:ByteArray)(w:World)
  (HE:yH w 37 #[yi n,yvV c ng (.slice ao la ca) p] (.tuple #[.string st,yi er])):
  yC 76 #[ykV n wy fam R D L G gr,yvV c ng (.slice ao la ca) p,yi fl] w (yR w (if er=0 then .tuple #[.string st,yi fl,yi 0] else .tuple #[.string ⟨#[]⟩,yi 0,yi er])):=by
 replace HE:Hid _:=HE;have ad:=af w (.cells (ykA n wy fam R D L G gr) 143);have av:=af (w.alloc (.cells (ykA n wy fam R D L G gr) 143)) (.cells (yvA c ng (.slice ao la ca) p) 77);have d0:=(ah w (ykL n wy fam R D L G gr) 143).l av;have v0:=ah (w.alloc (.cells (ykA n wy fam R D L G gr) 143)) (yvL c ng (.slice ao la ca) p) 77;rw[World.size_alloc] at v0;have b0:=aa ad av;clear ad av
 by_cases he:er=0
 ·rw[if_pos he]
  subst he
  go_enter func76,ntmps76
  go_upto_region 1 with fail
  generalize(w.alloc (.cells (ykA n wy fam R D L G gr) 143)).alloc (.cells (yvA c ng (.slice ao la ca) p) 77)=W0 at d0 v0 b0⊢;have y0:=d0.c 0 rfl;obtain⟨x0,x1,x2,x3⟩:=v0.cs4
  go_wp2_with fail
  refine(HE.out _ b0).mono ?_;rintro z w1 ⟨rfl,b1⟩;have b01:=aa b0 b1
  go_wp2
  go_ret3
  exact⟨rfl,b01⟩
 ·rw[if_neg he]
  have hef:(er==0)=false:=by simpa using he
  go_enter func76,ntmps76
  go_upto_region 1 with fail
  generalize(w.alloc (.cells (ykA n wy fam R D L G gr) 143)).alloc (.cells (yvA c ng (.slice ao la ca) p) 77)=W0 at d0 v0 b0⊢;have y0:=d0.c 0 rfl;obtain⟨x0,x1,x2,x3⟩:=v0.cs4
  go_wp2_with fail
  refine(HE.out _ b0).mono ?_;rintro z w1 ⟨rfl,b1⟩;have b01:=aa b0 b1;clear he
  go_wp2
  go_ret3
  exact⟨rfl,b01⟩
def iS (f:Nat):Nat→Nat→List Nat→List Nat
 |0,_,zs=>zs
 |c+1,x,zs=>iS f c (x/2) (zs.set ((f+c)/8) (zs.getD ((f+c)/8) 0|||x % 2*2^ (7-(f+c) % 8)))
theorem Cf (x r:Nat):x % 2*2^ (7-r)<256:=by
 have h1:(2:Nat)^ (7-r)≤2^7:=Nat.pow_le_pow_right (by omega) (by omega);have h2:=Nat.mod_lt x (show 0<2 by omega)
 have h3:x % 2*2^ (7-r)≤1*2^7:=Nat.mul_le_mul (by omega) h1;omega
theorem Io {B:Nat}{zs:List Nat}(h:Dg.Small B zs)(i x:Nat)(hx:x<B):Dg.Small B (zs.set i x):=by
 intro k
 by_cases hk:i<zs.length
 ·rw[Dg.getD_set _ _ _ _ hk]
  by_cases e:i=k
  ·rw[if_pos e];exact hx
  ·rw[if_neg e];exact h k
 ·rw[List.set_eq_of_length_le (by omega)]
  exact h k
theorem aaR (b y r:Nat)(hb:b<256)(hy:y<18446744073709551616):bits .or .u8 b (bits .and .u64 y 1 % 256*2^ (7-r) % 256)=((b|||y % 2*2^ (7-r):Nat):Int):=by
 have e2:=u64_and_nat y 1 hy (by omega);rw[Nat.and_one_is_mod] at e2;have h2:=Nat.mod_lt y (show 0<2 by omega)
 have h3:=Cf y r;have e3:(((y % 2:Nat):Int) % 256*2^ (7-r))=((y % 2*2^ (7-r):Nat):Int):=by
  rw[show((y % 2:Nat):Int) % 256=((y % 2:Nat):Int) from by omega]
  push_cast
  rfl
 rw[show 1=((1:Nat):Int) from rfl,e2,e3,show((y % 2*2^ (7-r):Nat):Int) % 256=((y % 2*2^ (7-r):Nat):Int) from by omega]
 exact u8_or_nat _ _ hb h3
theorem AY (g cap:Nat)(zs:List Nat)(f c x:Nat)(w:World)(hr:ik w g zs)(hs:Dg.Small 256 zs)(hx:x<18446744073709551616)(hfc:f+c≤8*zs.length)(hl:zs.length≤1000):
  yC 140 #[.slice (some ⟨g,0,none⟩) zs.length cap,yi f,yi c,.int .u64 x] w fun e w'=>e= .returned (.tuple #[])∧ik w' g (iS f c x zs)∧w.grownBy w' (some g):=by
 go_enter func140,ntmps140
 go_wp2
 go_loopw [3,8] (fun xv iv wr=> ∃(j y:Nat) (cur:List Nat),j≤c∧iv=yi ((f:Int)+j-1)∧xv= .int .u64 y∧y<18446744073709551616∧ik wr g cur∧Dg.Small 256 cur∧Hid (cur.length=zs.length)∧Hid (iS f j y cur=iS f c x zs)∧w.grownBy wr (some g))
  (fun _ iv _=>(intOf iv+1).toNat)
 case atStart=>exact⟨c,x,zs,Nat.le_refl _,by go_num,rfl,hx,hr,hs,rfl,rfl,ib _ _⟩
 case round=>
  obtain⟨j,y,cur,hj,rfl,rfl,hy,own,hsm,Hl,Hx,gr⟩:=hrel;have hlen:=Hl.out
  by_cases hj0:0<j
  ·obtain⟨j',rfl⟩: ∃j',j=j'+1:=⟨j-1,by omega⟩
   obtain⟨i,hi⟩: ∃i,f+j'=i:=⟨_,rfl⟩;have hiI:(f:Int)+((j'+1:Nat):Int)-1=(i:Int):=by omega
   rw[hiI];obtain⟨q,hq⟩: ∃q,i/8=q:=⟨_,rfl⟩;obtain⟨r,hr'⟩: ∃r,i % 8=r:=⟨_,rfl⟩;have hqI:(i:Int)/8=(q:Int):=by omega
   have hrI:(i:Int) % 8=(r:Int):=by omega
   have hcell:=own.c q (by omega);have hfree:=own.f q (by omega);have hs1:=hsm q;obtain⟨b,hb⟩: ∃b,cur.getD q 0=b:=⟨_,rfl⟩;rw[hb] at hcell hs1;have hql:q<zs.length:=by omega
   have hr8:r<8:=by omega
   have HH:Hid (_∧_∧_∧_):=⟨hi,hq,hr',hb⟩;have hic:(f:Int)≤(i:Int):=by omega
   have hib:(i:Int)≤8000:=by omega
   clear hi hq hr' hb hlen hiI
   go_wp2
   go_region
   all_goals go_wp2
   all_goals go_roundw
   case rel=>
    obtain⟨hi,hq,hr',hb⟩:=HH.out;have hbl:b|||y % 2*2^ (7-r)<256:=Nat.or_lt_two_pow (n:=8) hs1 (Cf y r)
    refine⟨j',y/2,cur.set q (b|||y % 2*2^ (7-r)),by omega,by congr 1;omega,rfl,by omega, ?_,Io hsm _ _ hbl, ?_, ?_,eF gr (eF (bI _ _ _ _) (vm _ _))⟩
    ·rw[aaR b y r hs1 hy]
     exact(own.store q _).drew
    ·show _=_
     rw[List.length_set];exact Hl.out
    ·show _=_
     have:=Hx.out;rw[iS,hi,hq,hr',hb] at this;exact this
   case measure=>simp only[intOf];omega
  ·have hd: ¬((f:Int)≤(f:Int)+(j:Int)-1):=by omega
   have h0:Hid (j=0):=(by omega:j=0);clear hlen
   go_wp2
   go_end0
   have h1:=h0.out;subst h1;have:=Hx.out;rw[iS] at this;rw[←this];exact⟨rfl,own,gr⟩
theorem il (f:Nat): ∀(c x:Nat) (zs:List Nat),(iS f c x zs).length=zs.length
 |0,_,_=>rfl
 |c+1,x,zs=>by rw[iS,il f c];exact List.length_set
theorem mj (f:Nat): ∀(c x:Nat) (zs:List Nat),Dg.Small 256 zs→Dg.Small 256 (iS f c x zs)
 |0,_,_,h=>h
 |c+1,x,zs,h=>by
  rw[iS];exact mj f c _ _ (Io h _ _ (Nat.or_lt_two_pow (n:=8) (h _) (Cf _ _)))
theorem vi {P:Program}{w:World}{e g cap:Nat}{zs:List Nat}(src dst:TypeId)(hs:P.underlying src=some (.slice e))(he:P.underlying e=some (.int .u8))(hd:P.underlying dst=some .string)
  (h:ik w g zs):(convert src dst (.slice (some ⟨g,0,none⟩) zs.length cap)).run P w= .ok (.string (cF zs)) w:=by
 rw[run_convert_bytes_string w src dst e _ _ _ hs he hd];have hl:=run_loadCells_list (P:=P) w ⟨g,0,none⟩ (zs.map (fun n:Nat=>Value.int .u8 (n:Int))) (by
  intro j u hj;have hjl:j<zs.length:=by have:=(List.getElem?_eq_some_iff.1 hj).1;simpa using this
  rw[j9 _ zs j hjl] at hj;rw[rO,Nat.zero_add,h.c j hjl];exact hj)
 rw[List.length_map] at hl;have:=run_bytesToString (P:=P) w ⟨g,0,none⟩ zs.length cap (zs.map (fun n:Nat=>(n:Int))) (by
  rw[hl];simp)
 rw[this,Iu];simp[cF]
theorem Mw (R D L G fam:Int)(gr:Bool)(sz ex fr:Nat)(F:Nat)(e f:Nat)(ts:List Nat)(w:World)(hfr:1+ex+fr=8*sz)(hex:ex≤15)(hsz:sz≤10)(he:e<65536)(hf:f<18446744073709551616)(hts:ts.length=sz)
  (HT: ∀g cap w1,ik w1 g (iS (1+ex) fr f (iS 1 ex e (iS 0 1 1 (List.replicate sz 0))))→yC F #[.slice (some ⟨g,0,none⟩) sz cap] w1 fun z w'=>z= .returned (.tuple #[])∧ik w' g ts∧w1.grownBy w' (some g))
  (HFR:yJ 130 #[ylV R D L G gr sz ex fam F] (yi fr))
  (HE: ∀args W,Sem.run Tryz.prog (callFunc F args) W= .ok (.enter F args) W):
  yC 102 #[ylV R D L G gr sz ex fam F,yfV true e f] w (yR w (.string (cF ts))):=by
 have hsf:=cD;have l0:=(ah w (ylL R D L G gr sz ex fam F) 131).l (af _ (.cells (yfA true e f) 133));have m0:=ah (w.alloc (.cells (ylA R D L G gr sz ex fam F) 131)) (yfL true e f) 133;have b0:=aa (af w (.cells (ylA R D L G gr sz ex fam F) 131)) (af _ (.cells (yfA true e f) 133));rw[World.size_alloc] at m0;have H2:((w.alloc (.cells (ylA R D L G gr sz ex fam F) 131)).alloc (.cells (yfA true e f) 133)).heap.size=w.heap.size+2:=by rw[World.size_alloc,World.size_alloc]
 obtain⟨i0,hi,hz0,hz1,hz2⟩:=info_parts Tryz.infoU8;have HT':Hid _:=HT;have HFR':Hid _:=HFR;clear HT HFR;obtain⟨x0,x1,x2,x3,x4,x5,x6,x7,x8⟩:=l0.cs9;obtain⟨u0,u1,u2⟩:=m0.cs3
 go_enter func102,ntmps102
 go_wp2_with (at_make;refine wpList_make_full _ rfl _ _ 187 rfl (w.heap.size+2) 5 i0 (.int .u8 0) 1 underlying187 hi hz0 hz1 _ _ _ _ sz rfl rfl (by omega) (by omega) ?b2 ?b3 (Nat.le_of_eq H2.symm) ?_)
 case b2=>rw[hz2];omega
 case b3=>unfold maxLen;omega
 intro w1 hown hgrow;have r1:=Ev (gL hown);have bg:=(Below.refl _ _).grown hgrow (Nat.le_refl _) (fun k h=>by cases h)
 have l1:=l0.l bg;have m1:=m0.l bg;have b1:=aa b0 bg;clear hown hgrow bg l0 m0 b0 hi hz0 hz1 hz2 H2 x0 x1 x2 x3 x4 x5 x6 x7 x8 u0 u1 u2;obtain⟨g,hg⟩: ∃g,w.heap.size+2=g:=⟨_,rfl⟩;have hg0:w.heap.size≠g:=by omega
 have hg1:w.heap.size+1≠g:=by omega
 have hgl:w.heap.size≤g:=by omega
 rw[hg] at r1⊢;clear hg;have HSB:Hid (∀(c a b:Nat) (zs:List Nat) w1,ik w1 g zs→zs.length=sz→Dg.Small 256 zs→a+b≤8*sz→c<18446744073709551616→yC 140 #[.slice (some ⟨g,0,none⟩) sz sz,yi a,yi b,.int .u64 c] w1 fun z w'=>z= .returned (.tuple #[])∧ik w' g (iS a b c zs)∧w1.grownBy w' (some g)):=fun c a b zs w1 h hz hm hab hc=>by
  have:=AY g sz zs a b c w1 h hm hc (by omega) (by omega);rw[hz] at this;exact this
 have sm0:Dg.Small 256 (List.replicate sz 0):=by
  intro i
  by_cases hi:i<sz
  ·simp[List.getD_eq_getElem?_getD,hi]
  ·simp[List.getD_eq_getElem?_getD,hi]
 have ln0:(List.replicate sz 0).length=sz:=List.length_replicate;have hwe:IntKind.u64.wrap e=(e:Int):=IntWalk.u64_in _ ⟨by omega,by omega⟩;have hwr:IntKind.i64.wrap (1+(ex:Int))=1+(ex:Int):=IntWalk.i64_in _ ⟨by omega,by omega⟩;have HN:Hid _:=hfr;have ln1:(iS 0 1 1 (List.replicate sz 0)).length=sz:=by rw[il];exact ln0
 have sm1:Dg.Small 256 (iS 0 1 1 (List.replicate sz 0)):=mj _ _ _ _ sm0;have hs0:=HSB.out 1 0 1 (List.replicate sz 0) _ r1 ln0 sm0 (by omega) (by omega);have HS0:Hid _:=hs0;clear hs0;obtain⟨x0,x1,x2,x3,x4,x5,x6,x7,x8⟩:=l1.cs9;obtain⟨u0,u1,u2⟩:=m1.cs3
 go_wp2_with fail
 refine Calls.mono HS0.out ?_;rintro z w2 ⟨rfl,r2,g2⟩;have l2:=l1.grown g2 hg0;have m2:=m1.grown g2 hg1;have b2:=b1.grown g2 b1.size (fun k h=>by cases h;exact hgl)
 clear x0 x1 x2 x3 x4 x5 x6 x7 x8 u0 u1 u2 l1 m1 b1 g2 HS0 r1;obtain⟨z2,hz2⟩: ∃z,iS 1 ex e (iS 0 1 1 (List.replicate sz 0))=z:=⟨_,rfl⟩;obtain⟨z3,hz3⟩: ∃z,iS (1+ex) fr f z2=z:=⟨_,rfl⟩;have ln2:z2.length=sz:=by rw[←hz2,il];exact ln1
 have sm2:Dg.Small 256 z2:=by rw[←hz2];exact mj _ _ _ _ sm1
 have hs1:=HSB.out e 1 ex (iS 0 1 1 (List.replicate sz 0)) _ r2 ln1 sm1 (by omega) (by omega);have HS3:Hid (∀w1,ik w1 g z2→yC 140 #[.slice (some ⟨g,0,none⟩) sz sz,yi (1+(ex:Int)),yi fr,.int .u64 f] w1 fun z w'=>z= .returned (.tuple #[])∧ik w' g z3∧w1.grownBy w' (some g)):=fun w1 h=>by
  have:=HSB.out f (1+ex) fr z2 w1 h ln2 sm2 (by omega) hf;rw[hz3,show(((1+ex:Nat):Nat):Int)=1+(ex:Int) from by omega] at this
  exact this
 rw[hz2,hz3] at HT';rw[hz2] at hs1;have HS1:Hid _:=hs1;clear hs1 hz2 hz3 sm2 ln2 sm0 ln0 HSB hfr ln1 sm1;obtain⟨x0,x1,x2,x3,x4,x5,x6,x7,x8⟩:=l2.cs9;obtain⟨u0,u1,u2⟩:=m2.cs3
 go_wp2_with fail
 refine Calls.mono HS1.out ?_;rintro z w3 ⟨rfl,r3,g3⟩;have l3:=(l2.grown g3 hg0).drew;have m3:=(m2.grown g3 hg1).drew;have b3:=(b2.grown g3 b2.size (fun k h=>by cases h;exact hgl)).drew
 have r3d:=r3.drew;clear x0 x1 x2 x3 x4 x5 x6 x7 x8 u0 u1 u2 l2 m2 b2 g3 HS1 r3 r2;obtain⟨x0,x1,x2,x3,x4,x5,x6,x7,x8⟩:=l3.cs9;obtain⟨u0,u1,u2⟩:=m3.cs3
 go_wp2_with fail
 go_region_held3 (fun wq=>(wq.cell? ⟨w.heap.size,0,none⟩=some (yi (R:Int))∧wq.cell? ⟨w.heap.size,1,none⟩=some (yi D)∧wq.cell? ⟨w.heap.size,2,none⟩=some (yi L)∧wq.cell? ⟨w.heap.size,3,none⟩=some (yi G)∧wq.cell? ⟨w.heap.size,4,none⟩=some (.bool gr)∧wq.cell? ⟨w.heap.size,5,none⟩=some (yi sz)∧wq.cell? ⟨w.heap.size,6,none⟩=some (yi ex)∧wq.cell? ⟨w.heap.size,7,none⟩=some (yi fam)∧wq.cell? ⟨w.heap.size,8,none⟩=some (.func (.func F) #[] #[]))∧(wq.cell? ⟨w.heap.size+1,0,none⟩=some (.bool true)∧wq.cell? ⟨w.heap.size+1,1,none⟩=some (yi e)∧wq.cell? ⟨w.heap.size+1,2,none⟩=some (.int .u64 f))) (go_keep) (first
  | (go_at_call 130;refine(HFR'.out _).mono ?_;rintro z w4 ⟨rfl,b4⟩;have l4:=l3.l b4;have m4:=m3.l b4;have b04:=aa b3 b4;have r4:=r3d.l b4;obtain⟨y0,y1,y2,y3,y4,y5,y6,y7,y8⟩:=l4.cs9;obtain⟨v0,v1,v2⟩:=m4.cs3)
  | (go_at_call 140;refine(HS3.out _ r4).mono ?_;rintro z w5 ⟨rfl,r5,g5⟩;have l5:=l4.grown g5 hg0;have m5:=m4.grown g5 hg1;have b05:=b04.grown g5 b04.size (fun k h=>by cases h;exact hgl);obtain⟨t0,t1,t2,t3,t4,t5,t6,t7,t8⟩:=l5.cs9;obtain⟨s0,s1,s2⟩:=m5.cs3))
 go_wp2_with fail
 refine(HT'.out _ _ _ r5).mono ?_;rintro z w6 ⟨rfl,r6,g6⟩;have b06:=b05.grown g6 b05.size (fun k h=>by cases h;exact hgl)
 have hcv:=vi (cap:=sz) 187 9 underlying187 underlying5 underlying9 r6;rw[hts] at hcv
 go_wp2
 go_ret
 exact⟨rfl,b06⟩
theorem Km (R D L G fam:Int)(gr:Bool)(sz ex fr:Nat)(F:Nat)(e f:Nat)(ts:List Nat)(w:World)(hfr:1+ex+fr=8*sz)(hex:ex≤15)(hsz:sz≤10)(he:e<65536)(hf:f<18446744073709551616)(hts:ts.length=sz)
  (HT: ∀g cap w1,ik w1 g (iS (1+ex) fr f (iS 1 ex e (List.replicate sz 0)))→yC F #[.slice (some ⟨g,0,none⟩) sz cap] w1 fun z w'=>z= .returned (.tuple #[])∧ik w' g ts∧w1.grownBy w' (some g))
  (HFR:yJ 130 #[ylV R D L G gr sz ex fam F] (yi fr))
  (HE: ∀args W,Sem.run Tryz.prog (callFunc F args) W= .ok (.enter F args) W):
  yC 102 #[ylV R D L G gr sz ex fam F,yfV false e f] w (yR w (.string (cF ts))):=by
 have hsf:=cD;have l0:=(ah w (ylL R D L G gr sz ex fam F) 131).l (af _ (.cells (yfA false e f) 133));have m0:=ah (w.alloc (.cells (ylA R D L G gr sz ex fam F) 131)) (yfL false e f) 133;have b0:=aa (af w (.cells (ylA R D L G gr sz ex fam F) 131)) (af _ (.cells (yfA false e f) 133));rw[World.size_alloc] at m0;have H2:((w.alloc (.cells (ylA R D L G gr sz ex fam F) 131)).alloc (.cells (yfA false e f) 133)).heap.size=w.heap.size+2:=by rw[World.size_alloc,World.size_alloc]
 obtain⟨i0,hi,hz0,hz1,hz2⟩:=info_parts Tryz.infoU8;have HT':Hid _:=HT;have HFR':Hid _:=HFR;clear HT HFR;obtain⟨x0,x1,x2,x3,x4,x5,x6,x7,x8⟩:=l0.cs9;obtain⟨u0,u1,u2⟩:=m0.cs3
 go_enter func102,ntmps102
 go_wp2_with (at_make;refine wpList_make_full _ rfl _ _ 187 rfl (w.heap.size+2) 5 i0 (.int .u8 0) 1 underlying187 hi hz0 hz1 _ _ _ _ sz rfl rfl (by omega) (by omega) ?b2 ?b3 (Nat.le_of_eq H2.symm) ?_)
 case b2=>rw[hz2];omega
 case b3=>unfold maxLen;omega
 intro w1 hown hgrow;have r1:=Ev (gL hown);have bg:=(Below.refl _ _).grown hgrow (Nat.le_refl _) (fun k h=>by cases h)
 have l1:=l0.l bg;have m1:=m0.l bg;have b1:=aa b0 bg;clear hown hgrow bg l0 m0 b0 hi hz0 hz1 hz2 H2 x0 x1 x2 x3 x4 x5 x6 x7 x8 u0 u1 u2;obtain⟨g,hg⟩: ∃g,w.heap.size+2=g:=⟨_,rfl⟩;have hg0:w.heap.size≠g:=by omega
 have hg1:w.heap.size+1≠g:=by omega
 have hgl:w.heap.size≤g:=by omega
 rw[hg] at r1⊢;clear hg;have HSB:Hid (∀(c a b:Nat) (zs:List Nat) w1,ik w1 g zs→zs.length=sz→Dg.Small 256 zs→a+b≤8*sz→c<18446744073709551616→yC 140 #[.slice (some ⟨g,0,none⟩) sz sz,yi a,yi b,.int .u64 c] w1 fun z w'=>z= .returned (.tuple #[])∧ik w' g (iS a b c zs)∧w1.grownBy w' (some g)):=fun c a b zs w1 h hz hm hab hc=>by
  have:=AY g sz zs a b c w1 h hm hc (by omega) (by omega);rw[hz] at this;exact this
 have sm0:Dg.Small 256 (List.replicate sz 0):=by
  intro i
  by_cases hi:i<sz
  ·simp[List.getD_eq_getElem?_getD,hi]
  ·simp[List.getD_eq_getElem?_getD,hi]
 have ln0:(List.replicate sz 0).length=sz:=List.length_replicate;have hwe:IntKind.u64.wrap e=(e:Int):=IntWalk.u64_in _ ⟨by omega,by omega⟩;have hwr:IntKind.i64.wrap (1+(ex:Int))=1+(ex:Int):=IntWalk.i64_in _ ⟨by omega,by omega⟩;have HN:Hid _:=hfr;obtain⟨z2,hz2⟩: ∃z,iS 1 ex e (List.replicate sz 0)=z:=⟨_,rfl⟩;obtain⟨z3,hz3⟩: ∃z,iS (1+ex) fr f z2=z:=⟨_,rfl⟩;have ln2:z2.length=sz:=by rw[←hz2,il];exact ln0
 have sm2:Dg.Small 256 z2:=by rw[←hz2];exact mj _ _ _ _ sm0
 have hs1:=HSB.out e 1 ex (List.replicate sz 0) _ r1 ln0 sm0 (by omega) (by omega);have HS3:Hid (∀w1,ik w1 g z2→yC 140 #[.slice (some ⟨g,0,none⟩) sz sz,yi (1+(ex:Int)),yi fr,.int .u64 f] w1 fun z w'=>z= .returned (.tuple #[])∧ik w' g z3∧w1.grownBy w' (some g)):=fun w1 h=>by
  have:=HSB.out f (1+ex) fr z2 w1 h ln2 sm2 (by omega) hf;rw[hz3,show(((1+ex:Nat):Nat):Int)=1+(ex:Int) from by omega] at this
  exact this
 rw[hz2,hz3] at HT';rw[hz2] at hs1;have HS1:Hid _:=hs1;clear hs1 hz2 hz3 sm2 ln2 sm0 ln0 HSB hfr;obtain⟨x0,x1,x2,x3,x4,x5,x6,x7,x8⟩:=l1.cs9;obtain⟨u0,u1,u2⟩:=m1.cs3
 go_wp2_with fail
 refine Calls.mono HS1.out ?_;rintro z w3 ⟨rfl,r3,g3⟩;have l3:=(l1.grown g3 hg0).drew;have m3:=(m1.grown g3 hg1).drew;have b3:=(b1.grown g3 b1.size (fun k h=>by cases h;exact hgl)).drew
 have r3d:=r3.drew;clear x0 x1 x2 x3 x4 x5 x6 x7 x8 u0 u1 u2 l1 m1 b1 g3 HS1 r3 r1;obtain⟨x0,x1,x2,x3,x4,x5,x6,x7,x8⟩:=l3.cs9;obtain⟨u0,u1,u2⟩:=m3.cs3
 go_wp2_with fail
 go_region_held3 (fun wq=>(wq.cell? ⟨w.heap.size,0,none⟩=some (yi (R:Int))∧wq.cell? ⟨w.heap.size,1,none⟩=some (yi D)∧wq.cell? ⟨w.heap.size,2,none⟩=some (yi L)∧wq.cell? ⟨w.heap.size,3,none⟩=some (yi G)∧wq.cell? ⟨w.heap.size,4,none⟩=some (.bool gr)∧wq.cell? ⟨w.heap.size,5,none⟩=some (yi sz)∧wq.cell? ⟨w.heap.size,6,none⟩=some (yi ex)∧wq.cell? ⟨w.heap.size,7,none⟩=some (yi fam)∧wq.cell? ⟨w.heap.size,8,none⟩=some (.func (.func F) #[] #[]))∧(wq.cell? ⟨w.heap.size+1,0,none⟩=some (.bool false)∧wq.cell? ⟨w.heap.size+1,1,none⟩=some (yi e)∧wq.cell? ⟨w.heap.size+1,2,none⟩=some (.int .u64 f))) (go_keep) (first
  | (go_at_call 130;refine(HFR'.out _).mono ?_;rintro z w4 ⟨rfl,b4⟩;have l4:=l3.l b4;have m4:=m3.l b4;have b04:=aa b3 b4;have r4:=r3d.l b4;obtain⟨y0,y1,y2,y3,y4,y5,y6,y7,y8⟩:=l4.cs9;obtain⟨v0,v1,v2⟩:=m4.cs3)
  | (go_at_call 140;refine(HS3.out _ r4).mono ?_;rintro z w5 ⟨rfl,r5,g5⟩;have l5:=l4.grown g5 hg0;have m5:=m4.grown g5 hg1;have b05:=b04.grown g5 b04.size (fun k h=>by cases h;exact hgl);obtain⟨t0,t1,t2,t3,t4,t5,t6,t7,t8⟩:=l5.cs9;obtain⟨s0,s1,s2⟩:=m5.cs3))
 go_wp2_with fail
 refine(HT'.out _ _ _ r5).mono ?_;rintro z w6 ⟨rfl,r6,g6⟩;have b06:=b05.grown g6 b05.size (fun k h=>by cases h;exact hgl)
 have hcv:=vi (cap:=sz) 187 9 underlying187 underlying5 underlying9 r6;rw[hts] at hcv
 go_wp2
 go_ret
 exact⟨rfl,b06⟩
def kU (k:Nat)(ng:Bool)(e f:Nat):List Nat:=jT k (iS (1+exN k) (frN k) f (iS 1 (exN k) e (if ng then iS 0 1 1 (List.replicate (szN k) 0) else List.replicate (szN k) 0)))
theorem Mx (k:Nat)(ng:Bool)(e f:Nat):(kU k ng e f).length=szN k:=by
 unfold kU;rw[nM,il,il]
 split
 ·rw[il,List.length_replicate]
 ·rw[List.length_replicate]
theorem Aq (k:Nat)(hk:1≤k∧k≤8)(ng:Bool)(e f:Nat)(w:World)(he:e<65536)(hf:f<18446744073709551616):
  yC 102 #[.agg (tS k).toArray,yfV ng e f] w (yR w (.string (cF (kU k ng e f)))):=by
 obtain⟨h1,h2,h3,h4,h5,-⟩:=fZ hk;have hl:=Mx k ng e f;have HF:=fun w1=>tm k hk w1
 have HE:=fun args W=>Db k args W
 have HT:=fun zs (hz:zs.length=szN k) g cap w1 h=>IV k g cap zs w1 h (by omega) (by rw[hz];exact h5)
 cases ng
 ·have HT': ∀g cap w1,ik w1 g (iS (1+exN k) (frN k) f (iS 1 (exN k) e (List.replicate (szN k) 0)))→yC (C9 k) #[.slice (some ⟨g,0,none⟩) (szN k) cap] w1 fun z w'=>z= .returned (.tuple #[])∧ik w' g (kU k false e f)∧w1.grownBy w' (some g):=fun g cap w1 h=>by
   have hz:(iS (1+exN k) (frN k) f (iS 1 (exN k) e (List.replicate (szN k) 0))).length=szN k:=by rw[il,il,List.length_replicate]
   have:=HT _ hz g cap w1 h;rw[hz] at this;exact this
  rcases bO hk with rfl|rfl|rfl|rfl|rfl|rfl|rfl|rfl
  all_goals exact Km _ _ _ _ _ _ _ _ _ _ e f _ w h1 h2 h3 he hf hl HT' HF HE
 ·have HT': ∀g cap w1,ik w1 g (iS (1+exN k) (frN k) f (iS 1 (exN k) e (iS 0 1 1 (List.replicate (szN k) 0))))→yC (C9 k) #[.slice (some ⟨g,0,none⟩) (szN k) cap] w1 fun z w'=>z= .returned (.tuple #[])∧ik w' g (kU k true e f)∧w1.grownBy w' (some g):=fun g cap w1 h=>by
   have hz:(iS (1+exN k) (frN k) f (iS 1 (exN k) e (iS 0 1 1 (List.replicate (szN k) 0)))).length=szN k:=by rw[il,il,il,List.length_replicate]
   have:=HT _ hz g cap w1 h;rw[hz] at this;exact this
  rcases bO hk with rfl|rfl|rfl|rfl|rfl|rfl|rfl|rfl
  all_goals exact Mw _ _ _ _ _ _ _ _ _ _ e f _ w h1 h2 h3 he hf hl HT' HF HE
end Go.Proofs.YtpainhklfoaniaaGreatDoor
