/-
  Texts laid together: Ab3, Leaf, Wrong, Ref1, Ref2, Ref3, Row, Laws1, GrP, GrQ, Gq2, Gq7, Gr11, Ga5, Ga6, Fi1, Gr12, Gq9, Rb3.
-/
import Derived.Test.YtbdokgamhinajaaGreatDoorChecked
import Derived.ProofKit
import Derived.ShutString
import Derived.ChangeOld
import Derived.Below
import Derived.Test.YtbdokgamhinajaaGreatDoorSj45
set_option maxRecDepth 100000
set_option maxHeartbeats 6400000
namespace Go.Proofs.YtbdokgamhinajaaGreatDoor
open _root_.Go.Proofs.Tryz
open Go.RowKit
abbrev yEL (c:Int)(g:Bool)(t:ak)(o:Option Addr)(k:Nat):List Value:=[.int .i64 c,.bool g,.bool t.s,.slice o (Dg.dg 65536 t.n).length k,.int .i64 t.e]
abbrev yEV (c:Int)(g:Bool)(t:ak)(o:Option Addr)(k:Nat):Value:= .agg #[.int .i64 c,.bool g,.bool t.s,.slice o (Dg.dg 65536 t.n).length k,.int .i64 t.e]
abbrev yEA (c:Int)(g:Bool)(t:ak)(o:Option Addr)(k:Nat):Array Value:= #[.int .i64 c,.bool g,.bool t.s,.slice o (Dg.dg 65536 t.n).length k,.int .i64 t.e]
abbrev yML (t:ak)(o:Option Addr)(k:Nat):List Value:=[.bool t.s,.slice o (Dg.dg 65536 t.n).length k,.int .i64 t.e]
abbrev yMV (t:ak)(o:Option Addr)(k:Nat):Value:= .agg #[.bool t.s,.slice o (Dg.dg 65536 t.n).length k,.int .i64 t.e]
abbrev yMA (t:ak)(o:Option Addr)(k:Nat):Array Value:= #[.bool t.s,.slice o (Dg.dg 65536 t.n).length k,.int .i64 t.e]
abbrev yXL (c:Int)(g:Bool)(t:ak)(o:Option Addr)(k:Nat)(d:Int)(h:Bool)(s:ak)(p:Option Addr)(m:Nat):List Value:=[.int .i64 c,.bool g,.bool t.s,.slice o (Dg.dg 65536 t.n).length k,.int .i64 t.e,.int .i64 d,.bool h,.bool s.s,.slice p (Dg.dg 65536 s.n).length m,.int .i64 s.e]
theorem fP (v:Value)(zs:List Nat)(w:World)(h:Rd w .u32 v zs):
  yC 90 #[v] w fun e w'=>e= .returned (yi (chk zs))∧w'=w:=by
 obtain⟨ao,cap,rfl,hlc,hm,hc⟩:=h;unfold maxLen at hm
 by_cases h0:zs.length=0
 ·have hz:zs=[]:=List.eq_nil_of_length_eq_zero h0
  subst hz
  go_enter func90,ntmps90
  go_wp2
  go_ret
  exact⟨rfl,rfl⟩
 ·obtain⟨b,off,rfl,hcell⟩:=hc (by omega)
  have h1:=hcell (zs.length-1) (by omega)
  by_cases hz:zs.getD (zs.length-1) 0=0
  ·have e1:chk zs=1:=Oq (by omega) hz
   rw[e1];rw[hz] at h1;clear hcell hc e1 hz
   go_enter func90,ntmps90
   go_wp2
   go_ret
   exact⟨rfl,rfl⟩
  ·obtain⟨d,hd⟩: ∃d,zs.getD (zs.length-1) 0=d:=⟨_,rfl⟩
   by_cases hg:1200<zs.length
   ·rw[Ot hz hg]
    rw[hd] at h1 hz;clear hcell hc hd
    go_enter func90,ntmps90
    go_wp2
    go_ret
    exact⟨rfl,rfl⟩
   ·rw[ZT hz hg]
    rw[hd] at h1 hz;clear hcell hc hd
    go_enter func90,ntmps90
    go_wp2
    go_ret
    exact⟨rfl,rfl⟩
def gB (xs ys:List Nat):Int:=if chk xs=0 then chk ys else chk xs
theorem Dq {P:Program}{ops:Array Oper}{o:Oper}{a:Act}{w:World}{K:Act→World→Prop}{Q:Exit→Act→World→Prop}{E:Prop}
  (hg:o.guard=none) (s x:Operand) (t:TypeId) (hop:o.op=Op.call {callee:=Callee.builtin Builtin.append,args:= #[s,x],argTypes:= #[t,t]})
  (base:Nat) (e:TypeId) (i:TypeInfo) (z:Value) (size bytes:Nat) (ht:P.underlying t=some (.slice e)) (hi:P.info? e=some i) (hz:i.zero=some z)
  (hsize:i.size=size) (hby:i.bytes=bytes) (hzs:z.cells.size=size) (hsz:0<size)
  (v:Value) (n:Nat) (xs:List Value) (hs:a.eval s=v) (hown:w.ownsRow base e size v n xs)
  (ad:Addr) (m c:Nat) (news:List Value) (hx:a.eval x= .slice (some ad) m c) (hl:news.length=m*size) (hnews: ∀j u,news[j]? =some u→w.cell? (ad.add j)=some u) (h1: ∀u∈news,u.oneCell'=true)
  (h63:n+m≤maxLen) (hbytes:(n+m)*bytes≤140737488355328) (hbase:base≤w.heap.size)
  (hK: ∀v' w',w'.ownsRow base e size v' (n+m) (xs++news)→w.grownBy w' v.ownBlock→K (a.put o.dst v') w'):
  if Region.wanted o (yielded ops a.tmps)=true then Oper.wp P o a w K Q else E:=by
 have hw:Region.wanted o (yielded ops a.tmps)=true:=by simp[Region.wanted,hg]
 rw[if_pos hw];obtain⟨v',w',hrun,r1,r2,_⟩:=run_append_own (P:=P) w base t o.type e i z size bytes ht hi hz hsize hby hzs hsz v n xs hown ad m c news hl hnews h1 h63 hbytes hbase;unfold Oper.wp;simp[execOp,hop,resolve,invoke,builtin,hs,hx,hrun,Result.andThen];exact hK v' w' r1 r2
def mN (xs:List Nat):List Nat:=xs.flatMap (fun x=>[x % 65536,x/65536])
theorem zT (xs:List Nat):(mN xs).length=2*xs.length:=by
 induction xs with
 |nil=>rfl
 |cons x xs ih=>simp only[mN,List.flatMap_cons,List.length_append,List.length_cons,List.length_nil] at*;omega
theorem Tu (xs:List Nat):Dg.vl 65536 (mN xs)=Dg.vl 4294967296 xs:=by
 induction xs with
 |nil=>rfl
 |cons x xs ih=>
  have:mN (x::xs)=x % 65536::x/65536::mN xs:=rfl;rw[this];simp only[Dg.vl,ih];omega
theorem JG (xs:List Nat)(h:Dg.Small 4294967296 xs):Dg.Small 65536 (mN xs):=by
 induction xs with
 |nil=>exact Dg.small_nil _ (by omega)
 |cons x xs ih=>
  have h1:=Dg.small_cons.1 h;have:mN (x::xs)=x % 65536::x/65536::mN xs:=rfl;rw[this];exact Dg.small_cons.2 ⟨by omega,Dg.small_cons.2 ⟨by omega,ih h1.2⟩⟩
theorem LO (xs:List Nat)(k:Nat)(h:k<xs.length):mN (xs.take (k+1))=mN (xs.take k)++[xs.getD k 0 % 65536,xs.getD k 0/65536]:=by
 rw[Dg.take_succ' xs k h];simp[mN]
theorem Tv {w wr w3:World}{x y:Nat}{es:List Nat}{lv v':Value}(bel:yB w wr)(ownL:Own wr w.heap.size 3 .i64 lv es)
  (hown':w3.ownsRow w.heap.size 3 1 v' (es.length+2) ((es.map (fun n:Nat=>Value.int .i64 (n:Int)))++[yi (x:Int),yi (y:Int)]))
  (hgrow:(wr.alloc (.cells #[yi (x:Int),yi (y:Int)] 3)).drew.grownBy w3 lv.ownBlock):
  Own w3 w.heap.size 3 .i64 v' (es++[x,y])∧yB w w3:=by
 have b1:yB wr (wr.alloc (.cells #[yi (x:Int),yi (y:Int)] 3)).drew:=((Below.refl _ _).alloc (Nat.le_refl _) _).drew;refine⟨?_, ?_⟩
 ·unfold Own
  simpa using hown'
 ·refine(aa bel b1).grown hgrow (Nat.le_trans bel.size b1.size) (fun k hk=> ?_)
  exact(World.ownsRow.lt ownL k hk).1
theorem fQ (va:Value)(xs:List Nat)(w:World)(ha:Rd w .u32 va xs)(sa:Dg.Small 4294967296 xs)(hla:xs.length≤1000000):
  yC 51 #[va] w (cG w (Dg.vl 4294967296 xs)):=by
 obtain⟨ao,ca,rfl,-,-,hca⟩:=ha;obtain⟨i0,hi,hz0,hz1,hz2⟩:=info_parts Tryz.infoI64
 go_enter func51,ntmps51
 go_wp2
 go_loopw [3,4] (fun ov iv wr=> ∃k:Nat,k≤xs.length∧iv=yi k∧Own wr w.heap.size 3 .i64 ov (mN (xs.take k))∧yB w wr) (fun _ iv _=>xs.length-(intOf iv).toNat)
 case atStart=>exact⟨0,Nat.zero_le _,rfl,aQ _ _ _ _,Below.refl _ _⟩
 case round=>
  obtain⟨k,hk,rfl,own,bel⟩:=hrel
  by_cases hlt:k<xs.length
  ·obtain⟨b,off,rfl,hcell⟩:=hca (by omega)
   have hx:=cell_later bel (hcell k hlt);have hxl:=sa k;have hsn:=LO xs k hlt;obtain⟨x,ex⟩: ∃x,xs.getD k 0=x:=⟨_,rfl⟩;rw[ex] at hx hxl hsn;have HS:Hid _:=hsn;have hhl:(mN (xs.take k)).length≤2000000:=by rw[zT];simp;omega
   have hbs:=bel.size;obtain⟨es,ees⟩: ∃es,mN (xs.take k)=es:=⟨_,rfl⟩;rw[ees] at own hhl;have HE:Hid _:=ees;clear ex hcell hca hsn ees;obtain⟨p,hp⟩: ∃p,x % 65536=p:=⟨_,rfl⟩;obtain⟨q,hq⟩: ∃q,x/65536=q:=⟨_,rfl⟩;have e1:IntKind.i64.wrap (x:Int)=(x:Int):=IntWalk.i64_in _ ⟨by omega,by omega⟩;have e2:(x:Int).tmod 65536=(p:Int):=by rw[Int.tmod_eq_emod_of_nonneg (by omega)];omega
   have e3:IntKind.i64.wrap ((x:Int).tdiv 65536)=(q:Int):=by rw[Int.tdiv_eq_ediv_of_nonneg (by omega),IntWalk.i64_in _ ⟨by omega,by omega⟩];omega
   have e4:IntKind.i64.wrap ((x:Int)/65536)=(q:Int):=by rw[IntWalk.i64_in _ ⟨by omega,by omega⟩];omega
   rw[hp,hq] at HS;clear hp hq
   go_wp2
   go_region_law (refine Dq rfl (.tmp 11) (.tmp 24) 28 rfl w.heap.size 3 i0 (yi 0) 1 8 underlying28 hi hz0 hz1 hz2 rfl (by decide) _ es.length (es.map (fun n:Nat=>Value.int .i64 (n:Int))) rfl (World.ownsRow.drew (World.ownsRow.alloc own _)) ⟨wr.heap.size,0,none⟩ 2 2 [yi (p:Int),yi (q:Int)] rfl rfl (cell_two_new _ _ _ _) (by intro u hu;simp at hu;rcases hu with rfl|rfl<;>rfl) (by unfold maxLen;omega) (by omega) (by simp;omega) ?_;intro v' w3 hown' hgrow)
   all_goals
    have R:=Tv bel own hown' hgrow;clear hown' hgrow own e1 e2 e3 e4
    go_wp2
    go_roundw
    case rel=>
     have HS2:=HS.out;rw[HE.out] at HS2;exact⟨k+1,by omega,by go_num,by rw[HS2];exact R.1,R.2⟩
    case measure=>simp[intOf];omega
  ·have hke:k=xs.length:=by omega
   subst hke;have hshape:=own.rd.shape;rw[List.take_of_length_le (Nat.le_refl _)] at own;obtain⟨oo,oc,rfl⟩:=own.rd.shape
   go_wp2_with fail
   refine(i9 _ _ _ _ _ own.rd).mono ?_;rintro e w' ⟨n,rfl,hn,rfl⟩;have hnl:=hn.1;rw[zT] at hnl;have hr:=uE (cap':=n) 65536 (by omega) own.rd (JG xs sa) hn (Nat.le_refl _) (by unfold maxLen;omega);rw[Tu] at hr;clear hshape hn
   go_wp2
   go_ret
   exact⟨_,rfl,hr,bel⟩
theorem JJ (k:Nat):(65536:Nat)^ (2*k)=4294967296^k:=by rw[Nat.pow_mul]
theorem jJ (va vb:Value)(xs ys:List Nat)(w:World)(ha:Rd w .u32 va xs)(hb:Rd w .u32 vb ys):
  yC 48 #[va,vb] w fun e w'=>e= .returned (yi (gB xs ys))∧w'=w:=by
 have h1:=fP va xs w ha;have h2:=fP vb ys w hb;unfold gB;obtain⟨c,hc⟩: ∃c,chk xs=c:=⟨_,rfl⟩;rw[hc] at h1⊢;clear hc
 by_cases h:c=0
 ·subst h
  rw[if_pos rfl]
  go_enter func48,ntmps48
  go_wp2_with fail
  refine h1.mono ?_;rintro e w' ⟨rfl,rfl⟩
  go_wp2_with fail
  refine h2.mono ?_;rintro e w' ⟨rfl,rfl⟩
  go_wp2
  go_ret
  exact⟨rfl,rfl⟩
 ·rw[if_neg h]
  go_enter func48,ntmps48
  go_wp2_with fail
  refine h1.mono ?_;rintro e w' ⟨rfl,rfl⟩
  go_wp2
  go_ret
  exact⟨rfl,rfl⟩
theorem uw {w:World}{a:Option Addr}{len cap:Nat}{zs:List Int}
  (h:(a=none∧len=0∧cap=0∧zs=[])∨ ∃x,a=some x∧len≤cap∧cap≤maxLen∧zs.length=cap∧(∀i,i<zs.length→w.cell? (x.add i)=some (.int .u32 (zs.getD i 0)))∧ ∀n∈zs,(Lit.int .u32 n).wf=true):
  ∃xs,Rd w .u32 (.slice a len cap) xs∧Dg.Small 4294967296 xs:=by
 rcases h with⟨rfl,rfl,rfl,rfl⟩| ⟨x,rfl,hl,hm,hz,hcell,hwz⟩
 ·exact⟨[],⟨none,0,rfl,by simp,by unfold maxLen;omega,fun h=>by simp at h⟩,Dg.small_nil _ (by omega)⟩
 ·obtain⟨b,off,spot⟩:=x
  have hb: ∀i,i<zs.length→0≤zs.getD i 0∧zs.getD i 0<4294967296:=fun i hi=>by
   have:=bounds_u32 (hwz (zs.getD i 0) (by simp[List.getD_eq_getElem?_getD,hi]));omega
  have hlen:((zs.take len).map Int.toNat).length=len:=by simp;omega
  have hget: ∀i,i<len→(((zs.take len).map Int.toNat).getD i 0:Nat)=(zs.getD i 0).toNat:=fun i hi=>by
   have h1:i<zs.length:=by omega
   simp[List.getD_eq_getElem?_getD,hi,h1]
  refine⟨(zs.take len).map Int.toNat,⟨_,cap,by rw[hlen],by rw[hlen];exact hl,hm,fun hp=> ?_⟩,fun i=> ?_⟩
  ·rw[hlen] at hp
   have h0:=hcell 0 (by omega);have hspot:spot=none:=by simpa[Addr.add] using World.cell?_spot h0
   subst hspot;refine⟨b,off,rfl,fun i hi=> ?_⟩
   rw[hlen] at hi;have:=hcell i (by omega);rw[rO] at this;rw[this,hget i hi];have:=(hb i (by omega)).1
   congr 2
   omega
  ·by_cases hi:i<len
   ·rw[hget i hi];have:=hb i (by omega);omega
   ·rw[Dg.getD_of_le _ _ (by rw[hlen];omega)];omega
theorem oZ {xs:List Nat}(sa:Dg.Small 4294967296 xs):Dg.vl 4294967296 xs<65536^ (2*xs.length):=by
 rw[JJ];exact Dg.vl_lt _ _ sa
theorem zX {xs:List Nat}(sa:Dg.Small 4294967296 xs):(Dg.dg 65536 (Dg.vl 4294967296 xs)).length≤2*xs.length:=
 Dg.dg_len_le _ _ _ (by omega) (oZ sa)
open Go.ChangeShapes Go.WideShapes Go.ChangeAt Go.RowKit
theorem BP:Tryz.prog.cellsOf 3=1:=by kernel_rfl
theorem zI:Tryz.prog.cellsOf 4=1:=by kernel_rfl
theorem sw {H:Type}{enc:TypeId×Value→H}{P:Program}{w:World}{base:Nat}{spare:Nat→Bool}{held:Bool}{fuel:Nat}{t:TypeId}{cs:List Value}{x:DataW H×List MemPlace}(ht:P.underlying t=some .bool)(h:DataW.trod enc P w base spare held fuel t cs=some x): ∃b,cs=[.bool b]:=by
 cases fuel with
 |zero=>simp[DataW.trod] at h
 |succ n=>
  unfold DataW.trod at h;rw[ht] at h
  split at h<;>simp_all
theorem Zn {α:Type}{cs:Array α}(h:cs.size=4): ∃c0 c1 c2 c3,cs= #[c0,c1,c2,c3]:=by
 obtain⟨l⟩:=cs
 match l,h with
 | [c0,c1,c2,c3],_=>exact⟨c0,c1,c2,c3,rfl⟩
theorem adp:Tryz.prog.cellsOf 45=4:=by kernel_rfl
theorem xC:Tryz.prog.cellsOf 43=1:=by kernel_rfl
theorem sZ {H:Type}{enc:TypeId×Value→H}{W:World}{n:Nat}{c:Value}{y:DataW H×List MemPlace}(h:DataW.trod enc Tryz.prog W 0 (fun _=>true) true n 43 [c]=some y):
  ∃(xs:List Nat) (ao:Option Addr) (ca:Nat),c= .slice ao xs.length ca∧Rd W .u32 (.slice ao xs.length ca) xs∧Dg.Small 4294967296 xs:=by
 rcases open_ints underlying43 underlying148 (by kernel_rfl) h with⟨hcs,_⟩| ⟨x,l,c,zs,hcs,_,hl,hm,hz,_,hcell,hwz⟩
 ·simp at hcs
  exact⟨[],none,0,hcs,aN _ _,Dg.small_nil _ (by omega)⟩
 ·simp at hcs
  obtain⟨xs,hr,hsm⟩:=uw (w:=W) (a:=some x) (len:=l) (cap:=c) (zs:=zs) (.inr ⟨x,rfl,hl,hm,by simpa using hz,hcell,hwz⟩);obtain⟨ao,ca,hv⟩:=hr.shape;exact⟨xs,ao,ca,hcs.trans hv,hv▸hr,hsm⟩
theorem nT {H:Type}{enc:TypeId×Value→H}{W:World}{base:Nat}{v:Value}{d:DataW H}{p:List MemPlace}(hv:Value.okWide Tryz.prog W .any base 45 v)(h:DataW.Trod enc Tryz.prog W 0 (fun _=>true) true 45 v d p):
  ∃(s:Bool) (ao:Option Addr) (ca:Nat) (xs:List Nat) (bo:Option Addr) (cb:Nat) (ys:List Nat) (e:Int),v=(yrV s (.slice ao xs.length ca) (.slice bo ys.length cb) e)∧
   Rd W .u32 (.slice ao xs.length ca) xs∧Dg.Small 4294967296 xs∧Rd W .u32 (.slice bo ys.length cb) ys∧Dg.Small 4294967296 ys∧(Lit.int .i64 e).wf=true:=by
 obtain⟨cs,rfl,hsz⟩:=okWide_struct underlying45 hv;obtain⟨c0,c1,c2,c3,rfl⟩:=Zn (hsz.trans adp);obtain⟨fuel,hf⟩:=h;obtain⟨xs,n,_,_,hl,hlen,hff⟩:=DataW.trod_struct underlying45 hf;have h0:=hff 0 _ rfl;have h1:=hff 1 _ rfl;have h2:=hff 2 _ rfl;have h3:=hff 3 _ rfl
 match xs,hlen with
 | [y0,y1,y2,y3],_=>
  simp[Value.cells,BP,zI,xC] at h0 h1 h2 h3;obtain⟨s,e0⟩:=sw underlying4 h0;obtain⟨zs,ao,ca,rfl,r1,s1⟩:=sZ h1;obtain⟨ys,bo,cb,rfl,r2,s2⟩:=sZ h2;obtain⟨e,e3,-,w3⟩:=DataW.trod_int underlying3 h3;simp at e0 e3;subst e0 e3;exact⟨s,ao,ca,zs,bo,cb,ys,e,rfl,r1,s1,r2,s2,w3⟩
def ae0 (w:World)(s:Bool)(N M:Nat)(E:Int)(e:Ending)(w':World):Prop:=
 ∃ao ca bo cb,e= .returned (yrV s (.slice ao (Dg.dg 65536 N).length ca) (.slice bo (Dg.dg 65536 M).length cb) E)∧Rd w' .i64 (.slice ao (Dg.dg 65536 N).length ca) (Dg.dg 65536 N)∧Rd w' .i64 (.slice bo (Dg.dg 65536 M).length cb) (Dg.dg 65536 M)∧yB w w'
theorem On (qs:Bool)(ao:Option Addr)(ca:Nat)(xs:List Nat)(bo:Option Addr)(cb:Nat)(ys:List Nat)(E:Int)(w:World)(ha:Rd w .u32 (.slice ao xs.length ca) xs)(hb:Rd w .u32 (.slice bo ys.length cb) ys)(sa:Dg.Small 4294967296 xs)(sb:Dg.Small 4294967296 ys)(hla:xs.length≤20000)(hlb:ys.length≤20000):
  yC 23 #[yrV qs (.slice ao xs.length ca) (.slice bo ys.length cb) E] w (ae0 w qs (Dg.vl 4294967296 xs) (Dg.vl 4294967296 ys) E):=by
 have HOA:Hid (∀w1,yB w w1→yC 51 #[.slice ao xs.length ca] w1 (cG w1 (Dg.vl 4294967296 xs))):=fun w1 b1=>fQ _ xs w1 (ha.l b1) sa (by omega)
 have HOB:Hid (∀w1,yB w w1→yC 51 #[.slice bo ys.length cb] w1 (cG w1 (Dg.vl 4294967296 ys))):=fun w1 b1=>fQ _ ys w1 (hb.l b1) sb (by omega)
 obtain⟨N,hN⟩: ∃n,Dg.vl 4294967296 xs=n:=⟨_,rfl⟩;obtain⟨M,hM⟩: ∃n,Dg.vl 4294967296 ys=n:=⟨_,rfl⟩;rw[hN] at HOA⊢;rw[hM] at HOB⊢;obtain⟨la,hla2⟩: ∃n,xs.length=n:=⟨_,rfl⟩;obtain⟨lb,hlb2⟩: ∃n,ys.length=n:=⟨_,rfl⟩;rw[hla2] at HOA⊢;rw[hlb2] at HOB⊢;clear hN hM ha hb sa sb hla hlb hla2 hlb2;have b1:=aa (af w (.cells (yrA qs (.slice ao la ca) (.slice bo lb cb) E) 45)) (af _ (.cells (yrA false (.slice none 0 0) (.slice none 0 0) 0) 58));have q1:=(ah w (yrL qs (.slice ao la ca) (.slice bo lb cb) E) 45).l (af _ (.cells (yrA false (.slice none 0 0) (.slice none 0 0) 0) 58));have c1:=ah (w.alloc (.cells (yrA qs (.slice ao la ca) (.slice bo lb cb) E) 45)) (yrL false (.slice none 0 0) (.slice none 0 0) 0) 58;simp only[World.size_alloc] at c1;have q_2:=q1.l ((Below.refl _ _).drew);have c_2:=c1.l ((Below.refl _ _).drew);have b0_2:=aa b1 ((Below.refl _ _).drew);clear q1 c1 b1;obtain⟨y0,y1,y2,y3⟩:=q_2.cs4
 go_enter func23,ntmps23
 go_wp2_with fail
 go_region_held3 (fun wq=>wq.cell? ⟨w.heap.size,0,none⟩=some (.bool qs)∧wq.cell? ⟨w.heap.size,1,none⟩=some (.slice ao la ca)∧wq.cell? ⟨w.heap.size,2,none⟩=some (.slice bo lb cb)∧wq.cell? ⟨w.heap.size,3,none⟩=some (yi E)) (go_keep) (first
  | (go_at_call 51;have hgd:=b0_2;clear hgd;refine(HOA.out _ b0_2).mono ?_;rintro z wa ⟨v1,rfl,r1,bb_wa⟩;have b0_wa:=aa b0_2 bb_wa;have q_wa:=q_2.l bb_wa;have c_wa:=c_2.l bb_wa;obtain⟨ya0,ya1,ya2,ya3⟩:=q_wa.cs4;obtain⟨uo,uc,hs1⟩:=r1.shape;subst hs1;clear b0_2)
  | (go_at_call 51;have hgd:=b0_wa;clear hgd;refine(HOB.out _ b0_wa).mono ?_;rintro z wb ⟨v2,rfl,r2,bb_wb⟩;have b0_wb:=aa b0_wa bb_wb;have q_wb:=q_wa.l bb_wb;have c_wb:=c_wa.l bb_wb;have r_wb:=r1.l bb_wb;obtain⟨yb0,yb1,yb2,yb3⟩:=q_wb.cs4;obtain⟨vo,vc,hs2⟩:=r2.shape;subst hs2;have z0:=c_wb.c 0 rfl;have g0:=c_wb.f 0;have z1:=c_wb.c 1 rfl;have g1:=c_wb.f 1;have z2:=c_wb.c 2 rfl;have g2:=c_wb.f 2;have z3:=c_wb.c 3 rfl;have g3:=c_wb.f 3;clear b0_wa))
 all_goals go_wp2
 have bu:But (w.heap.size+1) wb ((((wb.setCell ⟨w.heap.size+1,0,none⟩ (.bool qs)).setCell ⟨w.heap.size+1,1,none⟩ (.slice uo (Dg.dg 65536 N).length uc)).setCell ⟨w.heap.size+1,2,none⟩ (.slice vo (Dg.dg 65536 M).length vc)).setCell ⟨w.heap.size+1,3,none⟩ (yi E)):=(((ag wb (w.heap.size+1) 0 (.bool qs)).trans (ag _ (w.heap.size+1) 1 (.slice uo (Dg.dg 65536 N).length uc))).trans (ag _ (w.heap.size+1) 2 (.slice vo (Dg.dg 65536 M).length vc))).trans (ag _ (w.heap.size+1) 3 (yi E));have cX:au ((((wb.setCell ⟨w.heap.size+1,0,none⟩ (.bool qs)).setCell ⟨w.heap.size+1,1,none⟩ (.slice uo (Dg.dg 65536 N).length uc)).setCell ⟨w.heap.size+1,2,none⟩ (.slice vo (Dg.dg 65536 M).length vc)).setCell ⟨w.heap.size+1,3,none⟩ (yi E)) (w.heap.size+1) 58 (yrL qs (.slice uo (Dg.dg 65536 N).length uc) (.slice vo (Dg.dg 65536 M).length vc) E):=(((c_wb.set 0 (.bool qs)).set 1 (.slice uo (Dg.dg 65536 N).length uc)).set 2 (.slice vo (Dg.dg 65536 M).length vc)).set 3 (yi E);have hz: ∀x∈((yrL false (.slice none 0 0) (.slice none 0 0) 0):List Value),∀n:Int,n≠0→x≠yi n:=by simp;intro n hn h;exact hn h.symm
 have rX:=bu.rd r_wb (cq r_wb (Dg.norm_dg _ _ (by omega)) c_wb hz);have eX:=bu.rd r2 (cq r2 (Dg.norm_dg _ _ (by omega)) c_wb hz);have bX:=bu.below b0_wb (show w.heap.size≤w.heap.size+1 by omega)
 obtain⟨s0,s1,s2,s3⟩:=cX.cs4;refine bodyPost_ret (v:=(yrV qs (.slice uo (Dg.dg 65536 N).length uc) (.slice vo (Dg.dg 65536 M).length vc) E)) (by simp[results,results23,go_sem,s0,s1,s2,s3]) rfl ?_;exact⟨_,_,_,_,rfl,rX,eX,bX⟩
theorem NT (R D L G:Int)(gr qs:Bool)(no:Option Addr)(nc:Nat)(eo:Option Addr)(ec:Nat)(N M:Nat)(E way:Int)(w:World)(hg:bk R D L G=0)(hway:iC way=true)
  (ha:Rd w .i64 (.slice no (Dg.dg 65536 N).length nc) (Dg.dg 65536 N)) (hb:Rd w .i64 (.slice eo (Dg.dg 65536 M).length ec) (Dg.dg 65536 M)) (hla:(Dg.dg 65536 N).length≤20000) (hlb:(Dg.dg 65536 M).length≤20000) (hN:N≠0) (hM:M≠0) (e1: -20000≤E) (e2:E≤20000):
  yC 50 #[yrV qs (.slice no (Dg.dg 65536 N).length nc) (.slice eo (Dg.dg 65536 M).length ec) E,ygV R D L G gr,yi way] w (GT w (cI R D L G gr qs N M E way)):=by
 have hbn:=vR hla;have hbm:=vR hlb;exact KU R D L G gr qs no nc eo ec N M E way w hg hway ha hb hla hlb hN hM (by omega) (by omega) (by omega) (by omega)
theorem GV (qs:Bool)(ao:Option Addr)(la ca:Nat)(bo:Option Addr)(lb cb:Nat)(E c:Int)(r:Int)(w:World)
  (HZ:c=0→lb=0∨E< -20000∨20000<E→r=3) (HO:c=0→ ¬(lb=0∨E< -20000∨20000<E)→r=0) (HN: ¬c=0→r=c)
  (HT: ∀w1,yB w w1→yC 48 #[.slice ao la ca,.slice bo lb cb] w1 fun e w'=>e= .returned (yi c)∧w'=w1):
  yC 19 #[yrV qs (.slice ao la ca) (.slice bo lb cb) E] w (yR w (yi r)):=by
 replace HT:Hid _:=HT;have b1:=af w (.cells (yrA qs (.slice ao la ca) (.slice bo lb cb) E) 45);have l1:=ah w (yrL qs (.slice ao la ca) (.slice bo lb cb) E) 45;have x1:=l1.c 1 rfl;have x2:=l1.c 2 rfl;have x3:=l1.c 3 rfl
 by_cases hc:c=0
 ·have HZ2:=HZ hc
  have HO2:=HO hc;clear HZ HO HN;subst hc
  by_cases h0:lb=0
  ·have e:=HZ2 (.inl h0)
   clear HZ2 HO2;subst e h0
   go_enter func19,ntmps19
   go_wp2_with fail
   refine(HT.out _ b1).mono ?_;rintro z w2 ⟨rfl,rfl⟩
   go_wp2
   go_ret
   exact⟨rfl,b1⟩
  ·have hlf:((lb:Int)==0)=false:=by simp;exact h0
   by_cases h1:E< -20000
   ·have e:=HZ2 (.inr (.inl h1))
    clear HZ2 HO2;subst e
    go_enter func19,ntmps19
    go_wp2_with fail
    refine(HT.out _ b1).mono ?_;rintro z w2 ⟨rfl,rfl⟩
    go_wp2
    go_ret
    exact⟨rfl,b1⟩
   ·by_cases h2:20000<E
    ·have e:=HZ2 (.inr (.inr h2))
     clear HZ2 HO2;subst e
     go_enter func19,ntmps19
     go_wp2_with fail
     refine(HT.out _ b1).mono ?_;rintro z w2 ⟨rfl,rfl⟩
     go_wp2
     go_ret
     exact⟨rfl,b1⟩
    ·have e:=HO2 (by omega)
     clear HZ2 HO2;subst e
     go_enter func19,ntmps19
     go_wp2_with fail
     refine(HT.out _ b1).mono ?_;rintro z w2 ⟨rfl,rfl⟩
     go_wp2
     go_ret
     exact⟨rfl,b1⟩
 ·have e:=HN hc
  clear HZ HO HN;subst e;have hcf:(r==0)=false:=by simp;exact hc
  go_enter func19,ntmps19
  go_wp2_with fail
  refine(HT.out _ b1).mono ?_;rintro z w2 ⟨rfl,rfl⟩
  go_wp2
  go_ret
  exact⟨rfl,b1⟩
theorem Xu (n f0 f1' f2 R D L G fam E wy f1 e1:Int)(gr qs:Bool)(ao bo:Option Addr)(la ca lb cb:Nat)(st:ByteArray)(w:World)(HA:yH w 17 #[yi n,yrV qs (.slice ao la ca) (.slice bo lb cb) E,yi wy] (.tuple #[.string st,yi f1,yi e1]))
  (HF:yJ 18 #[yi n] (.tuple #[.agg #[yi f0,yi f1',yi f2,yi R,yi D,yi L,yi G,.bool gr,yi fam],.bool false]))
  (HZ:yJ 21 #[yi 1,.bool false] (yoV 1 false false (.slice none 0 0) 0))
  (HB:yH w 11 #[] (.bool true))
  (HI:yH w 12 #[yi n,.string st,yi f1,yi e1,yi 6,yoV 1 false false (.slice none 0 0) 0,yi 0] (.bool true)):
  yC 6 #[yi n,yrV qs (.slice ao la ca) (.slice bo lb cb) E,yi wy] w (yR w (.bool true)):=by
 replace HA:Hid _:=HA;replace HF:Hid _:=HF;replace HZ:Hid _:=HZ;replace HB:Hid _:=HB;replace HI:Hid _:=HI;obtain⟨W3,hW4,q1,b2⟩:=cA w (yrL qs (.slice ao la ca) (.slice bo lb cb) E) 45;replace hW4:Hid _:=hW4
 go_enter func6,ntmps6
 go_upto_region 1 with fail
 rw[hW4.out];clear hW4;obtain⟨c5,c6,c7,c8⟩:=q1.cs4
 go_wp2_with fail
 refine(HA.out _ b2).mono ?_;rintro zz w9 ⟨rfl,bb10⟩;have b11:=aa b2 bb10;clear q1 b2 bb10 HA c5 c6 c7 c8
 go_wp2_with fail
 refine(HF.out _).mono ?_;rintro zz w12 ⟨rfl,bb13⟩;have b14:=aa b11 bb13;clear b11 bb13 HF;obtain⟨W18,hW17,q16,al15⟩:=cA w12 [yi f0,yi f1',yi f2,yi R,yi D,yi L,yi G,.bool gr,yi fam] 50;replace hW17:Hid _:=hW17;have hl19:w.heap.size≤w12.heap.size:=b14.size;have b20:=aa b14 al15;clear b14 al15 q16
 go_upto_region 4 with fail
 rw[hW17.out];clear hW17
 go_wp2_with fail
 refine(HZ.out _).mono ?_;rintro zz w21 ⟨rfl,bb22⟩;have b23:=aa b20 bb22;clear b20 bb22 HZ;obtain⟨W27,hW26,q25,al24⟩:=cA w21 (yoL 1 false false (.slice none 0 0) 0) 32;replace hW26:Hid _:=hW26;have hl28:w.heap.size≤w21.heap.size:=b23.size;have b29:=aa b23 al24;clear b23 al24
 go_upto_region 11 with fail
 rw[hW26.out];clear hW26
 go_wp2_with fail
 refine(HB.out _ b29).mono ?_;rintro zz w30 ⟨rfl,bb31⟩;have q32:=q25.l bb31;have b33:=aa b29 bb31;clear q25 b29 bb31 HB;obtain⟨c34,c35,c36,c37,c38⟩:=q32.cs5
 go_wp2_with fail
 refine(HI.out _ b33).mono ?_;rintro zz w39 ⟨rfl,bb40⟩;have b41:=aa b33 bb40;clear q32 b33 bb40 HI c34 c35 c36 c37 c38
 go_wp2
 go_ret
 exact⟨by simp,b41⟩
theorem aam (r:Int)(n f0 f1' f2 R D L G fam E wy f1 e1:Int)(gr qs:Bool)(ao bo:Option Addr)(la ca lb cb:Nat)(st:ByteArray)(w:World)(hr:(r==0)=false)(HA:yH w 17 #[yi n,yrV qs (.slice ao la ca) (.slice bo lb cb) E,yi wy] (.tuple #[.string st,yi f1,yi e1]))
  (HF:yJ 18 #[yi n] (.tuple #[.agg #[yi f0,yi f1',yi f2,yi R,yi D,yi L,yi G,.bool gr,yi fam],.bool true]))
  (HC:yH w 19 #[yrV qs (.slice ao la ca) (.slice bo lb cb) E] (yi r))
  (HZ:yJ 21 #[yi 1,.bool false] (yoV 1 false false (.slice none 0 0) 0))
  (HB:yH w 11 #[] (.bool true))
  (HI:yH w 12 #[yi n,.string st,yi f1,yi e1,yi r,yoV 1 false false (.slice none 0 0) 0,yi 0] (.bool true)):
  yC 6 #[yi n,yrV qs (.slice ao la ca) (.slice bo lb cb) E,yi wy] w (yR w (.bool true)):=by
 replace HA:Hid _:=HA;replace HF:Hid _:=HF;replace HC:Hid _:=HC;replace HZ:Hid _:=HZ;replace HB:Hid _:=HB;replace HI:Hid _:=HI;obtain⟨W3,hW4,q1,b2⟩:=cA w (yrL qs (.slice ao la ca) (.slice bo lb cb) E) 45;replace hW4:Hid _:=hW4
 go_enter func6,ntmps6
 go_upto_region 1 with fail
 rw[hW4.out];clear hW4;obtain⟨c5,c6,c7,c8⟩:=q1.cs4
 go_wp2_with fail
 refine(HA.out _ b2).mono ?_;rintro zz w9 ⟨rfl,bb10⟩;have q11:=q1.l bb10;have b12:=aa b2 bb10;clear q1 b2 bb10 HA c5 c6 c7 c8
 go_wp2_with fail
 refine(HF.out _).mono ?_;rintro zz w13 ⟨rfl,bb14⟩;have q15:=q11.l bb14;have b16:=aa b12 bb14;clear q11 b12 bb14 HF;obtain⟨W20,hW19,q18,al17⟩:=cA w13 [yi f0,yi f1',yi f2,yi R,yi D,yi L,yi G,.bool gr,yi fam] 50;replace hW19:Hid _:=hW19;have hl21:w.heap.size≤w13.heap.size:=b16.size;have q22:=q15.l al17;have b23:=aa b16 al17;clear q15 b16 al17 q18
 go_upto_region 4 with fail
 rw[hW19.out];clear hW19;obtain⟨c24,c25,c26,c27⟩:=q22.cs4
 go_wp2_with fail
 refine(HC.out _ b23).mono ?_;rintro zz w28 ⟨rfl,bb29⟩;have b30:=aa b23 bb29;clear q22 b23 bb29 HC c24 c25 c26 c27
 go_wp2_with fail
 refine(HZ.out _).mono ?_;rintro zz w31 ⟨rfl,bb32⟩;have b33:=aa b30 bb32;clear b30 bb32 HZ;obtain⟨W37,hW36,q35,al34⟩:=cA w31 (yoL 1 false false (.slice none 0 0) 0) 32;replace hW36:Hid _:=hW36;have hl38:w.heap.size≤w31.heap.size:=b33.size;have b39:=aa b33 al34;clear b33 al34
 go_upto_region 11 with fail
 rw[hW36.out];clear hW36
 go_wp2_with fail
 refine(HB.out _ b39).mono ?_;rintro zz w40 ⟨rfl,bb41⟩;have q42:=q35.l bb41;have b43:=aa b39 bb41;clear q35 b39 bb41 HB;obtain⟨c44,c45,c46,c47,c48⟩:=q42.cs5
 go_wp2_with fail
 refine(HI.out _ b43).mono ?_;rintro zz w49 ⟨rfl,bb50⟩;have b51:=aa b43 bb50;clear q42 b43 bb50 HI c44 c45 c46 c47 c48
 go_wp2
 go_ret
 exact⟨by simp,b51⟩
theorem aan (n f0 f1' f2 R D L G fam E wy f1 e1:Int)(gr qs:Bool)(ao bo:Option Addr)(la ca lb cb:Nat)(st:ByteArray)(w:World)(HA:yH w 17 #[yi n,yrV qs (.slice ao la ca) (.slice bo lb cb) E,yi wy] (.tuple #[.string st,yi f1,yi e1]))
  (HF:yJ 18 #[yi n] (.tuple #[.agg #[yi f0,yi f1',yi f2,yi R,yi D,yi L,yi G,.bool gr,yi fam],.bool true]))
  (HC:yH w 19 #[yrV qs (.slice ao la ca) (.slice bo lb cb) E] (yi 0))
  (HY: ∀w1,yC 20 #[yi wy] w1 fun z w'=>z= .returned (.bool false)∧w'=w1)
  (HZ:yJ 21 #[yi 1,.bool false] (yoV 1 false false (.slice none 0 0) 0))
  (HB:yH w 11 #[] (.bool true))
  (HI:yH w 12 #[yi n,.string st,yi f1,yi e1,yi 6,yoV 1 false false (.slice none 0 0) 0,yi 0] (.bool true)):
  yC 6 #[yi n,yrV qs (.slice ao la ca) (.slice bo lb cb) E,yi wy] w (yR w (.bool true)):=by
 replace HA:Hid _:=HA;replace HF:Hid _:=HF;replace HC:Hid _:=HC;replace HY:Hid _:=HY;replace HZ:Hid _:=HZ;replace HB:Hid _:=HB;replace HI:Hid _:=HI;obtain⟨W3,hW4,q1,b2⟩:=cA w (yrL qs (.slice ao la ca) (.slice bo lb cb) E) 45;replace hW4:Hid _:=hW4
 go_enter func6,ntmps6
 go_upto_region 1 with fail
 rw[hW4.out];clear hW4;obtain⟨c5,c6,c7,c8⟩:=q1.cs4
 go_wp2_with fail
 refine(HA.out _ b2).mono ?_;rintro zz w9 ⟨rfl,bb10⟩;have q11:=q1.l bb10;have b12:=aa b2 bb10;clear q1 b2 bb10 HA c5 c6 c7 c8
 go_wp2_with fail
 refine(HF.out _).mono ?_;rintro zz w13 ⟨rfl,bb14⟩;have q15:=q11.l bb14;have b16:=aa b12 bb14;clear q11 b12 bb14 HF;obtain⟨W20,hW19,q18,al17⟩:=cA w13 [yi f0,yi f1',yi f2,yi R,yi D,yi L,yi G,.bool gr,yi fam] 50;replace hW19:Hid _:=hW19;have hl21:w.heap.size≤w13.heap.size:=b16.size;have q22:=q15.l al17;have b23:=aa b16 al17;clear q15 b16 al17 q18
 go_upto_region 4 with fail
 rw[hW19.out];clear hW19;obtain⟨c24,c25,c26,c27⟩:=q22.cs4
 go_wp2_with fail
 refine(HC.out _ b23).mono ?_;rintro zz w28 ⟨rfl,bb29⟩;have b30:=aa b23 bb29;clear q22 b23 bb29 HC c24 c25 c26 c27
 go_wp2_with fail
 refine(HY.out _).mono ?_;rintro zz w31 ⟨rfl,rfl⟩
 go_wp2_with fail
 refine(HZ.out _).mono ?_;rintro zz w33 ⟨rfl,bb34⟩;have b35:=aa b30 bb34;clear b30 bb34 HZ;obtain⟨W39,hW38,q37,al36⟩:=cA w33 (yoL 1 false false (.slice none 0 0) 0) 32;replace hW38:Hid _:=hW38;have hl40:w.heap.size≤w33.heap.size:=b35.size;have b41:=aa b35 al36;clear b35 al36
 go_upto_region 11 with fail
 rw[hW38.out];clear hW38
 go_wp2_with fail
 refine(HB.out _ b41).mono ?_;rintro zz w42 ⟨rfl,bb43⟩;have q44:=q37.l bb43;have b45:=aa b41 bb43;clear q37 b41 bb43 HB;obtain⟨c46,c47,c48,c49,c50⟩:=q44.cs5
 go_wp2_with fail
 refine(HI.out _ b45).mono ?_;rintro zz w51 ⟨rfl,bb52⟩;have b53:=aa b45 bb52;clear q44 b45 bb52 HI c46 c47 c48 c49 c50
 go_wp2
 go_ret
 exact⟨by simp,b53⟩
theorem Xv (n f0 f1' f2 R D L G fam E wy f1 e1:Int)(gr qs:Bool)(ao bo:Option Addr)(ca lb cb:Nat)(st:ByteArray)(w:World)(HA:yH w 17 #[yi n,yrV qs (.slice ao 0 ca) (.slice bo lb cb) E,yi wy] (.tuple #[.string st,yi f1,yi e1]))
  (HF:yJ 18 #[yi n] (.tuple #[.agg #[yi f0,yi f1',yi f2,yi R,yi D,yi L,yi G,.bool gr,yi fam],.bool true]))
  (HC:yH w 19 #[yrV qs (.slice ao 0 ca) (.slice bo lb cb) E] (yi 0))
  (HY: ∀w1,yC 20 #[yi wy] w1 fun z w'=>z= .returned (.bool true)∧w'=w1)
  (HZ:yJ 21 #[yi 1,.bool false] (yoV 1 false false (.slice none 0 0) 0))
  (HB:yH w 11 #[] (.bool true))
  (HI:yH w 12 #[yi n,.string st,yi f1,yi e1,yi 0,yoV 1 false false (.slice none 0 0) 0,yi 0] (.bool true)):
  yC 6 #[yi n,yrV qs (.slice ao 0 ca) (.slice bo lb cb) E,yi wy] w (yR w (.bool true)):=by
 replace HA:Hid _:=HA;replace HF:Hid _:=HF;replace HC:Hid _:=HC;replace HY:Hid _:=HY;replace HZ:Hid _:=HZ;replace HB:Hid _:=HB;replace HI:Hid _:=HI;obtain⟨W3,hW4,q1,b2⟩:=cA w (yrL qs (.slice ao 0 ca) (.slice bo lb cb) E) 45;replace hW4:Hid _:=hW4
 go_enter func6,ntmps6
 go_upto_region 1 with fail
 rw[hW4.out];clear hW4;obtain⟨c5,c6,c7,c8⟩:=q1.cs4
 go_wp2_with fail
 refine(HA.out _ b2).mono ?_;rintro zz w9 ⟨rfl,bb10⟩;have q11:=q1.l bb10;have b12:=aa b2 bb10;clear q1 b2 bb10 HA c5 c6 c7 c8
 go_wp2_with fail
 refine(HF.out _).mono ?_;rintro zz w13 ⟨rfl,bb14⟩;have q15:=q11.l bb14;have b16:=aa b12 bb14;clear q11 b12 bb14 HF;obtain⟨W20,hW19,q18,al17⟩:=cA w13 [yi f0,yi f1',yi f2,yi R,yi D,yi L,yi G,.bool gr,yi fam] 50;replace hW19:Hid _:=hW19;have hl21:w.heap.size≤w13.heap.size:=b16.size;have q22:=q15.l al17;have b23:=aa b16 al17;clear q15 b16 al17 q18
 go_upto_region 4 with fail
 rw[hW19.out];clear hW19;obtain⟨c24,c25,c26,c27⟩:=q22.cs4
 go_wp2_with fail
 refine(HC.out _ b23).mono ?_;rintro zz w28 ⟨rfl,bb29⟩;have q30:=q22.l bb29;have b31:=aa b23 bb29;clear q22 b23 bb29 HC c24 c25 c26 c27
 go_wp2_with fail
 refine(HY.out _).mono ?_;rintro zz w32 ⟨rfl,rfl⟩
 go_wp2_with fail
 refine(HZ.out _).mono ?_;rintro zz w34 ⟨rfl,bb35⟩;have q36:=q30.l bb35;have b37:=aa b31 bb35;clear q30 b31 bb35 HZ;obtain⟨W41,hW40,q39,al38⟩:=cA w34 (yoL 1 false false (.slice none 0 0) 0) 32;replace hW40:Hid _:=hW40;have hl42:w.heap.size≤w34.heap.size:=b37.size;have q43:=q36.l al38;have b44:=aa b37 al38;clear q36 b37 al38
 go_upto_region 11 with fail
 rw[hW40.out];clear hW40;have c45:=q43.c 1 rfl
 go_wp2_with fail
 refine(HB.out _ b44).mono ?_;rintro zz w46 ⟨rfl,bb47⟩;have q48:=q39.l bb47;have b49:=aa b44 bb47;clear q43 q39 b44 bb47 HB c45;obtain⟨c50,c51,c52,c53,c54⟩:=q48.cs5
 go_wp2_with fail
 refine(HI.out _ b49).mono ?_;rintro zz w55 ⟨rfl,bb56⟩;have b57:=aa b49 bb56;clear q48 b49 bb56 HI c50 c51 c52 c53 c54
 go_wp2
 go_ret
 exact⟨by simp,b57⟩
theorem arithFits_num (n f0 f1' f2 R D L G fam E wy f1 e1 c fl:Int)(gr qs g:Bool)(t:ak)(N M:Nat)(ao bo:Option Addr)(la ca lb cb:Nat)(st:ByteArray)(w:World)(hl:0<la)
  (HA:yH w 17 #[yi n,yrV qs (.slice ao la ca) (.slice bo lb cb) E,yi wy] (.tuple #[.string st,yi f1,yi e1]))
  (HF:yJ 18 #[yi n] (.tuple #[.agg #[yi f0,yi f1',yi f2,yi R,yi D,yi L,yi G,.bool gr,yi fam],.bool true]))
  (HC:yH w 19 #[yrV qs (.slice ao la ca) (.slice bo lb cb) E] (yi 0))
  (HY: ∀w1,yC 20 #[yi wy] w1 fun z w'=>z= .returned (.bool true)∧w'=w1)
  (HZ:yJ 21 #[yi 1,.bool false] (yoV 1 false false (.slice none 0 0) 0))
  (HQ: ∀w1,yB w w1→yC 23 #[yrV qs (.slice ao la ca) (.slice bo lb cb) E] w1 (ae0 w1 qs N M E))
  (HT: ∀no nc mo mc w1,Rd w1 .i64 (.slice no (Dg.dg 65536 N).length nc) (Dg.dg 65536 N)→Rd w1 .i64 (.slice mo (Dg.dg 65536 M).length mc) (Dg.dg 65536 M)→yC 22 #[yi n,yrV qs (.slice no (Dg.dg 65536 N).length nc) (.slice mo (Dg.dg 65536 M).length mc) E,yi wy] w1 (RVG w1 c g t fl))
  (HB:yH w 11 #[] (.bool true))
  (HI: ∀so sc w1,yB w w1→Rd w1 .i64 (.slice so (Dg.dg 65536 t.n).length sc) (Dg.dg 65536 t.n)→yC 12 #[yi n,.string st,yi f1,yi e1,yi 0,yEV c g t so sc,yi fl] w1 (yR w1 (.bool true))):
  yC 6 #[yi n,yrV qs (.slice ao la ca) (.slice bo lb cb) E,yi wy] w (yR w (.bool true)):=by
 replace HA:Hid _:=HA;replace HF:Hid _:=HF;replace HC:Hid _:=HC;replace HY:Hid _:=HY;replace HZ:Hid _:=HZ;replace HQ:Hid _:=HQ;replace HT:Hid _:=HT;replace HB:Hid _:=HB;replace HI:Hid _:=HI;obtain⟨W3,hW4,q1,b2⟩:=cA w (yrL qs (.slice ao la ca) (.slice bo lb cb) E) 45;replace hW4:Hid _:=hW4
 go_enter func6,ntmps6
 go_upto_region 1 with fail
 rw[hW4.out];clear hW4;obtain⟨c5,c6,c7,c8⟩:=q1.cs4
 go_wp2_with fail
 refine(HA.out _ b2).mono ?_;rintro zz w9 ⟨rfl,bb10⟩;have q11:=q1.l bb10;have b12:=aa b2 bb10;clear q1 b2 bb10 HA c5 c6 c7 c8
 go_wp2_with fail
 refine(HF.out _).mono ?_;rintro zz w13 ⟨rfl,bb14⟩;have q15:=q11.l bb14;have b16:=aa b12 bb14;clear q11 b12 bb14 HF;obtain⟨W20,hW19,q18,al17⟩:=cA w13 [yi f0,yi f1',yi f2,yi R,yi D,yi L,yi G,.bool gr,yi fam] 50;replace hW19:Hid _:=hW19;have hl21:w.heap.size≤w13.heap.size:=b16.size;have q22:=q15.l al17;have b23:=aa b16 al17;clear q15 b16 al17 q18
 go_upto_region 4 with fail
 rw[hW19.out];clear hW19;obtain⟨c24,c25,c26,c27⟩:=q22.cs4
 go_wp2_with fail
 refine(HC.out _ b23).mono ?_;rintro zz w28 ⟨rfl,bb29⟩;have q30:=q22.l bb29;have b31:=aa b23 bb29;clear q22 b23 bb29 HC c24 c25 c26 c27
 go_wp2_with fail
 refine(HY.out _).mono ?_;rintro zz w32 ⟨rfl,rfl⟩;clear HY
 go_wp2_with fail
 refine(HZ.out _).mono ?_;rintro zz w34 ⟨rfl,bb35⟩;have q36:=q30.l bb35;have b37:=aa b31 bb35;clear q30 b31 bb35 HZ;obtain⟨W41,hW40,q39,al38⟩:=cA w34 (yoL 1 false false (.slice none 0 0) 0) 32;replace hW40:Hid _:=hW40;have hl42:w.heap.size≤w34.heap.size:=b37.size;have q43:=q36.l al38;have b44:=aa b37 al38;clear q36 b37 al38
 go_upto_region 11 with fail
 rw[hW40.out];clear hW40;obtain⟨c45,c46,c47,c48⟩:=q43.cs4
 go_wp2_with fail
 refine(HQ.out _ b44).mono ?_;rintro zz w49 ⟨no,nc,mo,mc,rfl,r151,r252,bb50⟩;have q53:=q39.l bb50;have b54:=aa b44 bb50;clear q43 q39 b44 bb50 HQ c45 c46 c47 c48;have hft:=q53.lt
 go_wp2_with fail
 refine(HT.out _ _ _ _ _ r151 r252).mono ?_;rintro zz w55 ⟨v157,rfl,r158,ff1,bb56⟩;have q59:=q53.l bb56;have b60:=aa b54 bb56;obtain⟨so,sc,hv⟩:=r158.shape;subst hv;clear q53 r151 r252 b54 bb56 HT;have bu:=((((ag w55 w34.heap.size 0 (yi c)).trans (ag _ w34.heap.size 1 (.bool g))).trans (ag _ w34.heap.size 2 (.bool t.s))).trans (ag _ w34.heap.size 3 (.slice so (Dg.dg 65536 t.n).length sc))).trans (ag _ w34.heap.size 4 (yi t.e));have q61:au (((((w55.setCell ⟨w34.heap.size,0,none⟩ (yi c)).setCell ⟨w34.heap.size,1,none⟩ (.bool g)).setCell ⟨w34.heap.size,2,none⟩ (.bool t.s)).setCell ⟨w34.heap.size,3,none⟩ (.slice so (Dg.dg 65536 t.n).length sc)).setCell ⟨w34.heap.size,4,none⟩ (yi t.e)) w34.heap.size 32 (yEL c g t so sc):=(((((q59.set 0 (yi c)).set 1 (.bool g)).set 2 (.bool t.s)).set 3 (.slice so (Dg.dg 65536 t.n).length sc)).set 4 (yi t.e));have c62:=q59.c 0 rfl;have y63:=q59.f 0;have c64:=q59.c 1 rfl;have y65:=q59.f 1;have c66:=q59.c 2 rfl;have y67:=q59.f 2;have c68:=q59.c 3 rfl;have y69:=q59.f 3;have c70:=q59.c 4 rfl;have y71:=q59.f 4;have r72:Rd (((((w55.setCell ⟨w34.heap.size,0,none⟩ (yi c)).setCell ⟨w34.heap.size,1,none⟩ (.bool g)).setCell ⟨w34.heap.size,2,none⟩ (.bool t.s)).setCell ⟨w34.heap.size,3,none⟩ (.slice so (Dg.dg 65536 t.n).length sc)).setCell ⟨w34.heap.size,4,none⟩ (yi t.e)) .i64 (.slice so (Dg.dg 65536 t.n).length sc) (Dg.dg 65536 t.n):=(((((r158.set_far ff1 hft (yi c)).set_far ff1 hft (.bool g)).set_far ff1 hft (.bool t.s)).set_far ff1 hft (.slice so (Dg.dg 65536 t.n).length sc)).set_far ff1 hft (yi t.e));clear ff1 hft;have b73:=bu.below b60 (by omega);clear bu
 go_upto_region 13 with fail
 generalize((((w55.setCell ⟨w34.heap.size,0,none⟩ (yi c)).setCell ⟨w34.heap.size,1,none⟩ (.bool g)).setCell ⟨w34.heap.size,2,none⟩ (.bool t.s)).setCell ⟨w34.heap.size,3,none⟩ (.slice so (Dg.dg 65536 t.n).length sc)).setCell ⟨w34.heap.size,4,none⟩ (yi t.e)=W74 at q61 r72 b73⊢;clear q59 r158 b60 c62 y63 c64 y65 c66 y67 c68 y69 c70 y71
 go_wp2_with fail
 refine(HB.out _ b73).mono ?_;rintro zz w75 ⟨rfl,bb76⟩;have q77:=q61.l bb76;have r78:=r72.l bb76;have b79:=aa b73 bb76;clear q61 r72 b73 bb76 HB;obtain⟨c80,c81,c82,c83,c84⟩:=q77.cs5
 go_wp2_with fail
 refine(HI.out _ _ _ b79 r78).mono ?_;rintro zz w85 ⟨rfl,bb86⟩;have b87:=aa b79 bb86;clear q77 r78 b79 bb86 HI c80 c81 c82 c83 c84
 go_wp2
 go_ret
 exact⟨by simp,b87⟩
theorem afh (n er wy:Int)(her:er≠0)(qs:Bool)(ao:Option Addr)(la ca:Nat)(bo:Option Addr)(lb cb:Nat)(E:Int)(w:World)
  (HD:yJ 43 #[yi n] (.tuple #[ykV 0 0 0 0 0 0 0 false,yi er])):
  yC 17 #[yi n,yrV qs (.slice ao la ca) (.slice bo lb cb) E,yi wy] w (yR w (.tuple #[.string ⟨#[]⟩,yi 0,yi er])):=by
 replace HD:Hid _:=HD;have he:(er==0)=false:=by simpa using her
 clear her;have a0:=af w (.cells (yrA qs (.slice ao la ca) (.slice bo lb cb) E) 45)
 go_enter func17,ntmps17
 go_wp2_with fail
 refine(HD.out _).mono ?_;rintro z w1 ⟨rfl,b1⟩;have b2:=aa (aa a0 b1) (af w1 (.cells (ykA 0 0 0 0 0 0 0 false) 69));clear a0 b1
 go_upto_region 2 with fail
 generalize w1.alloc (.cells (ykA 0 0 0 0 0 0 0 false) 69)=W1 at b2⊢
 go_wp2
 go_ret3
 exact⟨rfl,b2⟩
theorem afx (n wy fam R D L G rc:Int)(gr qs:Bool)(ao:Option Addr)(la ca:Nat)(bo:Option Addr)(lb cb:Nat)(E:Int)(ps:Bool)(pd:Nat)(pp:Int)(ex ov un:Bool)(c:Int)(g:Bool)(m:Nat)(q fl:Int)(st:ByteArray)(f1 e1:Int)(X:Value)(w:World)
  (hX0:rc≠0→X= .tuple #[.string ⟨#[]⟩,yi 0,yi rc]) (hX1:rc=0→X= .tuple #[.string st,yi f1,yi e1])
  (HD:yJ 43 #[yi n] (.tuple #[ykV n 0 fam R D L G gr,yi 0]))
  (HR: ∀w1,yB w w1→yC 44 #[yrV qs (.slice ao la ca) (.slice bo lb cb) E,ygV R D L G gr,yi wy] w1 fun z w'=> ∃po pc,z= .returned (.tuple #[ypV ps (.slice po (Dg.dg 4294967296 pd).length pc) pp ex ov un,yi rc])∧Rd w' .u32 (.slice po (Dg.dg 4294967296 pd).length pc) (Dg.dg 4294967296 pd)∧yB w1 w')
  (HSt:rc=0→ ∀po pc w1,yB w w1→Rd w1 .u32 (.slice po (Dg.dg 4294967296 pd).length pc) (Dg.dg 4294967296 pd)→yC 46 #[ykV n wy fam R D L G gr,ypV ps (.slice po (Dg.dg 4294967296 pd).length pc) pp ex ov un] w1 (B6 w1 c g m q fl))
  (HEn:rc=0→ ∀vo vc w1,yB w w1→Rd w1 .u32 (.slice vo (Dg.dg 4294967296 m).length vc) (Dg.dg 4294967296 m)→yC 45 #[ykV n wy fam R D L G gr,yvV c g (.slice vo (Dg.dg 4294967296 m).length vc) q,yi fl] w1 (yR w1 (.tuple #[.string st,yi f1,yi e1]))):
  yC 17 #[yi n,yrV qs (.slice ao la ca) (.slice bo lb cb) E,yi wy] w fun z w'=>z= .returned X∧yB w w':=by
 replace HD:Hid _:=HD;replace HR:Hid _:=HR;replace HSt:Hid _:=HSt;replace HEn:Hid _:=HEn;replace hX0:Hid _:=hX0;replace hX1:Hid _:=hX1;have a0:=af w (.cells (yrA qs (.slice ao la ca) (.slice bo lb cb) E) 45);have q0:=ah w (yrL qs (.slice ao la ca) (.slice bo lb cb) E) 45
 go_enter func17,ntmps17
 go_wp2_with fail
 refine(HD.out _).mono ?_;rintro z w1 ⟨rfl,b1⟩;have al:=af w1 (.cells (ykA n 0 fam R D L G gr) 69);have d1:=ah w1 (ykL n 0 fam R D L G gr) 69;have q1:=(q0.l b1).l al;have b2:=aa (aa a0 b1) al;have hqd:w.heap.size<w1.heap.size:=(q0.l b1).lt;clear a0 b1 al q0 HD
 go_upto_region 2 with fail
 generalize w1.alloc (.cells (ykA n 0 fam R D L G gr) 69)=W1 at b2 d1 q1⊢;generalize w1.heap.size=PD at d1 hqd⊢;have bu:=ag W1 PD 1 (yi wy);have d2:au (W1.setCell ⟨PD,1,none⟩ (yi wy)) PD 69 (ykL n wy fam R D L G gr):=d1.set 1 (yi wy);have q2:=bu.loc q1 (by omega);have b3:=bu.below b2 (by omega);have x1:=d1.c 1 rfl;have f1':=d1.f 1;clear bu d1 q1 b2
 go_upto_region 5 with fail
 generalize W1.setCell ⟨PD,1,none⟩ (yi wy)=W2 at d2 q2 b3⊢;obtain⟨y0,y1,y2,y3,y4,y5,y6,y7⟩:=d2.cs8;obtain⟨z0,z1,z2,z3⟩:=q2.cs4
 go_wp2_with fail
 refine(HR.out _ b3).mono ?_;rintro z w3 ⟨po,pc,rfl,rp,bp⟩;have al:=af w3 (.cells (ypA ps (.slice po (Dg.dg 4294967296 pd).length pc) pp ex ov un) 95);have p4:=ah w3 (ypL ps (.slice po (Dg.dg 4294967296 pd).length pc) pp ex ov un) 95;have d4:=(d2.l bp).l al;have r4:=rp.l al;have b4:=aa (aa b3 bp) al;clear y0 y1 y2 y3 y4 y5 y6 y7 z0 z1 z2 z3 d2 q2 b3 rp bp al HR x1 f1'
 go_upto_region 6 with fail
 generalize w3.alloc (.cells (ypA ps (.slice po (Dg.dg 4294967296 pd).length pc) pp ex ov un) 95)=W4 at d4 p4 r4 b4⊢;generalize w3.heap.size=PP at p4⊢
 by_cases hrc:rc=0
 ·replace HSt:Hid _:=HSt.out hrc
  replace HEn:Hid _:=HEn.out hrc;have hx:=hX1.out hrc;subst hx hrc;clear hX0 hX1
  go_upto_region 8 with fail
  have bW:yB W4 W4.drew:=(Below.refl _ _).drew;have d5:=d4.l bW;have p5:=p4.l bW;have r5:=r4.l bW;have b5:=aa b4 bW;clear bW d4 p4 r4 b4;refine wp_region_held_drew (S:=fun wq=>wq.rangeAt PD 0 (ykL n wy fam R D L G gr)∧wq.rangeAt PP 0 (ypL ps (.slice po (Dg.dg 4294967296 pd).length pc) pp ex ov un)) (by kernel_rfl) ⟨d5.range,p5.range⟩ (fun hS0=> ?_)
  refine wpAnyH_take (i:=0) (v:=(ykV n wy fam R D L G gr)) rfl (by kernel_rfl) (by kernel_rfl) (by kernel_rfl) (fun _ _ _ h=>h) (Or.inl ⟨by kernel_rfl,fun w0 hw0=>fy 69 (.tmp 9) rfl PD 0 (by kernel_rfl) _ _ hw0.1 underlying69 rfl (by kernel_rfl)⟩) hS0 ?_
  refine wpAnyH_take (i:=1) (v:=(ykV n wy fam R D L G gr)) rfl (by kernel_rfl) (by kernel_rfl) (by kernel_rfl) (fun _ _ _ h=>h) (Or.inl ⟨by kernel_rfl,fun w0 hw0=>fy 69 (.tmp 9) rfl PD 0 (by kernel_rfl) _ _ hw0.1 underlying69 rfl (by kernel_rfl)⟩) hS0 ?_
  refine wpAnyH_take (i:=2) (v:=(ypV ps (.slice po (Dg.dg 4294967296 pd).length pc) pp ex ov un)) rfl (by kernel_rfl) (by kernel_rfl) (by kernel_rfl) (fun _ _ _ h=>h) (Or.inl ⟨by kernel_rfl,fun w0 hw0=>fy 95 (.tmp 11) rfl PP 0 (by kernel_rfl) _ _ hw0.2 underlying95 rfl (by kernel_rfl)⟩) hS0 ?_
  refine wpAnyH_ready (rs:=[3]) (by kernel_rfl) (by simp) ?_;refine AllReadyH.cons rfl (fun K hK=> ?_) AllReadyH.nil
  go_simp
  refine(HSt.out _ _ _ b5 r5).mono ?_;rintro z w6 ⟨u,rfl,r6,b6⟩;obtain⟨vo,vc,hu⟩:=r6.shape;subst hu;refine hK.out _ _ ⟨(d5.l b6).range,(p5.l b6).range⟩ (fun hS6=> ?_)
  have d6:=d5.l b6;have p6:=p5.l b6;have b06:=aa b5 b6;clear hK K b6 d5 p5 r5 b5;refine wpAnyH_take (i:=4) (v:=(yvV c g (.slice vo (Dg.dg 4294967296 m).length vc) q)) rfl (by kernel_rfl) (by kernel_rfl) (by kernel_rfl) (fun _ _ _ h=>h) (Or.inl ⟨by kernel_rfl,fun w0 _=>by go_simp⟩) hS6 ?_
  refine wpAnyH_take (i:=5) (v:=yi fl) rfl (by kernel_rfl) (by kernel_rfl) (by kernel_rfl) (fun _ _ _ h=>h) (Or.inl ⟨by kernel_rfl,fun w0 _=>by go_simp⟩) hS6 ?_
  refine wpAnyH_ready (rs:=[6]) (by kernel_rfl) (by simp) ?_;refine AllReadyH.cons rfl (fun K hK=> ?_) AllReadyH.nil
  go_simp
  refine(HEn.out _ _ _ b06 r6).mono ?_;rintro z w7 ⟨rfl,b7⟩;refine hK.out _ _ ⟨(d6.l b7).range,(p6.l b7).range⟩ (fun hS7=> ?_)
  have b07:=aa b06 b7;clear hK K b7 d6 p6 b06 r6;refine wpAnyH_take (i:=7) (v:= .string st) rfl (by kernel_rfl) (by kernel_rfl) (by kernel_rfl) (fun _ _ _ h=>h) (Or.inl ⟨by kernel_rfl,fun w0 _=>by go_simp⟩) hS7 ?_
  refine wpAnyH_take (i:=8) (v:=yi f1) rfl (by kernel_rfl) (by kernel_rfl) (by kernel_rfl) (fun _ _ _ h=>h) (Or.inl ⟨by kernel_rfl,fun w0 _=>by go_simp⟩) hS7 ?_
  refine wpAnyH_take (i:=9) (v:=yi e1) rfl (by kernel_rfl) (by kernel_rfl) (by kernel_rfl) (fun _ _ _ h=>h) (Or.inl ⟨by kernel_rfl,fun w0 _=>by go_simp⟩) hS7 ?_
  refine wpAnyH_take (i:=10) (v:= .string st) rfl (by kernel_rfl) (by kernel_rfl) (by kernel_rfl) (fun _ _ _ h=>h) (Or.inl ⟨by kernel_rfl,fun w0 _=>by go_simp⟩) hS7 ?_
  refine wpAnyH_take (i:=11) (v:=yi f1) rfl (by kernel_rfl) (by kernel_rfl) (by kernel_rfl) (fun _ _ _ h=>h) (Or.inl ⟨by kernel_rfl,fun w0 _=>by go_simp⟩) hS7 ?_
  refine wpAnyH_take (i:=12) (v:=yi e1) rfl (by kernel_rfl) (by kernel_rfl) (by kernel_rfl) (fun _ _ _ h=>h) (Or.inl ⟨by kernel_rfl,fun w0 _=>by go_simp⟩) hS7 ?_
  simp only[Act.put,List.getElem_toArray,List.getElem_cons_succ,List.getElem_cons_zero,List.setIfInBounds_toArray,List.set_cons_zero,List.set_cons_succ];refine wpAnyH_done (by kernel_rfl) ?_ _
  go_wp2
  go_ret3
  exact⟨rfl,b07⟩
 ·have hx:=hX0.out hrc
  have hrf:(rc==0)=false:=by simpa using hrc
  subst hx;clear hX0 hX1 HSt HEn hrc
  go_wp2
  go_ret3
  exact⟨rfl,b4⟩
theorem N9 (E:Int):eJ 20000 E=true↔E< -20000∨20000<E:=by
 unfold eJ;simp
theorem AL (xs ys:List Nat)(E:Int):eA xs ys E=if gB xs ys=0 then(if ys.length=0∨eJ 20000 E=true then 3 else 0) else gB xs ys:=by
 unfold eA gB
 by_cases h1:chk xs=0
 ·rw[if_pos h1,if_pos h1]
 ·rw[if_neg h1,if_neg h1,if_neg h1]
theorem BN (qs:Bool)(ao:Option Addr)(ca:Nat)(xs:List Nat)(bo:Option Addr)(cb:Nat)(ys:List Nat)(E:Int)(w:World)(ha:Rd w .u32 (.slice ao xs.length ca) xs)(hb:Rd w .u32 (.slice bo ys.length cb) ys):
  yC 19 #[yrV qs (.slice ao xs.length ca) (.slice bo ys.length cb) E] w (yR w (yi (eA xs ys E))):=by
 refine GV qs ao xs.length ca bo ys.length cb E (gB xs ys) _ w ?_ ?_ ?_ (fun w1 b=>jJ _ _ xs ys w1 (ha.l b) (hb.l b))
 ·intro h1 h2
  rw[AL,if_pos h1,if_pos (h2.imp id (N9 E).2)]
 ·intro h1 h2
  rw[AL,if_pos h1,if_neg (fun c=>h2 (c.imp id (N9 E).1))]
 ·intro h
  rw[AL,if_neg h]
theorem M9 {xs ys:List Nat}{E R D L G way:Int}(h: ¬eA xs ys E=0):eE xs ys E R D L G way=eA xs ys E:=by
 have e:jg (eA xs ys E) (bk R D L G)=eA xs ys E:=if_neg h;unfold eE;rw[e,if_neg h]
theorem Na {xs ys:List Nat}{E R D L G way:Int}(h:eA xs ys E=0)(h2: ¬bk R D L G=0):eE xs ys E R D L G way=bk R D L G:=by
 have e:jg (eA xs ys E) (bk R D L G)=bk R D L G:=if_pos h;unfold eE;rw[e,if_neg h2]
theorem Bq {xs ys:List Nat}{E R D L G way:Int}(h:eA xs ys E=0)(h2:bk R D L G=0):eE xs ys E R D L G way=if iC way=true then 0 else 6:=by
 have e:jg (eA xs ys E) (bk R D L G)=bk R D L G:=if_pos h;unfold eE;rw[e,if_pos h2]
theorem Nb {xs ys:List Nat}{E R D L G way:Int}(h:eE xs ys E R D L G way=0):eA xs ys E=0∧bk R D L G=0∧iC way=true:=by
 by_cases h1:eA xs ys E=0
 ·by_cases h2:bk R D L G=0
  ·refine⟨h1,h2, ?_⟩
   rw[Bq h1 h2] at h
   by_cases h3:iC way=true
   ·exact h3
   ·rw[if_neg h3] at h
    cases h
  ·rw[Na h1 h2] at h
   exact absurd h h2
 ·rw[M9 h1] at h
  exact absurd h h1
theorem Sw {xs:List Nat}(sa:Dg.Small 4294967296 xs)(h:chk xs=0)(hl: ¬xs.length=0):Dg.vl 4294967296 xs≠0:=fun c=>by
 have ex:Dg.dg 4294967296 (Dg.vl 4294967296 xs)=xs:=Dg.dg_vl _ (by omega) _ sa (aF h).1;rw[c] at ex;rw[←ex] at hl;exact hl rfl
def fitT (k:Nat)(way:Int)(qs:Bool)(xs ys:List Nat)(E:Int):ByteArray×Int×Int:=
 if eE xs ys E (rdN k:Int) (dgN k:Int) (lsI k) (gsI k) way=0 then Dw k (pG k way (df xs ys E (rdN k:Int) (dgN k:Int) (lsI k) (gsI k) (decide (k≤3)) qs way)).1 (pG k way (df xs ys E (rdN k:Int) (dgN k:Int) (lsI k) (gsI k) (decide (k≤3)) qs way)).2.1 (pG k way (df xs ys E (rdN k:Int) (dgN k:Int) (lsI k) (gsI k) (decide (k≤3)) qs way)).2.2.1 (pG k way (df xs ys E (rdN k:Int) (dgN k:Int) (lsI k) (gsI k) (decide (k≤3)) qs way)).2.2.2.1 (pG k way (df xs ys E (rdN k:Int) (dgN k:Int) (lsI k) (gsI k) (decide (k≤3)) qs way)).2.2.2.2
 else(⟨#[]⟩,0,eE xs ys E (rdN k:Int) (dgN k:Int) (lsI k) (gsI k) way)
theorem fit_any (k:Nat)(hk:1≤k∧k≤8)(way:Int)(qs:Bool)(ao:Option Addr)(ca:Nat)(xs:List Nat)(bo:Option Addr)(cb:Nat)(ys:List Nat)(E:Int)(w:World)(ha:Rd w .u32 (.slice ao xs.length ca) xs)(hb:Rd w .u32 (.slice bo ys.length cb) ys)(sa:Dg.Small 4294967296 xs)(sb:Dg.Small 4294967296 ys)(hT:Tab w):
  yC 17 #[yi (k:Int),yrV qs (.slice ao xs.length ca) (.slice bo ys.length cb) E,yi way] w (mM (fitT k way qs xs ys E) w):=by
 unfold fitT;have HR:=fun w1 (b:yB w w1)=>jM qs ao ca xs bo cb ys E (rdN k:Int) (dgN k:Int) (lsI k) (gsI k) (decide (k≤3)) way w1 (ha.l b) (hb.l b) sa sb
 have hway:eE xs ys E (rdN k:Int) (dgN k:Int) (lsI k) (gsI k) way=0→1≤way∧way≤5:=fun h=>way_is.1 (Nb h).2.2
 generalize hP:df xs ys E (rdN k:Int) (dgN k:Int) (lsI k) (gsI k) (decide (k≤3)) qs way=P at*;generalize hC:eE xs ys E (rdN k:Int) (dgN k:Int) (lsI k) (gsI k) way=rc at*;exact afx (k:Int) way (dK (k:Int)) (rdN k:Int) (dgN k:Int) (lsI k) (gsI k) rc (decide (k≤3)) qs ao xs.length ca bo ys.length cb E P.s P.d P.p P.ex P.ov P.un (pG k way P).1 (pG k way P).2.1 (pG k way P).2.2.1 (pG k way P).2.2.2.1 (pG k way P).2.2.2.2 (Dw k (pG k way P).1 (pG k way P).2.1 (pG k way P).2.2.1 (pG k way P).2.2.2.1 (pG k way P).2.2.2.2).1 (Dw k (pG k way P).1 (pG k way P).2.1 (pG k way P).2.2.1 (pG k way P).2.2.2.1 (pG k way P).2.2.2.2).2.1 (Dw k (pG k way P).1 (pG k way P).2.1 (pG k way P).2.2.1 (pG k way P).2.2.2.1 (pG k way P).2.2.2.2).2.2 _ w (fun h=>by rw[if_neg h]) (fun h=>by rw[if_pos h]) (fun w1=>mp k hk w1) (fun w1 b=>(HR w1 b).mono (fun z w' h=>by
   obtain⟨v,h1,h2,h3⟩:=h;obtain⟨po,pc,e⟩:=h2.rd.shape;subst e;exact⟨po,pc,h1,h2.rd,h3⟩)) (fun h po pc w1 _ r=>Px k hk way (hway h) P po pc w1 r) (fun _ vo vc w1 b r=>CZ k way _ _ _ _ _ vo vc w1 r (hT.l b))
theorem fittedG_any (k:Nat)(hk:1≤k∧k≤8)(wy:Int)(hy:iC wy=true)(qs:Bool)(N M:Nat)(E:Int)(no mo:Option Addr)(nc mc:Nat)(w:World)(hN:N≠0)(hM:M≠0)(rN:Rd w .i64 (.slice no (Dg.dg 65536 N).length nc) (Dg.dg 65536 N))(rM:Rd w .i64 (.slice mo (Dg.dg 65536 M).length mc) (Dg.dg 65536 M))
  (lN:(Dg.dg 65536 N).length≤20000) (lM:(Dg.dg 65536 M).length≤20000) (e1: -20000≤E) (e2:E≤20000):
  yC 22 #[yi (k:Int),yrV qs (.slice no (Dg.dg 65536 N).length nc) (.slice mo (Dg.dg 65536 M).length mc) E,yi wy] w (RVG w (plV k wy (cI (rdN k:Int) (dgN k:Int) (lsI k) (gsI k) (decide (k≤3)) qs N M E wy)).1 (plV k wy (cI (rdN k:Int) (dgN k:Int) (lsI k) (gsI k) (decide (k≤3)) qs N M E wy)).2.1 (plV k wy (cI (rdN k:Int) (dgN k:Int) (lsI k) (gsI k) (decide (k≤3)) qs N M E wy)).2.2.1 (plV k wy (cI (rdN k:Int) (dgN k:Int) (lsI k) (gsI k) (decide (k≤3)) qs N M E wy)).2.2.2):=
 acs (k:Int) _ _ _ (rdN k:Int) (dgN k:Int) (lsI k) (gsI k) _ _ wy E _ (decide (k≤3)) _ _ qs N M no mo nc mc (cI (rdN k:Int) (dgN k:Int) (lsI k) (gsI k) (decide (k≤3)) qs N M E wy) _ w (fun w1=>form_any k hk w1) (fun w1 b=>NT _ _ _ _ _ qs no nc mo mc N M E wy w1 (eR hk).2.2.2.2.2.2.2.2.2.2.2 hy (rN.l b) (rM.l b) lN lM hN hM e1 e2) (fun po pc w1 h=>placed_any k hk wy (way_is.1 hy) _ (rnd_of hk qs N M E wy hN hM).plc po pc w1 h)
theorem or_set (k:Nat)(wy:Int)(P:fz):bits .or .i64 0 (pG k wy P).2.2.2.2=(pG k wy P).2.2.2.2:=by
 unfold pG
 split
 ·show bits .or .i64 0 5=5
  rfl
 ·split
  ·show bits .or .i64 0 3=3
   rfl
  ·show bits .or .i64 0 (if P.ex=true then 0 else if P.un=true then 3 else 1)=if P.ex=true then 0 else if P.un=true then 3 else 1
   split
   ·rfl
   ·split<;>rfl
theorem arithFits_walk (n:Int)(qs:Bool)(ao:Option Addr)(ca:Nat)(xs:List Nat)(bo:Option Addr)(cb:Nat)(ys:List Nat)(E:Int)(way:Int)(w:World)(ha:Rd w .u32 (.slice ao xs.length ca) xs)(hb:Rd w .u32 (.slice bo ys.length cb) ys)(sa:Dg.Small 4294967296 xs)(sb:Dg.Small 4294967296 ys)(hT:Tab w):
  yC 6 #[yi n,yrV qs (.slice ao xs.length ca) (.slice bo ys.length cb) E,yi way] w (yR w (.bool true)):=by
 have HB:=fun w1 (b:yB w w1)=>jx w1 (hT.l b)
 have HZ:yJ 21 #[yi 1,.bool false] (yoV 1 false false (.slice none 0 0) 0):=fun w1=>refZero_any 1 (by omega) false w1
 have HE: ∀e:Int,e≠0→yH w 12 #[yi n,.string ⟨#[]⟩,yi 0,yi e,yi e,yoV 1 false false (.slice none 0 0) 0,yi 0] (.bool true):=fun e he w1 _=>aal n 1 e 0 false ⟨false,0,0⟩ none 0 w1 (by simpa using he)
 by_cases hf:dK n=0
 ·exact Xu n _ _ _ _ _ _ _ _ E way _ _ _ qs ao bo xs.length ca ys.length cb _ w (fun w1 _=>afh n 6 way (by decide) qs ao _ ca bo _ cb E w1 (fun w2=>FM n 6 (by decide) w2 (fun w3=>vU n w3 hf))) (fun w1=>oT n w1 hf) HZ HB (HE 6 (by decide))
 obtain⟨k1,k2,k3⟩:=fF hf;obtain⟨k,rfl⟩: ∃k:Nat,n=(k:Int):=⟨n.toNat,k3.symm⟩;rw[Int.toNat_natCast] at k1 k2;have hk:1≤k∧k≤8:=⟨k1,k2⟩;have hg:=(eR hk).2.2.2.2.2.2.2.2.2.2.2;have HA:=fun w1 (b:yB w w1)=>fit_any k hk way qs ao ca xs bo cb ys E w1 (ha.l b) (hb.l b) sa sb (hT.l b)
 have HF:=fun w1=>form_any k hk w1
 have HC:=fun w1 (b:yB w w1)=>BN qs ao ca xs bo cb ys E w1 (ha.l b) (hb.l b)
 have HY:=fun w1=>qi way w1
 unfold fitT mM at HA
 by_cases hr:eA xs ys E=0
 rotate_left
 ·rw[if_neg (by rw[M9 hr];exact hr),M9 hr] at HA
  exact aam _ (k:Int) _ _ _ _ _ _ _ _ E way _ _ _ qs ao bo xs.length ca ys.length cb _ w (by simpa using hr) HA HF HC HZ HB (HE _ hr)
 rw[hr] at HC
 by_cases hy:iC way=true
 rotate_left
 ·have e6:eE xs ys E (rdN k:Int) (dgN k:Int) (lsI k) (gsI k) way=6:=by rw[Bq hr hg,if_neg hy]
  rw[if_neg (by rw[e6];decide),e6] at HA;rw[show iC way=false by simpa using hy] at HY
  exact aan (k:Int) _ _ _ _ _ _ _ _ E way _ _ _ qs ao bo xs.length ca ys.length cb _ w HA HF HC HY HZ HB (HE 6 (by decide))
 have e0:eE xs ys E (rdN k:Int) (dgN k:Int) (lsI k) (gsI k) way=0:=by rw[Bq hr hg,if_pos hy]
 rw[if_pos e0] at HA;rw[hy] at HY;have hp:df xs ys E (rdN k:Int) (dgN k:Int) (lsI k) (gsI k) (decide (k≤3)) qs way=if xs.length=0 then⟨false,0,0,true,false,false⟩ else cI (rdN k:Int) (dgN k:Int) (lsI k) (gsI k) (decide (k≤3)) qs (Dg.vl 4294967296 xs) (Dg.vl 4294967296 ys) E way:=if_pos e0
 rw[hp] at HA
 by_cases hz:xs.length=0
 ·rw[if_pos hz] at HA
  rw[hz] at HA HC⊢;have hs:SameV k (Dw k 1 false 0 0 0) (1,false,⟨false,0,0⟩,0):=same_oth hk (c:=1) (by decide) false 0 rfl (fun c=>by cases c)
  exact Xv (k:Int) _ _ _ _ _ _ _ _ E way _ _ _ qs ao bo ca ys.length cb _ w HA HF HC HY HZ HB (fun w1 _=>pat_ok hs none 0 w1 (aN w1 .i64))
 ·rw[if_neg hz] at HA
  obtain⟨c1,c2,hl,e1,e2⟩:=gO hr;have hN:Dg.vl 4294967296 xs≠0:=Sw sa c1 hz;have hM:Dg.vl 4294967296 ys≠0:=Sw sb c2 (by omega);have l1:=(aF c1).2;have l2:=(aF c2).2;have l3:=zX sa;have l4:=zX sb;have hs:=same_plc hk way _ (rnd_of hk qs (Dg.vl 4294967296 xs) (Dg.vl 4294967296 ys) E way hN hM);rw[or_set] at hs;exact arithFits_num (k:Int) _ _ _ _ _ _ _ _ E way _ _ _ _ _ qs _ _ (Dg.vl 4294967296 xs) (Dg.vl 4294967296 ys) ao bo xs.length ca ys.length cb _ w (Nat.pos_of_ne_zero hz) HA HF HC HY HZ (fun w1 b=>On qs ao ca xs bo cb ys E w1 (ha.l b) (hb.l b) sa sb (by omega) (by omega)) (fun no nc mo mc w1 r1 r2=>fittedG_any k hk way hy qs _ _ E no mo nc mc w1 hN hM r1 r2 (by omega) (by omega) e1 e2) HB (fun so sc w1 _ h=>pat_ok hs so sc w1 h)
end Go.Proofs.YtbdokgamhinajaaGreatDoor
