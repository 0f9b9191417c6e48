/-
  Texts laid together: Ab4, Mem, Ab2, Leaf, Ref1, Dy1, Dy2, Dr1, Lk.
-/
import Derived.OrdersHeld
import Derived.Test.YtiakgfmlpdfhdaaDoorSv01
import Derived.Test.YtiakgfmlpdfhdaaDoorSv02
set_option maxRecDepth 100000
set_option maxHeartbeats 1600000
namespace Go.Proofs.YtiakgfmlpdfhdaaDoor
open Go.RowKit
abbrev yN:Value:= .slice none 0 0
abbrev yS (o:Option Addr)(n c:Nat):Value:= .slice o (Dg.dg 65536 n).length c
abbrev yT (o:Option Addr)(n c:Nat):Value:= .slice o (Dg.dg 4294967296 n).length c
abbrev yhL (a b c R D L G:Int)(g:Bool)(f:Int):List Value:=[.int .i64 a,.int .i64 b,.int .i64 c,.int .i64 R,.int .i64 D,.int .i64 L,.int .i64 G,.bool g,.int .i64 f]
abbrev yhV (a b c R D L G:Int)(g:Bool)(f:Int):Value:= .agg #[.int .i64 a,.int .i64 b,.int .i64 c,.int .i64 R,.int .i64 D,.int .i64 L,.int .i64 G,.bool g,.int .i64 f]
abbrev yhA (a b c R D L G:Int)(g:Bool)(f:Int):Array Value:= #[.int .i64 a,.int .i64 b,.int .i64 c,.int .i64 R,.int .i64 D,.int .i64 L,.int .i64 G,.bool g,.int .i64 f]
theorem tq {P:Program}{md:Region.Mode}{ops:Array Oper}{Q:Exit→Act→World→Prop}{S:World→Prop}{oi:Oper}{fuel:Nat}{listed:Array Bool}{a:Act}{w:World}(i:Nat)(v:Value)(hi:ops[i]? =some oi)(hv: ∀w0,S w0→(execOp a.eval oi).run P w0= .ok (.value v) w0)(hS:S w)
  (h:wpAnyH P md ops Q S fuel (listed.setIfInBounds i true) (a.put oi.dst v) w)
  (hb:(Region.noSelect ops&&(Region.free md ops listed i&&((Region.ready md ops listed).contains i&&Region.wanted oi (yielded ops a.tmps))))=true:=by kernel_rfl)
  (hQ: ∀c a w,Q (.panic c) (a.put oi.dst v) w→Q (.panic c) a w:=by exact fun _ _ _ h=>h):wpAnyH P md ops Q S (fuel+1) listed a w:=by
 simp only[Bool.and_eq_true] at hb;exact wpAnyH_take hi hb.1 hb.2.1 hb.2.2.1 hQ (Or.inl ⟨hb.2.2.2,hv⟩) hS h
theorem aQ (w:World)(base e:Nat)(k:IntKind):Own w base e k yN []:=World.ownsRow_nil w base e 1
abbrev yC (f:Nat)(l:Array Value)(w:World)(p:Ending→World→Prop):Prop:=Calls Tryd.prog f l w p
abbrev yR (w:World)(v:Value):Ending→World→Prop:=fun z w'=>z= .returned v∧Below w.heap.size w w'
abbrev yB (w v:World):Prop:=Below w.heap.size w v
abbrev yJ (f:Nat)(l:Array Value)(v:Value):Prop:= ∀w1,Calls Tryd.prog f l w1 (yR w1 v)
abbrev yH (w:World)(f:Nat)(l:Array Value)(v:Value):Prop:= ∀w1,Below w.heap.size w w1→Calls Tryd.prog f l w1 (yR w1 v)
theorem i9 (ao:Option Addr)(len cap:Nat)(zs:List Nat)(w:World)(h:Rd w .i64 (.slice ao len cap) zs):
  yC 54 #[.slice ao len cap] w fun e w'=> ∃n,e= .returned (.slice ao n n)∧Ou zs n∧w'=w:=by
 obtain rfl:=wn h;obtain⟨hlc,hm,hc⟩:=iQ h
 go_enter Tryd.func54,Tryd.ntmps54
 go_wp2
 go_loop [3] (fun i=> ∃k:Nat,k≤zs.length∧i=yi k∧Hid (∀i,k≤i→zs.getD i 0=0)) (fun i=>(intOf i).toNat)
 case atStart=>exact⟨zs.length,Nat.le_refl _,rfl,fun i hi=>Dg.getD_of_le _ _ hi⟩
 case round=>
  obtain⟨k,hk,rfl,hz⟩:=hrel
  by_cases hk0:k=0
  ·subst hk0
   go_wp2
   go_ret
   exact⟨0,rfl,⟨Nat.zero_le _,hz,fun h=>absurd h (by omega)⟩,rfl⟩
  ·obtain⟨b,off,rfl,hcell⟩:=hc (by omega)
   have h1:=hcell (k-1) (by omega);obtain⟨d,hd⟩: ∃d,zs.getD (k-1) 0=d:=⟨_,rfl⟩;rw[hd] at h1;have Hd:Hid _:=hd;clear hd hcell hc h
   by_cases hd0:d=0
   ·subst hd0
    go_wp2
    go_round
    case rel=>exact⟨k-1,by omega,by go_num,fun i hi=>by
     by_cases e:i=k-1
     ·rw[e];exact Hd.out
     ·exact hz i (by omega)⟩
    case measure=>simp[intOf];omega
   ·go_wp2
    go_ret
    exact⟨k,rfl,⟨hk,hz,fun _=>by rw[Hd.out];exact hd0⟩,rfl⟩
theorem Dq {P:Program}{ops:Array Oper}{o:Oper}{a:Act}{w:World}{K:Act→World→Prop}{Q:Exit→Act→World→Prop}{E:Prop}
  (hg:o.guard=none) (s x:Operand) (t:TypeId) (hop:o.op=Op.call {callee:=Callee.builtin Builtin.append,args:= #[s,x],argTypes:= #[t,t]})
  (base:Nat) (e:TypeId) (i:TypeInfo) (z:Value) (size bytes:Nat) (ht:P.underlying t=some (.slice e)) (hi:P.info? e=some i) (hz:i.zero=some z)
  (hsize:i.size=size) (hby:i.bytes=bytes) (hzs:z.cells.size=size) (hsz:0<size)
  (v:Value) (n:Nat) (xs:List Value) (hs:a.eval s=v) (hown:w.ownsRow base e size v n xs)
  (ad:Addr) (m c:Nat) (news:List Value) (hx:a.eval x= .slice (some ad) m c) (hl:news.length=m*size) (hnews: ∀j u,news[j]? =some u→w.cell? (ad.add j)=some u) (h1: ∀u∈news,u.oneCell'=true)
  (h63:n+m≤maxLen) (hbytes:(n+m)*bytes≤140737488355328) (hbase:base≤w.heap.size)
  (hK: ∀v' w',w'.ownsRow base e size v' (n+m) (xs++news)→w.grownBy w' v.ownBlock→K (a.put o.dst v') w'):
  if Region.wanted o (yielded ops a.tmps)=true then Oper.wp P o a w K Q else E:=by
 have hw:Region.wanted o (yielded ops a.tmps)=true:=by simp[Region.wanted,hg]
 rw[if_pos hw];obtain⟨v',w',hrun,r1,r2,_⟩:=run_append_own (P:=P) w base t o.type e i z size bytes ht hi hz hsize hby hzs hsz v n xs hown ad m c news hl hnews h1 h63 hbytes hbase;unfold Oper.wp;simp[execOp,hop,resolve,invoke,builtin,hs,hx,hrun,Result.andThen];exact hK v' w' r1 r2
theorem Tryd.infoI64:(Tryd.prog.info? 3).map (fun i=>(i.zero,i.size,i.bytes))=some (some (.int .i64 0),1,8):=by kernel_rfl
def mN (xs:List Nat):List Nat:=xs.flatMap (fun x=>[x % 65536,x/65536])
theorem zT (xs:List Nat):(mN xs).length=2*xs.length:=by
 induction xs with
 |nil=>rfl
 |cons x xs ih=>simp only[mN,List.flatMap_cons,List.length_append,List.length_cons,List.length_nil] at*;omega
theorem Tu (xs:List Nat):Dg.vl 65536 (mN xs)=Dg.vl 4294967296 xs:=by
 induction xs with
 |nil=>rfl
 |cons x xs ih=>
  have:mN (x::xs)=x % 65536::x/65536::mN xs:=rfl;rw[this];simp only[Dg.vl,ih];omega
theorem JG (xs:List Nat)(h:Dg.Small 4294967296 xs):Dg.Small 65536 (mN xs):=by
 induction xs with
 |nil=>exact Dg.small_nil _ (by omega)
 |cons x xs ih=>
  have h1:=Dg.small_cons.1 h;have:mN (x::xs)=x % 65536::x/65536::mN xs:=rfl;rw[this];exact Dg.small_cons.2 ⟨by omega,Dg.small_cons.2 ⟨by omega,ih h1.2⟩⟩
theorem LO (xs:List Nat)(k:Nat)(h:k<xs.length):mN (xs.take (k+1))=mN (xs.take k)++[xs.getD k 0 % 65536,xs.getD k 0/65536]:=by
 rw[Dg.take_succ' xs k h];simp[mN]
def cG (w:World)(n:Nat)(e:Ending)(w':World):Prop:=
 ∃v,e= .returned v∧Rd w' .i64 v (Dg.dg 65536 n)∧yB w w'
def Far (B:Nat)(v:Value):Prop:= ∀a n c,v= .slice (some a) n c→B≤a.block
theorem JH {w:World}{base e:Nat}{k:IntKind}{v:Value}{zs:List Nat}(h:Own w base e k v zs):Far base v:=fun a n c hv=>by
 rcases h.2 with⟨e1,_⟩| ⟨g,cap,cur,e1,hg,_⟩
 ·rw[e1] at hv;cases hv
 ·rw[e1] at hv
  cases hv
  exact hg
theorem LP {B:Nat}{oo:Option Addr}{n c:Nat}(h:Far B (.slice oo n c))(n' c':Nat):Far B (.slice oo n' c'):=fun a m d hv=>by
 cases hv
 exact h a n c rfl
theorem Rd.set_far {w:World}{k:IntKind}{v:Value}{zs:List Nat}{B g j:Nat}(h:Rd w k v zs)(hf:Far B v)(hg:g<B)(x:Value):Rd (w.setCell ⟨g,j,none⟩ x) k v zs:=by
 obtain⟨ao,cap,rfl,h1,h2,h3⟩:=h;refine⟨ao,cap,rfl,h1,h2,fun h0=> ?_⟩
 obtain⟨b,off,rfl,hc⟩:=h3 h0;have:=hf _ _ _ rfl;refine⟨b,off,rfl,fun i hi=> ?_⟩
 rw[World.cell?_setCell_other (h:=by simp;intro e;simp at this;omega)];exact hc i hi
def Si (w:World)(n:Nat)(e:Ending)(w':World):Prop:=
 ∃v,e= .returned v∧Rd w' .i64 v (Dg.dg 65536 n)∧Far w.heap.size v∧yB w w'
theorem Far.mono {B B':Nat}{v:Value}(h:Far B v)(hb:B'≤B):Far B' v:=fun a n c hv=>Nat.le_trans hb (h a n c hv)
theorem uE {w:World}{k:IntKind}{ao:Option Addr}{len cap n cap':Nat}{zs:List Nat}(B:Nat)(hB:2≤B)(h:Rd w k (.slice ao len cap) zs)(hs:Dg.Small B zs)(ht:Ou zs n)(hc:n≤cap')(hc2:cap'≤maxLen):
  Rd w k (.slice ao n cap') (Dg.dg B (Dg.vl B zs)):=by
 have hl:=wn h;subst hl;obtain⟨h1,h2,h3⟩:=iQ h;rw[←Dg.trim_eq B hB zs n hs ht.1 ht.2.1 ht.2.2];have hn:=ht.1;have hl:(zs.take n).length=n:=by simp;omega
 refine⟨ao,cap',by rw[hl],by rw[hl];exact hc,hc2,fun hp=> ?_⟩
 rw[hl] at hp;obtain⟨b,off,ha,hcell⟩:=h3 (by omega);refine⟨b,off,ha,fun i hi=> ?_⟩
 rw[hl] at hi;rw[hcell i (by omega),Dg.getD_take _ _ _ hi]
theorem Tv {w wr w3:World}{x y:Nat}{es:List Nat}{lv v':Value}(bel:yB w wr)(ownL:Own wr w.heap.size 3 .i64 lv es)
  (hown':w3.ownsRow w.heap.size 3 1 v' (es.length+2) ((es.map (fun n:Nat=>Value.int .i64 (n:Int)))++[yi x,yi y]))
  (hgrow:(wr.alloc (.cells #[yi x,yi y] 3)).drew.grownBy w3 lv.ownBlock):
  Own w3 w.heap.size 3 .i64 v' (es++[x,y])∧yB w w3:=by
 have b1:yB wr (wr.alloc (.cells #[yi x,yi y] 3)).drew:=((Below.refl _ _).alloc (Nat.le_refl _) _).drew;refine⟨?_, ?_⟩
 ·unfold Own
  simpa using hown'
 ·refine(aa bel b1).grown hgrow (Nat.le_trans bel.size b1.size) (fun k hk=> ?_)
  exact(World.ownsRow.lt ownL k hk).1
theorem fQ (va:Value)(xs:List Nat)(w:World)(ha:Rd w .u32 va xs)(sa:Dg.Small 4294967296 xs)(hla:xs.length≤1000000):
  yC 48 #[va] w (cG w (Dg.vl 4294967296 xs)):=by
 obtain⟨ao,ca,rfl,-,-,hca⟩:=ha;obtain⟨i0,hi,hz0,hz1,hz2⟩:=info_parts Tryd.infoI64
 go_enter Tryd.func48,Tryd.ntmps48
 go_wp2
 go_loopw [3,4] (fun ov iv wr=> ∃k:Nat,k≤xs.length∧iv=yi k∧Own wr w.heap.size 3 .i64 ov (mN (xs.take k))∧yB w wr) (fun _ iv _=>xs.length-(intOf iv).toNat)
 case atStart=>exact⟨0,Nat.zero_le _,rfl,aQ _ _ _ _,Below.refl _ _⟩
 case round=>
  obtain⟨k,hk,rfl,own,bel⟩:=hrel
  by_cases hlt:k<xs.length
  ·obtain⟨b,off,rfl,hcell⟩:=hca (by omega)
   have hx:=cell_later bel (hcell k hlt);have hxl:=sa k;have hsn:=LO xs k hlt;obtain⟨x,ex⟩: ∃x,xs.getD k 0=x:=⟨_,rfl⟩;rw[ex] at hx hxl hsn;have HS:Hid _:=hsn;have hhl:(mN (xs.take k)).length≤2000000:=by rw[zT];simp;omega
   have hbs:=bel.size;obtain⟨es,ees⟩: ∃es,mN (xs.take k)=es:=⟨_,rfl⟩;rw[ees] at own hhl;have HE:Hid _:=ees;clear ex hcell hca hsn ees;obtain⟨p,hp⟩: ∃p,x % 65536=p:=⟨_,rfl⟩;obtain⟨q,hq⟩: ∃q,x/65536=q:=⟨_,rfl⟩;have e1:IntKind.i64.wrap (x:Int)=(x:Int):=IntWalk.i64_in _ ⟨by omega,by omega⟩;have e2:(x:Int).tmod 65536=(p:Int):=by rw[Int.tmod_eq_emod_of_nonneg (by omega)];omega
   have e3:IntKind.i64.wrap ((x:Int).tdiv 65536)=(q:Int):=by rw[Int.tdiv_eq_ediv_of_nonneg (by omega),IntWalk.i64_in _ ⟨by omega,by omega⟩];omega
   have e4:IntKind.i64.wrap ((x:Int)/65536)=(q:Int):=by rw[IntWalk.i64_in _ ⟨by omega,by omega⟩];omega
   rw[hp,hq] at HS;clear hp hq
   go_wp2
   go_region_law (refine Dq rfl (.tmp 11) (.tmp 24) 34 rfl w.heap.size 3 i0 (yi 0) 1 8 Tryd.underlying34 hi hz0 hz1 hz2 rfl (by decide) _ es.length (es.map (fun n:Nat=>Value.int .i64 (n:Int))) rfl (World.ownsRow.drew (World.ownsRow.alloc own _)) ⟨wr.heap.size,0,none⟩ 2 2 [yi (p:Int),yi (q:Int)] rfl rfl (cell_two_new _ _ _ _) (by intro u hu;simp at hu;rcases hu with rfl|rfl<;>rfl) (by unfold maxLen;omega) (by omega) (by simp;omega) ?_;intro v' w3 hown' hgrow)
   all_goals
    have R:=Tv bel own hown' hgrow;clear hown' hgrow own e1 e2 e3 e4
    go_wp2
    go_roundw
    case rel=>
     have HS2:=HS.out;rw[HE.out] at HS2;exact⟨k+1,by omega,by go_num,by rw[HS2];exact R.1,R.2⟩
    case measure=>simp[intOf];omega
  ·have hke:k=xs.length:=by omega
   subst hke;have hshape:=own.rd.shape;rw[List.take_of_length_le (Nat.le_refl _)] at own;obtain⟨oo,oc,rfl⟩:=own.rd.shape
   go_wp2_with fail
   refine(i9 _ _ _ _ _ own.rd).mono ?_;rintro e w' ⟨n,rfl,hn,rfl⟩;have hnl:=hn.1;rw[zT] at hnl;have hr:=uE (cap':=n) 65536 (by omega) own.rd (JG xs sa) hn (Nat.le_refl _) (by unfold maxLen;omega);rw[Tu] at hr;clear hshape hn
   go_wp2
   go_ret
   exact⟨_,rfl,hr,bel⟩
theorem Tab.l {w w':World}(h:Tab w)(hb:yB w w'):Tab w':=fun j hj=>cell_later hb (h j hj)
def Dv (w:World)(v:Value)(t:ak):Prop:= ∃s,v=(ydV t.s s t.e)∧Rd w .u32 s (Dg.dg 4294967296 t.n)
theorem Dv.l {w w':World}{v:Value}{t:ak}(h:Dv w v t)(hb:yB w w'):Dv w' v t:=by
 obtain⟨s,hv,hr⟩:=h;exact⟨s,hv,hr.l hb⟩
theorem Loc.l {w w':World}{b:Nat}{v0 v1 v2:Value}(h:Loc w b v0 v1 v2)(hb:yB w w'):Loc w' b v0 v1 v2:=by
 obtain⟨hl,⟨c0,c1,c2⟩,f0,f1,f2⟩:=h;have hk:=hb.block b hl;refine⟨Nat.lt_of_lt_of_le hl hb.size,⟨cell_later hb c0,cell_later hb c1,cell_later hb c2⟩, ?_, ?_, ?_⟩
 ·rw[World.frozen?_of_block (w:=w) (a:=⟨b,0,none⟩) hk];exact f0
 ·rw[World.frozen?_of_block (w:=w) (a:=⟨b,1,none⟩) hk];exact f1
 ·rw[World.frozen?_of_block (w:=w) (a:=⟨b,2,none⟩) hk];exact f2
theorem af (w:World)(o:Obj):yB w (w.alloc o):=(Below.refl _ _).alloc (Nat.le_refl _) _
def Rv (w:World)(v:Value)(t:ak):Prop:= ∃s,v=(ydV t.s s t.e)∧Rd w .i64 s (Dg.dg 65536 t.n)
theorem Rv.l {w w':World}{v:Value}{t:ak}(h:Rv w v t)(hb:yB w w'):Rv w' v t:=by
 obtain⟨s,hv,hr⟩:=h;exact⟨s,hv,hr.l hb⟩
def ZB (w:World)(b:Nat):Prop:=b<w.heap.size∧ ∃ty,w.heap[b]? =some (.cells (ydA false yN 0) ty (0,0))
theorem ZB.rd {w:World}{b:Nat}{v:Value}{zs:List Nat}(h:ZB w b)(hr:Rd w .i64 v zs)(hn:Dg.Norm zs)(x0 x1 x2:Value):
  Rd (((w.setCell ⟨b,0,none⟩ x0).setCell ⟨b,1,none⟩ x1).setCell ⟨b,2,none⟩ x2) .i64 v zs:=by
 obtain⟨hl,ty,hh⟩:=h;obtain⟨ao,cap,rfl,h1,h2,h3⟩:=hr;refine⟨ao,cap,rfl,h1,h2,fun hp=> ?_⟩
 obtain⟨c,off,rfl,hc⟩:=h3 hp;refine⟨c,off,rfl,fun i hi=> ?_⟩
 have hne:c≠b:=by
  intro e;subst e;have k1:=hc (zs.length-1) (by omega);have hz:=hn (List.length_pos_iff.1 hp);unfold World.cell? at k1;simp only[hh] at k1;obtain⟨o,ho⟩: ∃o,off+(zs.length-1)=o:=⟨_,rfl⟩;rw[ho] at k1;generalize zs.getD (zs.length-1) 0=d at*
  match o,k1 with
  |0,k1=>simp at k1
  |1,k1=>simp at k1
  |2,k1=>simp at k1;omega
  |o+3,k1=>simp at k1
 rw[World.cell?_setCell_other (h:=by simp),World.cell?_setCell_other (h:=by simp),World.cell?_setCell_other (h:=by simp)];exact hc i hi
theorem au.l {w w':World}{b:Nat}{ty:TypeId}{vs:List Value}(h:au w b ty vs)(hb:yB w w'):au w' b ty vs:=(hb.block b h.lt).trans h
end Go.Proofs.YtiakgfmlpdfhdaaDoor
