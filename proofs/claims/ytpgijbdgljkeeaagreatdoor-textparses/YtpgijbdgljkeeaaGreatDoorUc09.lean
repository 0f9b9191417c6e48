/-
  Texts laid together: Rb3, Tx20, Tx21, Tx22, Tx23.
-/
import Derived.Test.YtpgijbdgljkeeaaGreatDoorRows
import Derived.Test.YtpgijbdgljkeeaaGreatDoorUc08
set_option maxRecDepth 100000
set_option maxHeartbeats 25600000
namespace Go.Proofs.YtpgijbdgljkeeaaGreatDoor
open _root_.Go.Proofs.Tryz
open Go.RowKit
theorem fittedG_any (k:Nat)(hk:1≤k∧k≤8)(wy:Int)(hy:iC wy=true)(qs:Bool)(N M:Nat)(E:Int)(no mo:Option Addr)(nc mc:Nat)(w:World)(hN:N≠0)(hM:M≠0)(rN:Rd w .i64 (yS no N nc) (Dg.dg 65536 N))(rM:Rd w .i64 (yS mo M mc) (Dg.dg 65536 M))
  (lN:(Dg.dg 65536 N).length≤20000) (lM:(Dg.dg 65536 M).length≤20000) (e1: -20000≤E) (e2:E≤20000):
  yC 17 #[yi k,yrV qs (yS no N nc) (yS mo M mc) E,yi wy] w (RVG w (plV k wy (cI (rdN k) (dgN k) (lsI k) (gsI k) (decide (k≤3)) qs N M E wy)).1 (plV k wy (cI (rdN k) (dgN k) (lsI k) (gsI k) (decide (k≤3)) qs N M E wy)).2.1 (plV k wy (cI (rdN k) (dgN k) (lsI k) (gsI k) (decide (k≤3)) qs N M E wy)).2.2.1 (plV k wy (cI (rdN k) (dgN k) (lsI k) (gsI k) (decide (k≤3)) qs N M E wy)).2.2.2):=
 acs k _ _ _ (rdN k) (dgN k) (lsI k) (gsI k) _ _ wy E _ (decide (k≤3)) _ _ qs N M no mo nc mc (cI (rdN k) (dgN k) (lsI k) (gsI k) (decide (k≤3)) qs N M E wy) _ w (fun w1=>form_any k hk w1) (fun w1 b=>NT _ _ _ _ _ qs no nc mo mc N M E wy w1 (eR hk).2.2.2.2.2.2.2.2.2.2.2 hy (rN.l b) (rM.l b) lN lM hN hM e1 e2) (fun po pc w1 h=>placed_any k hk wy (way_is.1 hy) _ (rnd_of hk qs N M E wy hN hM).plc po pc w1 h)
theorem or_set (k:Nat)(wy:Int)(P:fz):bits .or .i64 0 (pG k wy P).2.2.2.2=(pG k wy P).2.2.2.2:=by
 unfold pG
 split
 ·show bits .or .i64 0 5=5
  rfl
 ·split
  ·show bits .or .i64 0 3=3
   rfl
  ·show bits .or .i64 0 (if P.ex=true then 0 else if P.un=true then 3 else 1)=if P.ex=true then 0 else if P.un=true then 3 else 1
   split
   ·rfl
   ·split<;>rfl
def cutc (c:UInt8):List UInt8→List UInt8×List UInt8×Bool
 | []=>([],[],false)
 |b::r=>if b=c then([],r,true) else(b::(cutc c r).1,(cutc c r).2.1,(cutc c r).2.2)
theorem cutc_spec (c:UInt8): ∀l,((cutc c l).2.2=true→l=(cutc c l).1++c::(cutc c l).2.1∧Lib.index l [c]=((cutc c l).1.length:Int))∧((cutc c l).2.2=false→l=(cutc c l).1∧(cutc c l).2.1=[]∧c∉l∧Lib.index l [c]= -1)∧c∉(cutc c l).1:=by
 intro l
 induction l with
 |nil=>exact⟨fun h=>(by cases h),fun _=>⟨rfl,rfl,List.not_mem_nil,rfl⟩,List.not_mem_nil⟩
 |cons b r ih=>
  obtain⟨i1,i2,i3⟩:=ih
  by_cases hb:b=c
  ·subst hb
   have e:cutc b (b::r)=([],r,true):=if_pos rfl;rw[e];exact⟨fun _=>⟨rfl,by simp[Lib.index]⟩,fun h=>(by cases h),List.not_mem_nil⟩
  ·have e:cutc c (b::r)=(b::(cutc c r).1,(cutc c r).2.1,(cutc c r).2.2):=if_neg hb
   have hx:Lib.index (b::r) [c]=if Lib.index r [c]== -1 then-1 else Lib.index r [c]+1:=by
    show(if[c].isPrefixOf (b::r) then _ else _)=_
    rw[if_neg (by simp[List.isPrefixOf];exact fun h=>hb h.symm)]
   rw[e];refine⟨fun h=> ?_,fun h=> ?_, ?_⟩
   ·obtain⟨j1,j2⟩:=i1 h
    refine⟨by rw[List.cons_append,←j1], ?_⟩;rw[hx,j2,if_neg (by simp)]
    show _=(((cutc c r).1.length+1:Nat):Int)
    omega
   ·obtain⟨j1,j2,j3,j4⟩:=i2 h
    refine⟨by rw[←j1],j2, ?_, ?_⟩
    ·intro hm
     rcases List.mem_cons.1 hm with q|q
     ·exact hb q.symm
     ·exact j3 q
    ·rw[hx,j4]
     rfl
   ·intro hm
    rcases List.mem_cons.1 hm with q|q
    ·exact hb q.symm
    ·exact i3 q
theorem cut_is (c:UInt8)(l:List UInt8):Lib.cut l [c]=cutc c l:=by
 obtain⟨h1,h2,-⟩:=cutc_spec c l;unfold Lib.cut
 cases h:(cutc c l).2.2
 ·obtain⟨j1,j2,-,j4⟩:=h2 h
  rw[j4,if_neg (by decide)];exact Prod.ext j1 (Prod.ext j2.symm h.symm)
 ·obtain⟨j1,j2⟩:=h1 h
  rw[j2,if_pos (by omega),Int.toNat_natCast];generalize cutc c l=q at h j1⊢;obtain⟨x,y,f⟩:=q;simp only at h j1⊢;subst h;subst j1;refine Prod.ext List.take_left (Prod.ext ?_ rfl)
  show List.drop (x.length+1) (x++c::y)=y
  rw[←List.drop_drop,List.drop_left];rfl
def isDg (b:UInt8):Bool:=decide (48≤b.toNat∧b.toNat≤57)
def spD:List UInt8→List UInt8×List UInt8
 | []=>([],[])
 |b::r=>if isDg b=true then(b::(spD r).1,(spD r).2) else([],b::r)
def lvD (l:List UInt8):Nat:=l.foldl (fun a b=>a*10+(b.toNat-48)) 0
theorem lvD_snoc (l:List UInt8)(b:UInt8):lvD (l++[b])=lvD l*10+(b.toNat-48):=by
 unfold lvD;rw[List.foldl_append];rfl
theorem spD_eq (l:List UInt8):l=(spD l).1++(spD l).2:=by
 induction l with
 |nil=>rfl
 |cons b r ih=>
  unfold spD
  split
  ·rw[List.cons_append,←ih]
  ·rfl
theorem spD_dig (l:List UInt8): ∀b∈(spD l).1,isDg b=true:=by
 induction l with
 |nil=>intro b hb;exact absurd hb List.not_mem_nil
 |cons c r ih=>
  unfold spD
  split
  ·rename_i h
   intro b hb
   rcases List.mem_cons.1 hb with rfl|hb
   ·exact h
   ·exact ih b hb
  ·intro b hb
   exact absurd hb List.not_mem_nil
def noD:List UInt8→Prop
 | []=>True
 |b::_=>isDg b=false
theorem spD_app: ∀(x r:List UInt8),(∀b∈x,isDg b=true)→noD r→spD (x++r)=(x,r):=by
 intro x
 induction x with
 |nil=>
  intro r _ hr
  cases r with
  |nil=>rfl
  |cons b r=>
   show(if isDg b=true then _ else _)=_
   rw[if_neg (by rw[show isDg b=false from hr];decide)]
 |cons b x ih=>
  intro r hx hr;have:=ih r (fun c hc=>hx c (List.mem_cons_of_mem _ hc)) hr
  rw[List.cons_append];unfold spD;rw[if_pos (hx b (List.mem_cons_self ..)),this]
def nuE (d:List UInt8)(p:Int):List UInt8→Option (List UInt8×Int)
 | []=>if d=[] then none else some (d,p)
 |b::r=>
  if d=[]∨b≠101 then none else
  let m:=decide (r.head? =some 45)
  let q:=spD (if m=true then r.tail else r)
  if q.1.length<1∨5<q.1.length∨q.2≠[] then none else some (d,p+(if m=true then-(lvD q.1:Int) else(lvD q.1:Int)))
def nuL (l:List UInt8):Option (List UInt8×Int):=
 if(spD l).2.head? =some 46 then
  let v:=spD (spD l).2.tail
  if v.1=[] then none else nuE ((spD l).1++v.1) (-(v.1.length:Int)) v.2
 else nuE (spD l).1 0 (spD l).2
theorem cutc_app (c:UInt8): ∀x r,c∉x→cutc c (x++c::r)=(x,r,true):=by
 intro x
 induction x with
 |nil=>intro r _;exact if_pos rfl
 |cons b x ih=>
  intro r h;have:=ih r (fun e=>h (List.mem_cons_of_mem _ e))
  rw[List.cons_append];unfold cutc;rw[if_neg (fun e=>h (by rw[e];exact List.mem_cons_self ..)),this]
theorem cutc_none (c:UInt8): ∀x,c∉x→cutc c x=(x,[],false):=by
 intro x
 induction x with
 |nil=>intro _;rfl
 |cons b x ih=>
  intro h
  show(if b=c then _ else _)=_
  rw[if_neg (fun e=>h (by rw[e];exact List.mem_cons_self ..)),ih (fun e=>h (List.mem_cons_of_mem _ e))]
theorem cutc_true (c:UInt8): ∀l,(cutc c l).2.2=true→l=(cutc c l).1++c::(cutc c l).2.1:=by
 intro l
 induction l with
 |nil=>intro h;cases h
 |cons b r ih=>
  intro h;unfold cutc at h⊢
  split at h
  ·rename_i e
   rw[if_pos e,e];rfl
  ·rename_i e
   rw[if_neg e]
   show b::r=b::(_++_)
   rw[←ih h]
theorem cutc_false (c:UInt8): ∀l,(cutc c l).2.2=false→(cutc c l).1=l∧(cutc c l).2.1=[]:=by
 intro l
 induction l with
 |nil=>intro _;exact⟨rfl,rfl⟩
 |cons b r ih=>
  intro h;unfold cutc at h⊢
  split at h
  ·cases h
  ·rename_i e
   rw[if_neg e];exact⟨by rw[(ih h).1],(ih h).2⟩
def rpL (y:List UInt8):Option Int:=
 let m:=decide (y.head? =some 45)
 let x:=if m=true then y.tail else y
 if x.length≤5∧x≠[]∧(∀b∈x,isDg b=true) then some (if m=true then-(lvD x:Int) else(lvD x:Int)) else none
def nmL (l:List UInt8):Option (List UInt8×Int):=
 let c:=cutc 101 l
 let d:=cutc 46 c.1
 let x:=d.1++d.2.1
 if x=[]∨ ¬(∀b∈x,isDg b=true)∨(d.2.2=true∧d.2.1=[]) then none else
 if c.2.2=true then(rpL c.2.1).map (fun p=>(x,p-(d.2.1.length:Int))) else some (x,-(d.2.1.length:Int))
theorem dig_ne {x:List UInt8}{c:UInt8}(hc:isDg c=false)(h: ∀b∈x,isDg b=true):c∉x:=fun e=>by
 rw[h c e] at hc
 cases hc
theorem nuE_e {d:List UInt8}{p:Int}(y:List UInt8)(hd:d≠[]):nuE d p (101::y)=(rpL y).map (fun q=>(d,p+q)):=by
 have e0:nuE d p (101::y)=if d=[]∨(101:UInt8)≠101 then none else
  if(spD (if decide (y.head? =some 45)=true then y.tail else y)).1.length<1∨5< (spD (if decide (y.head? =some 45)=true then y.tail else y)).1.length∨(spD (if decide (y.head? =some 45)=true then y.tail else y)).2≠[] then none else some (d,p+(if decide (y.head? =some 45)=true then-(lvD (spD (if decide (y.head? =some 45)=true then y.tail else y)).1:Int) else(lvD (spD (if decide (y.head? =some 45)=true then y.tail else y)).1:Int))):=rfl
 rw[e0,if_neg (fun h=>Or.elim h hd (fun e=>e rfl))]
 unfold rpL;simp only;generalize decide (y.head? =some 45)=m;generalize(if m=true then y.tail else y)=x
 have e:=spD_eq x;have ed:=spD_dig x
 by_cases h:x.length≤5∧x≠[]∧(∀b∈x,isDg b=true)
 ·have es:=spD_app x [] h.2.2 trivial
  rw[List.append_nil] at es;have hl:0<x.length:=List.length_pos_iff.2 h.2.1;have hno: ¬(x.length<1∨5<x.length∨([]:List UInt8)≠[]):=fun c=>by
   rcases c with c|c|c
   ·omega
   ·have:=h.1
    omega
   ·exact c rfl
  rw[if_pos h,es,if_neg hno];rfl
 ·rw[if_neg h]
  split
  ·rfl
  ·rename_i g
   refine absurd ?_ h;have g3:(spD x).2=[]:=Classical.byContradiction fun c=>g (.inr (.inr c))
   rw[g3,List.append_nil] at e;rw[←e] at g ed;refine⟨?_, ?_,ed⟩
   ·exact Nat.le_of_not_lt fun c=>g (.inr (.inl c))
   ·rintro rfl
    exact g (.inl (by decide))
theorem nuE_nil {d:List UInt8}{p:Int}(hd:d≠[]):nuE d p []=some (d,p):=if_neg hd
theorem nuE_bad {d:List UInt8}{p:Int}(r:List UInt8)(h:r≠[])(h2:r.head? ≠some 101):nuE d p r=none:=by
 cases r with
 |nil=>exact absurd rfl h
 |cons b r=>
  unfold nuE;exact if_pos (Or.inr fun e=>h2 (by rw[e];rfl))
theorem nuE_none {p:Int}(r:List UInt8):nuE [] p r=none:=by
 cases r with
 |nil=>rfl
 |cons b r=>
  unfold nuE;exact if_pos (Or.inl rfl)
theorem nuL_pt {l x y:List UInt8}{q:List UInt8×List UInt8}(h:spD l=(x,46::y))(hq:spD y=q):nuL l=if q.1=[] then none else nuE (x++q.1) (-(q.1.length:Int)) q.2:=by
 subst hq;unfold nuL;rw[h];exact if_pos rfl
theorem head_cons {r:List UInt8}{b:UInt8}(h:r.head? =some b):r=b::r.tail:=by
 cases r with
 |nil=>cases h
 |cons c r=>cases h;rfl
theorem nu_nm (l:List UInt8):nuL l=nmL l:=by
 have n46:isDg 46=false:=by decide
 have n101:isDg 101=false:=by decide
 have A: ∀(x t:List UInt8),(∀b∈x,isDg b=true)→noD t→t.head? ≠some 46→nuL (x++t)=nuE x 0 t:=fun x t hx ht h=>by
  unfold nuL;rw[spD_app x t hx ht,if_neg h]
 have B: ∀(x v t:List UInt8),(∀b∈x,isDg b=true)→(∀b∈v,isDg b=true)→noD t→v≠[]→nuL (x++46::(v++t))=nuE (x++v) (-(v.length:Int)) t:=fun x v t hx hv ht h=>by
  rw[nuL_pt (spD_app x (46::(v++t)) hx n46) (spD_app v t hv ht),if_neg h]
 unfold nmL;simp only;obtain⟨c,hc⟩: ∃c,cutc 101 l=c:=⟨_,rfl⟩;obtain⟨d,hd⟩: ∃d,cutc 46 c.1=d:=⟨_,rfl⟩;have ct:=cutc_true 101 l;have cf:=cutc_false 101 l;have dt:=cutc_true 46 c.1;have df:=cutc_false 46 c.1;rw[hc] at ct cf⊢;rw[hd] at dt df⊢;obtain⟨c1,c2,c3⟩:=c;obtain⟨d1,d2,d3⟩:=d;simp only at ct cf dt df hd⊢
 by_cases hbad:d1++d2=[]∨ ¬(∀b∈d1++d2,isDg b=true)∨(d3=true∧d2=[])
 ·rw[if_pos hbad]
  cases hn:nuL l with
  |none=>rfl
  |some z=>
   exfalso
   unfold nuL at hn;have e:=spD_eq l;have ed:=spD_dig l;obtain⟨x,hx⟩: ∃x,(spD l).1=x:=⟨_,rfl⟩;obtain⟨t,ht⟩: ∃t,(spD l).2=t:=⟨_,rfl⟩;rw[hx,ht] at e hn;rw[hx] at ed;have fin: ∀(y:List UInt8) (D:List UInt8) (p:Int) (r:List UInt8),D≠[]→nuE D p r=some z→101∉y→l=y++r→c1=y:=fun y D p r hD h h1 hl=>by
    cases r with
    |nil=>
     rw[List.append_nil] at hl;have:=cutc_none 101 y h1;rw[←hl,hc] at this;rw[hl] at this;exact congrArg Prod.fst this
    |cons b r=>
     have hb:b=101:=Classical.byContradiction fun c=>by
      rw[nuE_bad (b::r) (by simp) (by simpa using c)] at h
      cases h
     subst hb;have:=cutc_app 101 y r h1;rw[←hl,hc] at this;exact congrArg Prod.fst this
   by_cases h46:t.head? =some 46
   ·rw[if_pos h46] at hn
    simp only at hn;have et:=head_cons h46;have e2:=spD_eq t.tail;have ed2:=spD_dig t.tail;obtain⟨v,hv⟩: ∃x,(spD t.tail).1=x:=⟨_,rfl⟩;obtain⟨s,hs⟩: ∃x,(spD t.tail).2=x:=⟨_,rfl⟩;rw[hv,hs] at e2 hn;rw[hv] at ed2
    by_cases hv0:v=[]
    ·rw[if_pos hv0] at hn
     cases hn
    rw[if_neg hv0] at hn;have hD:x++v≠[]:=fun c=>hv0 (List.append_eq_nil_iff.1 c).2
    have hl:l=(x++46::v)++s:=by rw[e,et,e2];simp
    have h101:101∉x++46::v:=by
     rw[List.mem_append,List.mem_cons];rintro(q|q|q)
     ·exact dig_ne n101 ed q
     ·cases q
     ·exact dig_ne n101 ed2 q
    have hc1:=fin (x++46::v) (x++v) _ s hD hn h101 hl;have:=cutc_app 46 x v (dig_ne n46 ed);rw[←hc1,hd] at this;obtain⟨rfl,rfl,rfl⟩:=Prod.mk.injEq .. ▸(by simpa using this:d1=x∧d2=v∧d3=true)
    rcases hbad with h|h|h
    ·exact hD h
    ·refine h fun b hb=> ?_
     rcases List.mem_append.1 hb with q|q
     ·exact ed b q
     ·exact ed2 b q
    ·exact hv0 h.2
   ·rw[if_neg h46] at hn
    by_cases hx0:x=[]
    ·rw[hx0,nuE_none] at hn
     cases hn
    have h101:=dig_ne n101 ed;have hc1:=fin x x _ t hx0 hn h101 e;have:=cutc_none 46 x (dig_ne n46 ed);rw[←hc1,hd] at this;obtain⟨rfl,rfl,rfl⟩:d1=c1∧d2=[]∧d3=false:=by simpa using this
    rw[List.append_nil,hc1] at hbad
    rcases hbad with h|h|h
    ·exact hx0 h
    ·exact h ed
    ·cases h.1
 ·rw[if_neg hbad]
  have g1:d1++d2≠[]:=fun c=>hbad (.inl c)
  have g2: ∀b∈d1++d2,isDg b=true:=Classical.byContradiction fun c=>hbad (.inr (.inl c))
  have g2a: ∀b∈d1,isDg b=true:=fun b hb=>g2 b (List.mem_append.2 (.inl hb))
  have g2b: ∀b∈d2,isDg b=true:=fun b hb=>g2 b (List.mem_append.2 (.inr hb))
  have key: ∀t,noD t→t.head? ≠some 46→nuL (c1++t)=nuE (d1++d2) (-(d2.length:Int)) t:=fun t ht h46=>by
   cases d3 with
   |true=>
    have hd2:d2≠[]:=fun c=>hbad (.inr (.inr ⟨rfl,c⟩))
    have e:=dt rfl;rw[e,List.append_assoc,List.cons_append];exact B d1 d2 t g2a g2b ht hd2
   |false=>
    obtain⟨e1,e2⟩:=df rfl;subst e1 e2;rw[List.append_nil];exact A d1 t g2a ht h46
  cases c3 with
  |true=>
   rw[if_pos rfl,ct rfl,key (101::c2) n101 (by simp),nuE_e _ g1]
   congr 1
   funext q
   rw[Int.add_comm,←Int.sub_eq_add_neg]
  |false=>
   rw[if_neg (by decide)];obtain⟨e1,-⟩:=cf rfl;have:=key [] trivial (by simp);rw[List.append_nil,nuE_nil g1] at this;rw[←e1];exact this
def RestAt (s:ByteArray)(k:Nat)(r:List UInt8):Prop:=k≤s.size∧s.data.toList.drop k=r
theorem rest_nil {s:ByteArray}{k:Nat}(h:RestAt s k []):k=s.size:=by
 obtain⟨h1,h2⟩:=h;have:=congrArg List.length h2;rw[List.length_drop,List.length_nil,←size_list] at this;omega
theorem rest_cons {s:ByteArray}{k:Nat}{b:UInt8}{r:List UInt8}(h:RestAt s k (b::r)):k<s.size∧byt s k=b.toNat∧RestAt s (k+1) r∧s.extract k (k+1)=⟨#[b]⟩:=by
 obtain⟨h1,h2⟩:=h;have hl:=congrArg List.length h2;rw[List.length_drop,List.length_cons,←size_list] at hl;have hk:k<s.size:=by omega
 have hk2:k<s.data.toList.length:=by rw[←size_list];exact hk
 have hd:=List.drop_eq_getElem_cons hk2;rw[h2] at hd;have hb:b=s.data.toList[k]:=by injection hd
 have hr:r=s.data.toList.drop (k+1):=by injection hd
 refine⟨hk, ?_,⟨by omega,hr.symm⟩, ?_⟩
 ·rw[←KD s k hk,hb,Array.getElem_toList]
  rfl
 ·apply ByteArray.ext
  rw[ByteArray.data_extract];apply Array.ext';rw[Array.toList_extract];simp only[List.extract_eq_take_drop];rw[h2,show k+1-k=1 by omega]
  rfl
def hdDg:List UInt8→Bool
 | []=>false
 |b::_=>isDg b
theorem isDigit_at (s:ByteArray)(k:Nat)(r:List UInt8)(w:World)(h:RestAt s k r)(_:s.size≤1000):
  yC 65 #[.string s,yi k] w fun e w'=>e= .returned (.bool (hdDg r))∧w'=w:=by
 cases r with
 |nil=>
  have hk:=rest_nil h
  show Calls _ _ _ _ fun e w'=>e= .returned (.bool false)∧w'=w
  have hlt: ¬((k:Int)< (s.size:Int)):=by omega
  clear h
  go_enter func65,ntmps65
  go_wp2
  go_ret
  exact⟨rfl,rfl⟩
 |cons b r=>
  obtain⟨hk,hb,-,-⟩:=rest_cons h
  show Calls _ _ _ _ fun e w'=>e= .returned (.bool (isDg b))∧w'=w
  have hix:=li s k hk;have h8:=Ay s k;rw[hb] at hix h8;unfold isDg;obtain⟨y,hy⟩: ∃y,b.toNat=y:=⟨_,rfl⟩;rw[hy] at hix h8⊢;have hlt:(k:Int)< (s.size:Int):=by omega
  clear hy h hb
  by_cases h1:48≤y
  ·by_cases h2:y≤57
   ·rw[decide_eq_true ⟨h1,h2⟩]
    have hle:decide ((y:Int)≤57)=true:=by simp;omega
    go_enter func65,ntmps65
    go_wp2
    go_ret
    exact⟨rfl,rfl⟩
   ·rw[decide_eq_false (fun h=>h2 h.2)]
    have hle:decide ((y:Int)≤57)=false:=by simp;omega
    go_enter func65,ntmps65
    go_wp2
    go_ret
    exact⟨rfl,rfl⟩
  ·rw[decide_eq_false (fun h=>h1 h.1)]
   go_enter func65,ntmps65
   go_wp2
   go_ret
   exact⟨rfl,rfl⟩
theorem spD_cons {b:UInt8}{r:List UInt8}(h:isDg b=true):spD (b::r)=(b::(spD r).1,(spD r).2):=if_pos h
theorem spD_stop {r:List UInt8}(h:hdDg r=false):spD r=([],r):=by
 cases r with
 |nil=>rfl
 |cons b r=>exact if_neg (by rw[show isDg b=false from h];decide)
theorem str_snoc (d:List UInt8)(b:UInt8):(⟨d.toArray⟩:ByteArray)++⟨#[b]⟩=⟨(d++[b]).toArray⟩:=by
 apply ByteArray.ext;rw[ByteArray.data_append];simp
def NuOk (s:ByteArray)(g:Bool)(d:ByteArray)(p:Int)(ok:Bool):Prop:=
 (nuL (undash s).data.toList=none∧ok=false)∨ ∃D P,nuL (undash s).data.toList=some (D,P)∧g=dash s∧d=⟨D.toArray⟩∧p=P∧ok=true
def NuAns (s:ByteArray)(w:World)(z:Ending)(w':World):Prop:=w'=w∧ ∃g d p ok,z= .returned (.tuple #[.bool g,.string d,yi p,.bool ok])∧NuOk s g d p ok
theorem dash_cases (s:ByteArray): ∃g k0 L,RestAt s k0 L∧(undash s).data.toList=L∧dash s=g∧k0≤1∧((g=true∧k0=1∧0<s.size∧byt s 0=45)∨(g=false∧k0=0∧(s.size=0∨(0<s.size∧byt s 0≠45)))):=by
 have e0:(undash s).data.toList=Lib.trimPrefix s.data.toList [45]:=rfl;have e1:dash s=Lib.hasPrefix s.data.toList [45]:=rfl;rw[e0,e1];have hR:RestAt s 0 s.data.toList:=⟨by omega,rfl⟩;generalize hS:s.data.toList=S at*
 cases S with
 |nil=>exact⟨false,0,[],hR,rfl,rfl,by omega,.inr ⟨rfl,rfl,.inl (rest_nil hR).symm⟩⟩
 |cons b r=>
  obtain⟨h1,h2,h3,-⟩:=rest_cons hR
  by_cases hb:b=45
  ·subst hb
   exact⟨true,1,r,h3,rfl,rfl,by omega,.inl ⟨rfl,rfl,h1,h2⟩⟩
  ·have hp:Lib.hasPrefix (b::r) [45]=false:=by
    show([45].isPrefixOf (b::r))=false
    simp only[List.isPrefixOf];rw[show((45:UInt8)==b)=false from beq_eq_false_iff_ne.2 fun e=>hb e.symm]
    rfl
   refine⟨false,0,b::r,hR, ?_,hp,by omega,.inr ⟨rfl,rfl,.inr ⟨h1, ?_⟩⟩⟩
   ·unfold Lib.trimPrefix
    rw[hp];rfl
   ·rw[h2]
    intro e;exact hb (UInt8.toNat_inj.1 e)
def Dgs (L d r:List UInt8):Prop:=spD L=(d++(spD r).1,(spD r).2)
theorem dgs_start (L:List UInt8):Dgs L [] L:=rfl
theorem dgs_next {L d r:List UInt8}{b:UInt8}(h:Dgs L d (b::r))(hb:isDg b=true):Dgs L (d++[b]) r:=by
 unfold Dgs at h⊢;rw[h,spD_cons hb];simp
theorem dgs_end {L d r:List UInt8}(h:Dgs L d r)(hr:hdDg r=false):spD L=(d,r):=by
 unfold Dgs at h;rw[h,spD_stop hr];simp
theorem at_is (s:ByteArray)(k:Nat)(b:UInt8)(r:List UInt8)(h:RestAt s k (b::r)): ∀w,(Instr.index 9 (.string s) (yi k)).run Tryz.prog w= .ok (.int .u8 ((b.toNat:Nat):Int)) w:=by
 obtain⟨h1,h2,-,-⟩:=rest_cons h;have:=li s k h1;rw[h2] at this;exact this
theorem results_tmp4 {fn:Func}{t u v x:Tmp}(h:fn.results= #[.tmp t,.tmp u,.tmp v,.tmp x])(tmps:Array Value)(P:Program)(w:World):
  (results fn tmps).run P w= .ok (.tuple #[tmps.getD t undef,tmps.getD u undef,tmps.getD v undef,tmps.getD x undef]) w:=by
 simp[results,h]
theorem head_is (b c:UInt8)(r:List UInt8):(((b.toNat:Nat):Int)==((c.toNat:Nat):Int))=decide ((b::r).head? =some c):=by
 rw[List.head?_cons]
 by_cases e:b=c
 ·subst e
  rw[decide_eq_true rfl];exact beq_self_eq_true _
 ·rw[decide_eq_false (fun h=>e (by injection h))]
  rw[beq_eq_false_iff_ne];intro h;exact e (UInt8.toNat_inj.1 (by omega))
theorem nuE_at {D:List UInt8}{P:Int}{y v r:List UInt8}{m:Bool}(hD:D≠[])(hm:decide (y.head? =some 45)=m)(hs:spD (if m=true then y.tail else y)=(v,r)):
  nuE D P (101::y)=if v.length<1∨5<v.length∨r≠[] then none else some (D,P+(if m=true then-(lvD v:Int) else(lvD v:Int))):=by
 subst hm;have e0:nuE D P (101::y)=if D=[]∨(101:UInt8)≠101 then none else
  if(spD (if decide (y.head? =some 45)=true then y.tail else y)).1.length<1∨5< (spD (if decide (y.head? =some 45)=true then y.tail else y)).1.length∨(spD (if decide (y.head? =some 45)=true then y.tail else y)).2≠[] then none else some (D,P+(if decide (y.head? =some 45)=true then-(lvD (spD (if decide (y.head? =some 45)=true then y.tail else y)).1:Int) else(lvD (spD (if decide (y.head? =some 45)=true then y.tail else y)).1:Int))):=rfl
 rw[e0,if_neg (fun h=>Or.elim h hD (fun e=>e rfl)),hs]
theorem nuE_other {D:List UInt8}{P:Int}{r:List UInt8}(hD:D≠[])(h:decide (r.head? =some 101)=false):nuE D P r=if r=[] then some (D,P) else none:=by
 by_cases c:r=[]
 ·subst c
  rw[if_pos rfl,nuE_nil hD]
 ·rw[if_neg c,nuE_bad r c (of_decide_eq_false h)]
theorem lvD_lt: ∀(k:Nat) (v:List UInt8),v.length=k→(∀b∈v,isDg b=true)→lvD v<10^k:=by
 intro k
 induction k with
 |zero=>
  intro v hv _;obtain rfl:=List.length_eq_zero_iff.1 hv;exact Nat.one_pos
 |succ k ih=>
  intro v hv h
  rcases List.eq_nil_or_concat v with rfl| ⟨u,b,rfl⟩
  ·cases hv
  ·rw[List.concat_eq_append] at h hv⊢
   have h1:=ih u (by simpa using hv) fun c hc=>h c (List.mem_append.2 (.inl hc))
   have h2:=h b (List.mem_append.2 (.inr (List.mem_cons_self ..)));have h3:=of_decide_eq_true h2;rw[lvD_snoc,Nat.pow_succ];omega
theorem slice_at (s:ByteArray)(k:Nat)(b:UInt8)(r d:List UInt8)(h:RestAt s k (b::r)):(⟨d.toArray⟩:ByteArray)++s.extract k (k+1)=⟨(d++[b]).toArray⟩:=by
 obtain⟨-,-,-,h4⟩:=rest_cons h;rw[h4,str_snoc]
theorem numeral_any (s:ByteArray)(w:World)(hs:s.size≤400):
  yC 29 #[.string s] w (NuAns s w):=by
 obtain⟨g,k0,L,hR,hL,hg,hk0,hd⟩:=dash_cases s;have HI:Hid (∀(k:Nat) (r:List UInt8) (w1:World),RestAt s k r→yC 65 #[.string s,yi k] w1 fun e w'=>e= .returned (.bool (hdDg r))∧w'=w1):=fun k r w1 h=>isDigit_at s k r w1 h (by omega)
 have HQ:Hid (∀g d p ok,((nuL L=none∧ok=false)∨ ∃D P,nuL L=some (D,P)∧Value.bool g= .bool (dash s)∧d=⟨D.toArray⟩∧p=P∧ok=true)→NuOk s g d p ok):=by
  intro g d p ok h;unfold NuOk;rw[hL]
  rcases h with h| ⟨D,P,h1,h2,h3⟩
  ·exact .inl h
  ·exact .inr ⟨D,P,h1,by injection h2,h3⟩
 have HR:Hid _:=hR;have HG:Hid _:=hg;have HD:Hid _:=hd;clear hR hL hg hd
 go_enter func29,ntmps29
 go_upto_region 2 with fail
 go_cut [7] from 13 (fun v wx=>wx=w∧v= .bool g)
 case first=>
  rcases HD.out with⟨rfl,rfl,h1,h2⟩| ⟨rfl,rfl,h1| ⟨h1,h2⟩⟩
  ·have hix: ∀w,(Instr.index 9 (.string s) (yi 0)).run Tryz.prog w= .ok (.int .u8 45) w:=by
    have:=li s 0 h1;rw[h2] at this;exact this
   clear HD h2
   go_wp2_with fail
   go_meet
   exact⟨rfl,rfl⟩
  ·clear HD
   go_wp2_with fail
   go_meet
   exact⟨rfl,rfl⟩
  ·have hix: ∀w,(Instr.index 9 (.string s) (yi 0)).run Tryz.prog w= .ok (.int .u8 ((byt s 0:Nat):Int)) w:=li s 0 h1
   have hne:(((byt s 0:Nat):Int)==45)=false:=by
    rw[beq_eq_false_iff_ne];omega
   clear HD h2
   go_wp2_with fail
   go_meet
   exact⟨rfl,rfl⟩
 case rest=>
  obtain⟨rfl,rfl⟩:=hcut
  go_upto_if 21 with fail
  go_cut [6] from 13 (fun v wx=>wx=wc∧v=yi (k0:Int))
  case first=>
   rcases HD.out with⟨rfl,rfl,-,-⟩| ⟨rfl,rfl,-⟩
   ·clear HD
    go_wp2_with fail
    go_meet
    exact⟨rfl,rfl⟩
   ·clear HD
    go_wp2_with fail
    go_meet
    exact⟨rfl,rfl⟩
  case rest=>
   obtain⟨rfl,rfl⟩:=hcut;clear HD
   go_wp2_with fail
   go_loopw [6,8] (fun av dv wr=> ∃(k:Nat) (r d:List UInt8),av=yi k∧dv= .string ⟨d.toArray⟩∧RestAt s k r∧Dgs L d r∧d.length≤k∧wr=wc) (fun av _ _=>s.size-(intOf av).toNat)
   case atStart=>exact⟨k0,L,[],rfl,rfl,HR.out,dgs_start L,Nat.zero_le _,rfl⟩
   case round=>
    obtain⟨k,r,d,rfl,rfl,hr,hd,hdl,rfl⟩:=hrel;have hc:=HI.out k r wr hr
    cases hh:hdDg r
    ·rw[hh] at hc
     have hL1:=dgs_end hd hh;replace hL1:Hid _:=hL1;replace hc:Hid _:=hc;replace hr:Hid _:=hr;clear hd hh HR
     go_wp2_with fail
     refine Calls.mono hc.out ?_;rintro z w1 ⟨rfl,rfl⟩;clear hc
     go_upto_region 9 with fail
     obtain⟨pt,hpt⟩: ∃B,decide (r.head? =some 46)=B:=⟨_,rfl⟩
     go_cut [45] from 13 (fun v wx=>wx=w1∧v= .bool pt)
     case first=>
      cases r with
      |nil=>
       have hk:=rest_nil hr.out;obtain rfl:pt=false:=hpt.symm;clear hL1 hpt
       go_wp2_with fail
       go_meet
       exact⟨rfl,rfl⟩
      |cons b r=>
       have hix:=at_is s k b r hr.out;obtain⟨hk,-,-,-⟩:=rest_cons hr.out;have hv:=head_is b 46 r;rw[show(((46:UInt8).toNat:Nat):Int)=46 from rfl] at hv
       rw[hpt] at hv;clear hpt;clear hL1
       go_wp2_with fail
       go_meet
       exact⟨rfl,rfl⟩
     case rest=>
      obtain⟨rfl,rfl⟩:=hcut
      go_upto_if 45 with fail
      go_cut [6,8,9] from 13 (fun av dv pv wx=>wx=wc∧ ∃(k:Nat) (r D:List UInt8) (P:Int),av=yi k∧dv= .string ⟨D.toArray⟩∧pv=yi P∧ -500<P∧P<500∧RestAt s k r∧Hid (nuL L=nuE D P r))
      case first=>
       have hp:=hpt;clear hpt
       cases pt
       ·have hn:nuL L=nuE d 0 r:=by
         unfold nuL;rw[hL1.out];exact if_neg (of_decide_eq_false hp)
        replace hn:Hid _:=hn;clear hL1 hp
        go_wp2_with fail
        go_meet
        exact⟨rfl,k,r,d,0,rfl,rfl,rfl,by omega,by omega,hr.out,hn⟩
       ·obtain⟨r1,rfl⟩: ∃r1,r=46::r1:=⟨r.tail,head_cons (of_decide_eq_true hp)⟩
        obtain⟨hk,-,hr1,-⟩:=rest_cons hr.out;have hc:=HI.out (k+1) r1 wc hr1;replace hr1:Hid _:=hr1
        cases hh:hdDg r1
        ·have hn:nuL L=none:=by
          rw[nuL_pt hL1.out (spD_stop hh)];rfl
         rw[hh] at hc;replace hn:Hid _:=hn;replace hc:Hid _:=hc;clear hL1 hp hh hr;have e1:IntKind.i64.wrap ((k:Int)+1)=((k+1:Nat):Int):=by rw[IntWalk.i64_in _ ⟨by omega,by omega⟩];omega
         go_wp2_with fail
         refine Calls.mono hc.out ?_;rintro z w1 ⟨rfl,rfl⟩;clear hc
         go_wp2_with fail
         (try simp only[Exit.inBlock,Exit.then])
         refine bodyPost_ret (results_tmp4 rfl _ _ _) rfl ?_;exact⟨rfl,_,_,_,_,rfl,HQ.out _ _ _ _ (.inl ⟨hn.out,rfl⟩)⟩
        ·have hd0:=dgs_start r1
         rw[hh] at hc;have hn: ∀v r2,v≠[]→spD r1=(v,r2)→nuL L=nuE (d++v) (-(v.length:Int)) r2:=fun v r2 hv hs=>by
          rw[nuL_pt hL1.out hs];exact if_neg hv
         replace hn:Hid _:=hn;replace hc:Hid _:=hc;have hh1:Hid _:=hh;clear hL1 hp hh hr;have e1:IntKind.i64.wrap ((k:Int)+1)=((k+1:Nat):Int):=by rw[IntWalk.i64_in _ ⟨by omega,by omega⟩];omega
         go_wp2_with fail
         refine Calls.mono hc.out ?_;rintro z w1 ⟨rfl,rfl⟩;clear hc
         go_wp2_with fail
         go_loopw [6,8,9] (fun av dv pv wr=> ∃(j:Nat) (r v:List UInt8),av=yi j∧dv= .string ⟨(d++v).toArray⟩∧pv=yi (-(v.length:Int))∧RestAt s j r∧Dgs r1 v r∧(d++v).length≤j∧wr=w1) (fun av _ _ _=>s.size-(intOf av).toNat)
         case atStart=>exact⟨k+1,r1,[],rfl,by rw[List.append_nil],rfl,hr1.out,hd0,by rw[List.append_nil];omega,rfl⟩
         case round=>
          clear e1;obtain⟨j,r,v,rfl,rfl,rfl,hr,hd,hvl,rfl⟩:=hrel;have hc:=HI.out j r wr hr;have hj:=hr.1;have hvl0:v.length≤j:=by rw[List.length_append] at hvl;omega
          cases hh:hdDg r
          ·rw[hh] at hc
           have hv:=dgs_end hd hh;have hv0:v≠[]:=by
            rintro rfl;have h2:=hh1.out
            cases r1 with
            |nil=>cases h2
            |cons b r3=>
             have:=spD_cons (r:=r3) (show isDg b=true from h2)
             rw[hv] at this
             injection this with h3
             cases h3
           have hn2:=hn.out v r hv0 hv;replace hn2:Hid _:=hn2;replace hc:Hid _:=hc;replace hr:Hid _:=hr;clear hd hh hh1 hv hv0 hn
           go_wp2_with fail
           refine Calls.mono hc.out ?_;rintro z w1 ⟨rfl,rfl⟩;clear hc
           go_wp2_with fail
           go_meet
           exact⟨rfl,j,r,d++v,_,rfl,rfl,rfl,by omega,by omega,hr.out,hn2⟩
          ·rw[hh] at hc
           cases r with
           |nil=>cases hh
           |cons b r=>
            obtain⟨hk,-,hr2,-⟩:=rest_cons hr;have hd2:=dgs_next hd hh;have hst:=slice_at s j b r (d++v) hr;rw[List.append_assoc] at hst;have hp2: -(v.length:Int)-1= -((v++[b]).length:Int):=by simp;omega
            have e2:IntKind.i64.wrap (-(v.length:Int)-1)= -((v++[b]).length:Int):=by rw[IntWalk.i64_in _ ⟨by omega,by omega⟩];exact hp2
            have hz1:(⟨(d++v).toArray⟩:ByteArray).size≤400:=by rw[mk_size];omega
            have hz2:(s.extract j (j+1)).size≤1:=by rw[(rest_cons hr).2.2.2];exact Nat.le_refl _
            have hdl2:(d++(v++[b])).length≤j+1:=by rw[←List.append_assoc,List.length_append];simp only[List.length_singleton];omega
            have hl2:(v++[b]).length≤j+1:=by simp;omega
            generalize hVL:(v++[b]).length=VL at e2 hl2;replace hdl2:Hid _:=hdl2;replace hVL:Hid _:=hVL;replace hd2:Hid _:=hd2;replace hc:Hid _:=hc;replace hr2:Hid _:=hr2;replace hst:Hid _:=hst;clear hr hd hh hp2
            go_wp2_with fail
            refine Calls.mono hc.out ?_;rintro z w1 ⟨rfl,rfl⟩;clear hc
            go_wp2
            go_roundw
            case rel=>exact⟨j+1,r,v++[b],by go_num,by rw[←hst.out],by rw[hVL.out],hr2.out,hd2.out,hdl2.out,trivial⟩
            case measure=>simp[intOf];omega
      case rest=>
       obtain⟨rfl,k2,r2,D,P,rfl,rfl,rfl,p1,p2,hr2,hn⟩:=hcut;clear hr hL1;replace hr2:Hid _:=hr2
       by_cases hD:D=[]
       ·have hn2:nuL L=none:=by
         rw[hn.out,hD];exact nuE_none _
        subst hD;replace hn2:Hid _:=hn2;clear hn
        go_wp2_with fail
        (try simp only[Exit.inBlock,Exit.then])
        refine bodyPost_ret (results_tmp4 rfl _ _ _) rfl ?_;exact⟨rfl,_,_,_,_,rfl,HQ.out _ _ _ _ (.inl ⟨hn2.out,rfl⟩)⟩
       have hne:D.isEmpty=false:=List.isEmpty_eq_false_iff.2 hD;replace hD:Hid _:=hD
       go_upto_region 19 with fail
       clear hne;obtain⟨pe,hpe⟩: ∃B,decide (r2.head? =some 101)=B:=⟨_,rfl⟩
       go_cut [77] from 13 (fun v wx=>wx=wc∧v= .bool pe)
       case first=>
        clear hn
        cases r2 with
        |nil=>
         have hk:=rest_nil hr2.out;obtain rfl:pe=false:=hpe.symm;clear hpe
         go_wp2_with fail
         go_meet
         exact⟨rfl,rfl⟩
        |cons b r=>
         have hix:=at_is s k2 b r hr2.out;obtain⟨hk,-,-,-⟩:=rest_cons hr2.out;have hv:=head_is b 101 r;rw[show(((101:UInt8).toNat:Nat):Int)=101 from rfl] at hv
         rw[hpe] at hv;clear hpe
         go_wp2_with fail
         go_meet
         exact⟨rfl,rfl⟩
       case rest=>
        obtain⟨rfl,rfl⟩:=hcut
        go_upto_if 77 with fail
        go_cut [6,9] from 13 (fun av pv wx=>wx=wc∧ ∃(k:Nat) (r:List UInt8) (Q:Int),av=yi k∧pv=yi Q∧RestAt s k r∧Hid (nuL L=if r=[] then some (D,Q) else none))
        case first=>
         have hp:=hpe;clear hpe
         cases pe
         ·have hn2:=hn.out
          rw[nuE_other hD.out hp] at hn2;replace hn2:Hid _:=hn2;clear hn hp
          go_wp2_with fail
          go_meet
          exact⟨rfl,k2,r2,P,rfl,rfl,hr2.out,hn2⟩
         ·obtain⟨y,rfl⟩: ∃y,r2=101::y:=⟨r2.tail,head_cons (of_decide_eq_true hp)⟩
          obtain⟨hk,-,hy,-⟩:=rest_cons hr2.out;obtain⟨m,hm⟩: ∃m,decide (y.head? =some 45)=m:=⟨_,rfl⟩;have hn2: ∀v r,spD (if m=true then y.tail else y)=(v,r)→nuL L=if v.length<1∨5<v.length∨r≠[] then none else some (D,P+(if m=true then-(lvD v:Int) else(lvD v:Int))):=fun v r hs=>by
           rw[hn.out];exact nuE_at hD.out hm hs
          replace hn2:Hid _:=hn2;replace hy:Hid _:=hy;replace hm:Hid _:=hm;have e1:IntKind.i64.wrap ((k2:Int)+1)=((k2+1:Nat):Int):=by rw[IntWalk.i64_in _ ⟨by omega,by omega⟩];omega
          clear hn hp hr2
          go_upto_region 21 with fail
          go_cut [10] from 13 (fun v wx=>wx=wc∧v= .bool m)
          case first=>
           have hm2:=hm.out;have hy2:=hy.out
           cases y with
           |nil=>
            have hk3:=rest_nil hy2;obtain rfl:m=false:=by rw[←hm2];rfl
            clear hm2 hy2
            go_wp2_with fail
            go_meet
            exact⟨rfl,rfl⟩
           |cons b r=>
            have hix:=at_is s (k2+1) b r hy2;rw[show((k2+1:Nat):Int)=(k2:Int)+1 from by omega] at hix
            obtain⟨hk3,-,-,-⟩:=rest_cons hy2;have hv:=head_is b 45 r;rw[show(((45:UInt8).toNat:Nat):Int)=45 from rfl,hm2] at hv
            clear hm2 hy2
            go_wp2_with fail
            go_meet
            exact⟨rfl,rfl⟩
          case rest=>
           obtain⟨rfl,rfl⟩:=hcut;clear e1
           go_upto_if 90 with fail
           go_cut [6] from 13 (fun v wx=>wx=wc∧ ∃k:Nat,v=yi k∧RestAt s k (if m=true then y.tail else y))
           case first=>
            cases m
            ·clear hm hn2
             go_wp2_with fail
             go_meet
             exact⟨rfl,k2+1,rfl,hy.out⟩
            ·have hm2:=head_cons (of_decide_eq_true hm.out)
             have hy2:=hy.out;rw[hm2] at hy2;obtain⟨hk3,-,hy3,-⟩:=rest_cons hy2;replace hy3:Hid _:=hy3;have e1:IntKind.i64.wrap (((k2+1:Nat):Int)+1)=((k2+1+1:Nat):Int):=by rw[IntWalk.i64_in _ ⟨by omega,by omega⟩];omega
             clear hm hn2 hm2 hy2
             go_wp2_with fail
             go_meet
             exact⟨rfl,k2+1+1,by first|rfl|rw[←e1],hy3.out⟩
           case rest=>
            obtain⟨rfl,k3,rfl,hr3⟩:=hcut;generalize hz:(if m=true then y.tail else y)=z at hr3 hn2
            clear hy hz hm;have HR3:Hid _:=hr3;clear hr3
            go_wp2_with fail
            go_loopw [6,11,12] (fun av nv mv wr=> ∃(j n:Nat) (r v:List UInt8),av=yi j∧nv=yi n∧n<1000000∧Hid (n=lvD (v.take 6))∧mv=yi (v.length:Int)∧v.length≤j∧RestAt s j r∧Dgs z v r∧wr=wc) (fun av _ _ _=>s.size-(intOf av).toNat)
            case atStart=>exact⟨k3,0,z,[],rfl,rfl,by omega,rfl,rfl,by simp,HR3.out,dgs_start z,rfl⟩
            case round=>
             obtain⟨j,n,r,v,rfl,rfl,hn6,hnv,rfl,hvl,hr,hd,rfl⟩:=hrel;have hc:=HI.out j r wr hr;have hj:=hr.1
             cases hh:hdDg r
             ·rw[hh] at hc
              have hv:=dgs_end hd hh;have hn3:=hn2.out v r hv;replace hc:Hid _:=hc;replace hr:Hid _:=hr;clear hd hh hv hn2
              by_cases c1:v.length<1
              ·rw[if_pos (.inl c1)] at hn3
               replace hn3:Hid _:=hn3;clear hnv
               go_wp2_with fail
               refine Calls.mono hc.out ?_;rintro z w1 ⟨rfl,rfl⟩;clear hc
               go_wp2_with fail
               (try simp only[Exit.inBlock,Exit.then])
               refine bodyPost_ret (results_tmp4 rfl _ _ _) rfl ?_;exact⟨rfl,_,_,_,_,rfl,HQ.out _ _ _ _ (.inl ⟨hn3.out,rfl⟩)⟩
              by_cases c5:5<v.length
              ·rw[if_pos (.inr (.inl c5))] at hn3
               replace hn3:Hid _:=hn3;clear hnv
               go_wp2_with fail
               refine Calls.mono hc.out ?_;rintro z w1 ⟨rfl,rfl⟩;clear hc
               go_wp2_with fail
               (try simp only[Exit.inBlock,Exit.then])
               refine bodyPost_ret (results_tmp4 rfl _ _ _) rfl ?_;exact⟨rfl,_,_,_,_,rfl,HQ.out _ _ _ _ (.inl ⟨hn3.out,rfl⟩)⟩
              have hnl:lvD v=n:=by rw[hnv.out,List.take_of_length_le (by omega)]
              rw[hnl] at hn3;have hn4:nuL L=if r=[] then some (D,P+(if m=true then-(n:Int) else n)) else none:=by
               rw[hn3]
               by_cases c:r=[]
               ·rw[if_pos c,if_neg (fun h=>by rcases h with h|h|h;exact c1 h;exact c5 h;exact h c)]
               ·rw[if_neg c,if_pos (.inr (.inr c))]
              replace hn4:Hid _:=hn4;clear hn3 hnl hnv
              cases m
              ·have e2:IntKind.i64.wrap (P+(n:Int))=P+(n:Int):=IntWalk.i64_in _ ⟨by omega,by omega⟩
               go_wp2_with fail
               refine Calls.mono hc.out ?_;rintro z w1 ⟨rfl,rfl⟩;clear hc
               go_wp2_with fail
               go_meet
               exact⟨rfl,j,r,_,rfl,rfl,hr.out,hn4⟩
              ·have e2:IntKind.i64.wrap (-(n:Int))= -(n:Int):=IntWalk.i64_in _ ⟨by omega,by omega⟩
               have e3:IntKind.i64.wrap (P+ -(n:Int))=P+ -(n:Int):=IntWalk.i64_in _ ⟨by omega,by omega⟩
               go_wp2_with fail
               refine Calls.mono hc.out ?_;rintro z w1 ⟨rfl,rfl⟩;clear hc
               go_wp2_with fail
               go_meet
               exact⟨rfl,j,r,_,rfl,rfl,hr.out,hn4⟩
             ·rw[hh] at hc
              cases r with
              |nil=>cases hh
              |cons b r=>
               obtain⟨hk,-,hr2,-⟩:=rest_cons hr;have hix:=at_is s j b r hr;have hd2:=dgs_next hd hh;have hb:=of_decide_eq_true (show isDg b=true from hh)
               have hll:(v++[b]).length=v.length+1:=by simp
               obtain⟨x,hx⟩: ∃x,b.toNat=x:=⟨_,rfl⟩;have ec:IntKind.i64.wrap (x:Int)=(x:Int):=IntWalk.i64_in _ ⟨by omega,by omega⟩;have eN:v.length<6→n*10+(x-48)<1000000∧n*10+(x-48)=lvD ((v++[b]).take 6):=fun c=>by
                have hnl:n=lvD v:=by rw[hnv.out,List.take_of_length_le (by omega)]
                have hlt:=lvD_lt _ (v++[b]) rfl (by
                 have:=spD_dig z;unfold Dgs at hd2;rw[hd2] at this;exact fun c hc=>this c (List.mem_append.2 (.inl hc)))
                have h6:10^ (v++[b]).length≤10^6:=Nat.pow_le_pow_right (by omega) (by omega);rw[List.take_of_length_le (by omega),lvD_snoc,←hnl,hx];rw[lvD_snoc,←hnl,hx] at hlt;exact⟨by omega,rfl⟩
               have eT: ¬v.length<6→n=lvD ((v++[b]).take 6):=fun c=>by
                rw[hnv.out,List.take_append_of_le_length (by omega)]
               rw[hx] at hix hb;replace hx:Hid _:=hx;replace hd2:Hid _:=hd2;replace hc:Hid _:=hc;replace hr2:Hid _:=hr2;replace hll:Hid _:=hll;replace eN:Hid _:=eN;replace eT:Hid _:=eT;clear hr hd hh hn2 hnv
               by_cases c6:v.length<6
               ·obtain⟨f1,f2⟩:=eN.out c6
                obtain⟨q,hq⟩: ∃q,n*10+(x-48)=q:=⟨_,rfl⟩;rw[hq] at f1 f2;have g1:10*(n:Int)+(x:Int)-48=(q:Int):=by omega
                have g2:IntKind.i64.wrap (10*(n:Int)+(x:Int))=10*(n:Int)+(x:Int):=IntWalk.i64_in _ ⟨by omega,by omega⟩;have g3:IntKind.i64.wrap (10*(n:Int))=10*(n:Int):=IntWalk.i64_in _ ⟨by omega,by omega⟩;have g4:IntKind.i64.wrap (q:Int)=(q:Int):=IntWalk.i64_in _ ⟨by omega,by omega⟩;replace f2:Hid _:=f2;clear hq eN eT
                go_wp2_with fail
                refine Calls.mono hc.out ?_;rintro z w1 ⟨rfl,rfl⟩;clear hc
                go_wp2
                go_roundw
                case rel=>exact⟨j+1,q,r,v++[b],by go_num,by go_num,f1,f2,by rw[hll.out];go_num,by rw[hll.out];omega,hr2.out,hd2.out,trivial⟩
                case measure=>simp[intOf];omega
               ·have f2:Hid _:=eT.out c6
                clear eN eT
                go_wp2_with fail
                refine Calls.mono hc.out ?_;rintro z w1 ⟨rfl,rfl⟩;clear hc
                go_wp2
                go_roundw
                case rel=>exact⟨j+1,n,r,v++[b],by go_num,rfl,hn6,f2,by rw[hll.out];go_num,by rw[hll.out];omega,hr2.out,hd2.out,trivial⟩
                case measure=>simp[intOf];omega
        case rest=>
         obtain⟨rfl,k4,r4,Q,rfl,rfl,hr4,hn4⟩:=hcut;clear hn hr2
         cases r4 with
         |nil=>
          have hk:=rest_nil hr4;have hn5:=hn4.out;rw[if_pos rfl] at hn5;replace hn5:Hid _:=hn5;clear hn4 hr4;subst hk
          go_wp2_with fail
          (try simp only[Exit.inBlock,Exit.then])
          refine bodyPost_ret (results_tmp4 rfl _ _ _) rfl ?_;exact⟨rfl,_,_,_,_,rfl,HQ.out _ _ _ _ (.inr ⟨D,Q,hn5.out,by rw[HG.out],rfl,rfl,by simp⟩)⟩
         |cons b r=>
          obtain⟨hk,-,-,-⟩:=rest_cons hr4;have hn5:=hn4.out;rw[if_neg (by simp)] at hn5;replace hn5:Hid _:=hn5;have hb:((k4:Int)==(s.size:Int))=false:=by rw[beq_eq_false_iff_ne];omega
          clear hn4 hr4
          go_wp2_with fail
          (try simp only[Exit.inBlock,Exit.then])
          refine bodyPost_ret (results_tmp4 rfl _ _ _) rfl ?_;exact⟨rfl,_,_,_,_,rfl,HQ.out _ _ _ _ (.inl ⟨hn5.out,by first|rfl|simp[hb]⟩)⟩
    ·rw[hh] at hc
     cases r with
     |nil=>cases hh
     |cons b r=>
      obtain⟨hk,-,hr2,-⟩:=rest_cons hr;have hd2:=dgs_next hd hh;have hst:=slice_at s k b r d hr;have hz1:(⟨d.toArray⟩:ByteArray).size≤400:=by rw[mk_size];omega
      have hz2:(s.extract k (k+1)).size≤1:=by rw[(rest_cons hr).2.2.2];exact Nat.le_refl _
      have hdl2:(d++[b]).length≤k+1:=by simp;omega
      replace hdl2:Hid _:=hdl2;replace hd2:Hid _:=hd2;replace hc:Hid _:=hc;replace hr2:Hid _:=hr2;replace hst:Hid _:=hst;clear hr hd hh
      go_wp2_with fail
      refine Calls.mono hc.out ?_;rintro z w1 ⟨rfl,rfl⟩;clear hc
      go_wp2
      go_roundw
      case rel=>exact⟨k+1,r,d++[b],by go_num,by rw[←hst.out],hr2.out,hd2.out,hdl2.out,trivial⟩
      case measure=>simp[intOf];omega
end Go.Proofs.YtpgijbdgljkeeaaGreatDoor
