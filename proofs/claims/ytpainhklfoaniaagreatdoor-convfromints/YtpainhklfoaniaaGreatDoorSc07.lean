/-
  Texts laid together: Lk, Lk2, Co1, Co2, Co3, Co9.
-/
import Derived.Deep.MidRow
import Derived.Deep.Cut
import Derived.Test.YtpainhklfoaniaaGreatDoorSc06
set_option maxRecDepth 100000
set_option maxHeartbeats 6400000
namespace Go.Proofs.YtpainhklfoaniaaGreatDoor
open _root_.Go.Proofs.Tryz
open Go.RowKit
def au (w:World)(b:Nat)(ty:TypeId)(vs:List Value):Prop:=w.heap[b]? =some (.cells vs.toArray ty (0,0))
theorem au.lt {w:World}{b:Nat}{ty:TypeId}{vs:List Value}(h:au w b ty vs):b<w.heap.size:=(Array.getElem?_eq_some_iff.1 h).1
theorem au.l {w w':World}{b:Nat}{ty:TypeId}{vs:List Value}(h:au w b ty vs)(hb:yB w w'):au w' b ty vs:=(hb.block b h.lt).trans h
theorem au.drew {w:World}{b:Nat}{ty:TypeId}{vs:List Value}(h:au w b ty vs):au w.drew b ty vs:=h.l (Below.refl _ _).drew
theorem ah (w:World)(vs:List Value)(ty:TypeId):au (w.alloc (.cells vs.toArray ty)) w.heap.size ty vs:=heap_alloc_new _ _
theorem au.c {w:World}{b:Nat}{ty:TypeId}{vs:List Value}(h:au w b ty vs)(i:Nat){v:Value}(hv:vs[i]? =some v):w.cell? ⟨b,i,none⟩=some v:=by
 unfold World.cell?;simp only;rw[h]
 simpa using hv
theorem au.cs2 {w:World}{b:Nat}{ty:TypeId}{x0 x1:Value}{l:List Value}(h:au w b ty (x0::x1::l)):w.cell? ⟨b,0,none⟩=some x0∧w.cell? ⟨b,1,none⟩=some x1:=⟨h.c 0 rfl,h.c 1 rfl⟩
theorem au.cs3 {w:World}{b:Nat}{ty:TypeId}{x0 x1 x2:Value}{l:List Value}(h:au w b ty (x0::x1::x2::l)):w.cell? ⟨b,0,none⟩=some x0∧w.cell? ⟨b,1,none⟩=some x1∧w.cell? ⟨b,2,none⟩=some x2:=⟨h.c 0 rfl,h.c 1 rfl,h.c 2 rfl⟩
theorem au.cs4 {w:World}{b:Nat}{ty:TypeId}{x0 x1 x2 x3:Value}{l:List Value}(h:au w b ty (x0::x1::x2::x3::l)):w.cell? ⟨b,0,none⟩=some x0∧w.cell? ⟨b,1,none⟩=some x1∧w.cell? ⟨b,2,none⟩=some x2∧w.cell? ⟨b,3,none⟩=some x3:=⟨h.c 0 rfl,h.c 1 rfl,h.c 2 rfl,h.c 3 rfl⟩
theorem au.cs5 {w:World}{b:Nat}{ty:TypeId}{x0 x1 x2 x3 x4:Value}{l:List Value}(h:au w b ty (x0::x1::x2::x3::x4::l)):w.cell? ⟨b,0,none⟩=some x0∧w.cell? ⟨b,1,none⟩=some x1∧w.cell? ⟨b,2,none⟩=some x2∧w.cell? ⟨b,3,none⟩=some x3∧w.cell? ⟨b,4,none⟩=some x4:=⟨h.c 0 rfl,h.c 1 rfl,h.c 2 rfl,h.c 3 rfl,h.c 4 rfl⟩
theorem au.cs6 {w:World}{b:Nat}{ty:TypeId}{x0 x1 x2 x3 x4 x5:Value}{l:List Value}(h:au w b ty (x0::x1::x2::x3::x4::x5::l)):w.cell? ⟨b,0,none⟩=some x0∧w.cell? ⟨b,1,none⟩=some x1∧w.cell? ⟨b,2,none⟩=some x2∧w.cell? ⟨b,3,none⟩=some x3∧w.cell? ⟨b,4,none⟩=some x4∧w.cell? ⟨b,5,none⟩=some x5:=⟨h.c 0 rfl,h.c 1 rfl,h.c 2 rfl,h.c 3 rfl,h.c 4 rfl,h.c 5 rfl⟩
theorem au.cs8 {w:World}{b:Nat}{ty:TypeId}{x0 x1 x2 x3 x4 x5 x6 x7:Value}{l:List Value}(h:au w b ty (x0::x1::x2::x3::x4::x5::x6::x7::l)):w.cell? ⟨b,0,none⟩=some x0∧w.cell? ⟨b,1,none⟩=some x1∧w.cell? ⟨b,2,none⟩=some x2∧w.cell? ⟨b,3,none⟩=some x3∧w.cell? ⟨b,4,none⟩=some x4∧w.cell? ⟨b,5,none⟩=some x5∧w.cell? ⟨b,6,none⟩=some x6∧w.cell? ⟨b,7,none⟩=some x7:=⟨h.c 0 rfl,h.c 1 rfl,h.c 2 rfl,h.c 3 rfl,h.c 4 rfl,h.c 5 rfl,h.c 6 rfl,h.c 7 rfl⟩
theorem au.cs9 {w:World}{b:Nat}{ty:TypeId}{x0 x1 x2 x3 x4 x5 x6 x7 x8:Value}{l:List Value}(h:au w b ty (x0::x1::x2::x3::x4::x5::x6::x7::x8::l)):w.cell? ⟨b,0,none⟩=some x0∧w.cell? ⟨b,1,none⟩=some x1∧w.cell? ⟨b,2,none⟩=some x2∧w.cell? ⟨b,3,none⟩=some x3∧w.cell? ⟨b,4,none⟩=some x4∧w.cell? ⟨b,5,none⟩=some x5∧w.cell? ⟨b,6,none⟩=some x6∧w.cell? ⟨b,7,none⟩=some x7∧w.cell? ⟨b,8,none⟩=some x8:=⟨h.c 0 rfl,h.c 1 rfl,h.c 2 rfl,h.c 3 rfl,h.c 4 rfl,h.c 5 rfl,h.c 6 rfl,h.c 7 rfl,h.c 8 rfl⟩
theorem cD (a:Addr)(W:World)(g:Fn):(store a (Value.func g #[] #[])).run Tryz.prog W=stored Tryz.prog W a (Value.func g #[] #[]) .plain:=run_store _ W a _ _ rfl
theorem gn (a:Addr)(W:World):(store a Value.nilFunc).run Tryz.prog W=stored Tryz.prog W a Value.nilFunc .plain:=run_store _ W a _ _ rfl
theorem au.f {w:World}{b:Nat}{ty:TypeId}{vs:List Value}(h:au w b ty vs)(i:Nat):w.frozen? ⟨b,i,none⟩=false:=by
 unfold World.frozen?;simp only;rw[h];simp
theorem au.set {w:World}{b:Nat}{ty:TypeId}{vs:List Value}(h:au w b ty vs)(i:Nat)(x:Value):au (w.setCell ⟨b,i,none⟩ x) b ty (vs.set i x):=by
 have hlt:=h.lt;have h':w.heap[b]= .cells vs.toArray ty (0,0):=by simpa[au,Array.getElem?_eq_getElem hlt] using h
 show(w.heap.modify b _)[b]? =_
 rw[Array.getElem?_eq_getElem (by simpa using hlt),Array.getElem_modify_self,h'];simp
theorem au.off {w:World}{b c:Nat}{ty:TypeId}{vs:List Value}(h:au w b ty vs)(hne:c≠b)(i:Nat)(x:Value):au (w.setCell ⟨c,i,none⟩ x) b ty vs:=by
 unfold au;rw[Below.heap_setCell _ _ _ _ (fun e=>hne e.symm)]
 exact h
theorem au.ne {w:World}{b c:Nat}{ty tz:TypeId}{vs us:List Value}(h:au w b ty vs)(g:au w c tz us)(hn:vs≠us∨ty≠tz):c≠b:=fun e=>by
 subst e;unfold au at h g;rw[h] at g;simp only[Option.some.injEq,Obj.cells.injEq] at g
 rcases hn with hn|hn
 ·exact hn (by simpa using congrArg Array.toList g.1)
 ·exact hn g.2.1
def wF (b:Nat)(v:Value)(zs:List Nat):Prop:=0<zs.length→ ∀a n c,v= .slice (some a) n c→a.block≠b
theorem t9 {w:World}{k:IntKind}{v:Value}{zs:List Nat}(h:Rd w k v zs){b:Nat}(hb:w.heap.size≤b):wF b v zs:=fun hp a n c hv=>by
 obtain⟨ao,cap,rfl,_,_,h3⟩:=h;obtain⟨g,off,rfl,hc⟩:=h3 hp
 cases hv
 have h0:=hc 0 hp
 show g≠b
 intro e;subst e;unfold World.cell? at h0;simp only at h0;rw[Array.getElem?_eq_none hb] at h0
 cases h0
theorem cq {w:World}{k:IntKind}{v:Value}{zs:List Nat}(h:Rd w k v zs)(hn:Dg.Norm zs){b:Nat}{ty:TypeId}{vs:List Value}(hl:au w b ty vs)(hv0: ∀x∈vs,∀n:Int,n≠0→x≠ .int k n):wF b v zs:=fun hp a n c hv=>by
 obtain⟨ao,cap,rfl,_,_,h3⟩:=h;obtain⟨g,off,rfl,hc⟩:=h3 hp
 cases hv
 have h0:=hc (zs.length-1) (by omega)
 show g≠b
 intro e;subst e;have hnn:zs.getD (zs.length-1) 0≠0:=hn (by intro h;rw[h] at hp;simp at hp);unfold World.cell? at h0;simp only at h0;rw[hl] at h0;simp only[Option.isSome_none,Bool.false_eq_true,if_false,List.getElem?_toArray] at h0;exact hv0 _ (List.mem_of_getElem? h0) _ (by omega) rfl
theorem aX {w:World}{k:IntKind}{v:Value}{zs:List Nat}(h:Rd w k v zs){b:Nat}{ty:TypeId}{vs:List Value}(hl:au w b ty vs)(hv0: ∀x∈vs,∀n:Int,x≠ .int k n):wF b v zs:=fun hp a n c hv=>by
 obtain⟨ao,cap,rfl,_,_,h3⟩:=h;obtain⟨g,off,rfl,hc⟩:=h3 hp
 cases hv
 have h0:=hc 0 hp
 show g≠b
 intro e;subst e;unfold World.cell? at h0;simp only at h0;rw[hl] at h0;simp only[Option.isSome_none,Bool.false_eq_true,if_false,List.getElem?_toArray] at h0;exact hv0 _ (List.mem_of_getElem? h0) _ rfl
theorem abi {w:World}{base e:Nat}{k:IntKind}{v:Value}{zs:List Nat}(h:Own w base e k v zs){b:Nat}(hb:b<base):wF b v zs:=fun hp a n c hv=>by
 rcases h.2 with⟨h1,h2⟩| ⟨g,cap,cur,h1,hg,_⟩
 ·rw[h1] at hv;cases hv
 ·rw[h1] at hv
  cases hv
  show g≠b
  omega
theorem Rd.set {w:World}{k:IntKind}{v:Value}{zs:List Nat}(h:Rd w k v zs){b:Nat}(ho:wF b v zs)(i:Nat)(x:Value):Rd (w.setCell ⟨b,i,none⟩ x) k v zs:=by
 obtain⟨ao,cap,rfl,h1,h2,h3⟩:=h;refine⟨ao,cap,rfl,h1,h2,fun hp=> ?_⟩
 obtain⟨g,off,rfl,hc⟩:=h3 hp;have hne:=ho hp _ _ _ rfl;refine⟨g,off,rfl,fun j hj=> ?_⟩
 have hne2:g≠b:=hne;unfold World.cell?;simp only;rw[Below.heap_setCell _ _ _ _ hne2];exact hc j hj
theorem Own.setE {w:World}{base e:Nat}{k:IntKind}{v:Value}{zs:List Nat}(h:Own w base e k v zs){b:Nat}{ty:TypeId}{vs:List Value}(hl:au w b ty vs)(hty:ty≠e)(i:Nat)(x:Value):Own (w.setCell ⟨b,i,none⟩ x) base e k v zs:=by
 obtain⟨h0,h2⟩:=h;refine⟨h0, ?_⟩
 rcases h2 with h2| ⟨g',cap',cur,hv,hbg,hh,r⟩
 ·exact .inl h2
 ·refine .inr ⟨g',cap',cur,hv,hbg, ?_,r⟩
  have hne:g'≠b:=by
   intro e;subst e;unfold au at hl;rw[hl] at hh;simp only[Option.some.injEq,Obj.cells.injEq] at hh;exact hty hh.2.1
  rw[Below.heap_setCell _ _ _ _ hne];exact hh
structure But (b:Nat) (w w':World):Prop where
 os:w'.os=w.os
 tape:w'.tape=w.tape
 output:w'.output=w.output
 size:w'.heap.size=w.heap.size
 block: ∀k,k≠b→w'.heap[k]? =w.heap[k]?
theorem ag (w:World)(b i:Nat)(x:Value):But b w (w.setCell ⟨b,i,none⟩ x):=
 ⟨rfl,rfl,rfl,by simp[World.setCell],fun _ hk=>Below.heap_setCell _ _ _ _ hk⟩
theorem But.trans {b:Nat}{w w1 w2:World}(h:But b w w1)(k:But b w1 w2):But b w w2:=
 ⟨k.os.trans h.os,k.tape.trans h.tape,k.output.trans h.output,k.size.trans h.size,fun i hi=>(k.block i hi).trans (h.block i hi)⟩
theorem de (b:Nat): ∀(vs:List Value) (o:Nat) (w:World),But b w (w.setCells b o vs)
 | [],_,w=>⟨rfl,rfl,rfl,rfl,fun _ _=>rfl⟩
 |v::r,o,w=>by
  rw[World.setCells];exact(ag w b o v).trans (de b r (o+1) _)
theorem But.below {b B:Nat}{w0 w w':World}(h:But b w w')(k:Below B w0 w)(hb:B≤b):Below B w0 w':=
 ⟨h.os.trans k.os,h.tape.trans k.tape,h.output.trans k.output,by rw[h.size];exact k.size,fun i hi=>(h.block i (by omega)).trans (k.block i hi)⟩
theorem But.loc {b c:Nat}{w w':World}{ty:TypeId}{vs:List Value}(h:But b w w')(k:au w c ty vs)(hne:c≠b):au w' c ty vs:=(h.block c hne).trans k
theorem But.c {b:Nat}{w w':World}(h:But b w w'){a:Addr}(ha:a.block≠b):w'.cell? a=w.cell? a:=by
 unfold World.cell?;rw[h.block a.block ha]
theorem But.rd {b:Nat}{w w':World}{k:IntKind}{v:Value}{zs:List Nat}(h:But b w w')(r:Rd w k v zs)(ho:wF b v zs):Rd w' k v zs:=by
 obtain⟨ao,cap,rfl,h1,h2,h3⟩:=r;refine⟨ao,cap,rfl,h1,h2,fun hp=> ?_⟩
 obtain⟨g,off,rfl,hc⟩:=h3 hp;have hne:=ho hp _ _ _ rfl;exact⟨g,off,rfl,fun j hj=>(h.c (a:=⟨g,off+j,none⟩) hne).trans (hc j hj)⟩
theorem But.own {b:Nat}{w w':World}{base e:Nat}{k:IntKind}{v:Value}{zs:List Nat}(h:But b w w')(r:Own w base e k v zs){ty:TypeId}{vs:List Value}(hl:au w b ty vs)(hty:ty≠e):Own w' base e k v zs:=by
 obtain⟨h0,h2⟩:=r;refine⟨h0, ?_⟩
 rcases h2 with h2| ⟨g',cap',cur,hv,hbg,hh,r⟩
 ·exact .inl h2
 ·refine .inr ⟨g',cap',cur,hv,hbg, ?_,r⟩
  have hne:g'≠b:=by
   intro e;subst e;unfold au at hl;rw[hl] at hh;simp only[Option.some.injEq,Obj.cells.injEq] at hh;exact hty hh.2.1
  rw[h.block g' hne];exact hh
theorem Cd (b:Nat)(ty:TypeId): ∀(vs us pre:List Value) (w:World),au w b ty (pre++us)→us.length=vs.length→au (w.setCells b pre.length vs) b ty (pre++vs)
 | [],us,pre,w,h,hl=>by
  obtain rfl:us=[]:=List.eq_nil_of_length_eq_zero hl;exact h
 |v::r,us,pre,w,h,hl=>by
  obtain⟨u,us',rfl⟩: ∃u us',us=u::us':=by
   cases us with
   |nil=>simp at hl
   |cons u us'=>exact⟨u,us',rfl⟩
  rw[World.setCells];have h1:=h.set pre.length v;have e1:(pre++u::us').set pre.length v=(pre++[v])++us':=by simp
  rw[e1] at h1;have h2:=Cd b ty r us' (pre++[v]) _ h1 (by simpa using hl);have e2:(pre++[v]).length=pre.length+1:=by simp
  rw[e2] at h2;have e3:pre++[v]++r=pre++v::r:=by simp
  rw[e3] at h2;exact h2
theorem au.range {w:World}{b:Nat}{tb:TypeId}{vs:List Value}(h:au w b tb vs):w.rangeAt b 0 vs:=fun j _ hv=>by rw[Nat.zero_add];exact h.c j hv
theorem au.there {w:World}{b:Nat}{tb:TypeId}{us:List Value}(h:au w b tb us)(n:Nat)(hn:n=us.length):w.there b 0 n:=fun j hj=>by
 have hj':j<us.length:=by omega
 rw[Nat.zero_add];exact⟨by rw[h.c j (List.getElem?_eq_getElem hj')];rfl,h.f j⟩
theorem au.sets {w:World}{b:Nat}{tb:TypeId}{us:List Value}(h:au w b tb us)(vs:List Value)(hl:us.length=vs.length):au (w.setCells b 0 vs) b tb vs:=by
 have:=Cd b tb vs us [] w h hl
 simpa using this
def dK (n:Int):Int:=if n<1∨8<n then 0 else if n≤3 then 1 else if n≤5 then 2 else 3
theorem jk (n:Int)(w:World):yC 38 #[yi n] w fun z w'=>z= .returned (yi (dK n))∧w'=w:=by
 unfold dK
 by_cases h1:n<1
 ·rw[if_pos (.inl h1)]
  go_enter func38,ntmps38
  go_wp2
  go_ret
  exact⟨rfl,rfl⟩
 ·by_cases h2:8<n
  ·rw[if_pos (.inr h2)]
   go_enter func38,ntmps38
   go_wp2
   go_ret
   exact⟨rfl,rfl⟩
  ·rw[if_neg (by omega)]
   by_cases h3:n≤3
   ·rw[if_pos h3]
    go_enter func38,ntmps38
    go_wp2
    go_ret
    exact⟨rfl,rfl⟩
   ·rw[if_neg h3]
    by_cases h4:n≤5
    ·rw[if_pos h4]
     go_enter func38,ntmps38
     go_wp2
     go_ret
     exact⟨rfl,rfl⟩
    ·rw[if_neg h4]
     go_enter func38,ntmps38
     go_wp2
     go_ret
     exact⟨rfl,rfl⟩
def tS:Nat→List Value
 |1=>[yi 2,yi 24,yi (-149),yi 104,.bool true,yi 4,yi 8,yi 1,.func (.func 132) #[] #[]]
 |2=>[yi 2,yi 53,yi (-1074),yi 971,.bool true,yi 8,yi 11,yi 1,.func (.func 132) #[] #[]]
 |3=>[yi 2,yi 64,yi (-16445),yi 16320,.bool true,yi 10,yi 15,yi 1,.func (.func 133) #[] #[]]
 |4=>[yi 16,yi 6,yi (-70),yi 57,.bool false,yi 4,yi 7,yi 2,.func (.func 132) #[] #[]]
 |5=>[yi 16,yi 14,yi (-78),yi 49,.bool false,yi 8,yi 7,yi 2,.func (.func 132) #[] #[]]
 |6=>[yi 2,yi 24,yi (-151),yi 103,.bool false,yi 4,yi 8,yi 3,.func (.func 135) #[] #[]]
 |7=>[yi 2,yi 56,yi (-183),yi 71,.bool false,yi 8,yi 8,yi 3,.func (.func 135) #[] #[]]
 |8=>[yi 2,yi 53,yi (-1076),yi 970,.bool false,yi 8,yi 11,yi 3,.func (.func 135) #[] #[]]
 |_=>(yzL 0 0 0 0 false 0 0 0)
def Ar:List Value:=[yi 0,yi 0,yi 0,yi 0,.bool false,yi 0,yi 0,yi 0,.nilFunc,yi 2,yi 24,yi (-149),yi 104,.bool true,yi 4,yi 8,yi 1,.func (.func 132) #[] #[],yi 2,yi 53,yi (-1074),yi 971,.bool true,yi 8,yi 11,yi 1,.func (.func 132) #[] #[],yi 2,yi 64,yi (-16445),yi 16320,.bool true,yi 10,yi 15,yi 1,.func (.func 133) #[] #[],yi 16,yi 6,yi (-70),yi 57,.bool false,yi 4,yi 7,yi 2,.func (.func 132) #[] #[],yi 16,yi 14,yi (-78),yi 49,.bool false,yi 8,yi 7,yi 2,.func (.func 132) #[] #[],yi 2,yi 24,yi (-151),yi 103,.bool false,yi 4,yi 8,yi 3,.func (.func 135) #[] #[],yi 2,yi 56,yi (-183),yi 71,.bool false,yi 8,yi 8,yi 3,.func (.func 135) #[] #[],yi 2,yi 53,yi (-1076),yi 970,.bool false,yi 8,yi 11,yi 3,.func (.func 135) #[] #[]]
theorem br {P:Program}{fn:Func}{a:Nat}{ty:TypeId}{tmps:Array Value}{w:World}{b:Nat}{v:Value}(hres:fn.results= #[.cell a ty])(hp:tmps.getD a undef= .pointer (some ⟨b,0,none⟩))(hl:(loadVar ty ⟨b,0,none⟩).run P w= .ok v w):(results fn tmps).run P w= .ok v w:=by
 rw[Array.getD_eq_getD_getElem?] at hp;unfold results;simp[hres,hp,asAddr,hl]
set_option maxRecDepth 20000 in
theorem jG (w:World):yC 97 #[] w (yR w (.agg Ar.toArray)):=by
 have l0:au (w.alloc (.cells Tryz.zeroCells175 175)) w.heap.size 175 Tryz.zeroCells175.toList:=by
  have:=ah w Tryz.zeroCells175.toList 175
  rwa [Array.toArray_toList] at this
 have th:=l0.there 81 (by kernel_rfl);have cR:=l0.sets Ar (by kernel_rfl);have bu:=de w.heap.size Ar 0 (w.alloc (.cells Tryz.zeroCells175 175));have bR:=bu.below (af w (.cells Tryz.zeroCells175 175)) (Nat.le_refl _);have hl:=run_loadVar_mid (P:=Tryz.prog) _ w.heap.size 0 175 Ar _ cR.range underlying175 rfl (by kernel_rfl);have HH:Hid (_∧_):=⟨hl,bR⟩;clear hl bR cR bu l0
 go_enter func97,ntmps97
 go_wp2_with (refine wpList_store_mid rfl 175 (.tmp 0) (.tmp 28) rfl w.heap.size 0 #[yi 0,yi 0,yi 0,yi 0,.bool false,yi 0,yi 0,yi 0,.nilFunc,yi 2,yi 24,yi (-149),yi 104,.bool true,yi 4,yi 8,yi 1,.func (.func 132) #[] #[],yi 2,yi 53,yi (-1074),yi 971,.bool true,yi 8,yi 11,yi 1,.func (.func 132) #[] #[],yi 2,yi 64,yi (-16445),yi 16320,.bool true,yi 10,yi 15,yi 1,.func (.func 133) #[] #[],yi 16,yi 6,yi (-70),yi 57,.bool false,yi 4,yi 7,yi 2,.func (.func 132) #[] #[],yi 16,yi 14,yi (-78),yi 49,.bool false,yi 8,yi 7,yi 2,.func (.func 132) #[] #[],yi 2,yi 24,yi (-151),yi 103,.bool false,yi 4,yi 8,yi 3,.func (.func 135) #[] #[],yi 2,yi 56,yi (-183),yi 71,.bool false,yi 8,yi 8,yi 3,.func (.func 135) #[] #[],yi 2,yi 53,yi (-1076),yi 970,.bool false,yi 8,yi 11,yi 3,.func (.func 135) #[] #[]] rfl rfl th (by kernel_rfl) (by simp[Value.oneCell']) ?_)
 change bodyPost _ _ _ _ _ (World.setCells (w.alloc (.cells Tryz.zeroCells175 175)) w.heap.size 0 Ar);obtain⟨hl,bR⟩:=HH.out;generalize World.setCells (w.alloc (.cells Tryz.zeroCells175 175)) w.heap.size 0 Ar=W at hl bR⊢;exact bodyPost_ret (v:= .agg Ar.toArray) (br results97 rfl hl) rfl ⟨rfl,bR⟩
theorem aj {P:Program}{fn:Func}{a t:Nat}{ty:TypeId}{tmps:Array Value}{w:World}{b:Nat}{v u:Value}(hres:fn.results= #[.cell a ty,.tmp t])(hp:tmps.getD a undef= .pointer (some ⟨b,0,none⟩))(hu:tmps.getD t undef=u)(hl:(loadVar ty ⟨b,0,none⟩).run P w= .ok v w):(results fn tmps).run P w= .ok (.tuple #[v,u]) w:=by
 rw[Array.getD_eq_getD_getElem?] at hp hu;unfold results;simp[hres,hp,hu,asAddr,hl]
def tC (w:World)(n:Nat)(c:Int)(e:Ending)(w':World):Prop:=
 e= .returned (.tuple #[.agg (tS n).toArray,yi c])∧yB w w'
theorem lR (n:Int)(w:World)(h:dK n=0):yC 70 #[yi n] w (tC w 0 6):=by
 have hf:=jk n;rw[h] at hf;have HF:Hid _:=hf;clear hf h;have l0:=ah w (yzL 0 0 0 0 false 0 0 0) 131;have hsn:=gn;have b0:=af w (.cells (yzA 0 0 0 0 false 0 0 0) 131);have hl:=run_loadVar_mid (P:=Tryz.prog) _ w.heap.size 0 131 (tS 0) _ l0.range underlying131 rfl (by kernel_rfl);have HH:Hid (_∧_):=⟨hl,b0⟩;clear hl b0 l0
 go_enter func70,ntmps70
 go_wp2_with fail
 refine(HF.out _).mono ?_;rintro z w' ⟨rfl,rfl⟩
 go_wp2
 obtain⟨hl,bR⟩:=HH.out;exact bodyPost_ret (aj results70 rfl rfl hl) rfl ⟨rfl,bR⟩
theorem kC (k R D L G sz ex fam c:Int)(gr:Bool)(F:Nat)(A:Value)(w:World)(hc:(c==0)=false)
  (HF: ∀w1,yC 38 #[yi k] w1 fun z w'=>z= .returned (yi c)∧w'=w1)
  (HL: ∀w1,yC 97 #[] w1 fun z w'=>z= .returned A∧yB w1 w')
  (hix: ∀W:World,(Instr.index 175 A (yi k)).run Tryz.prog W= .ok (ylV R D L G gr sz ex fam F) W):
  yC 70 #[yi k] w (yR w (.tuple #[ylV R D L G gr sz ex fam F,yi 0])):=by
 replace HF:Hid _:=HF;replace HL:Hid _:=HL;have hsf:=cD;have l0:=ah w (yzL 0 0 0 0 false 0 0 0) 131;have b0:=af w (.cells (yzA 0 0 0 0 false 0 0 0) 131)
 go_enter func70,ntmps70
 go_wp2_with fail
 refine(HF.out _).mono ?_;rintro z w' ⟨rfl,rfl⟩
 go_wp2_with fail
 refine(HL.out _).mono ?_;rintro z w2 ⟨rfl,b2⟩;have l2:=l0.l b2;have cR:au (((((((((w2.setCell ⟨w.heap.size,0,none⟩ (yi R)).setCell ⟨w.heap.size,1,none⟩ (yi D)).setCell ⟨w.heap.size,2,none⟩ (yi L)).setCell ⟨w.heap.size,3,none⟩ (yi G)).setCell ⟨w.heap.size,4,none⟩ (.bool gr)).setCell ⟨w.heap.size,5,none⟩ (yi sz)).setCell ⟨w.heap.size,6,none⟩ (yi ex)).setCell ⟨w.heap.size,7,none⟩ (yi fam)).setCell ⟨w.heap.size,8,none⟩ (.func (.func F) #[] #[])) w.heap.size 131 (ylL R D L G gr sz ex fam F):=(((((((((l2.set 0 (yi R)).set 1 (yi D)).set 2 (yi L)).set 3 (yi G)).set 4 (.bool gr)).set 5 (yi sz)).set 6 (yi ex)).set 7 (yi fam)).set 8 (.func (.func F) #[] #[]));have bR:=(((((((((ag w2 w.heap.size 0 (yi R)).trans (ag _ w.heap.size 1 (yi D))).trans (ag _ w.heap.size 2 (yi L))).trans (ag _ w.heap.size 3 (yi G))).trans (ag _ w.heap.size 4 (.bool gr))).trans (ag _ w.heap.size 5 (yi sz))).trans (ag _ w.heap.size 6 (yi ex))).trans (ag _ w.heap.size 7 (yi fam))).trans (ag _ w.heap.size 8 (.func (.func F) #[] #[]))).below (aa b0 b2) (Nat.le_refl _);have hl:=run_loadVar_mid (P:=Tryz.prog) _ w.heap.size 0 131 (ylL R D L G gr sz ex fam F) _ cR.range underlying131 rfl (by kernel_rfl);have HH:Hid (_∧_):=⟨hl,bR⟩;have f0:=l2.f 0;have f1:=l2.f 1;have f2:=l2.f 2;have f3:=l2.f 3;have f4:=l2.f 4;have f5:=l2.f 5;have f6:=l2.f 6;have f7:=l2.f 7;have f8:=l2.f 8;obtain⟨x0,x1,x2,x3,x4,x5,x6,x7,x8⟩:=l2.cs9;clear hl bR cR l0 l2 b0 b2 HF HL
 go_wp2
 obtain⟨hl,bR⟩:=HH.out;exact bodyPost_ret (aj results70 rfl rfl hl) rfl ⟨rfl,bR⟩
theorem uU (w:World):yC 70 #[yi 1] w (tC w 1 0):=
 kC 1 _ _ _ _ _ _ _ 1 _ _ _ w rfl (jk 1) jG (fun W=>by kernel_rfl)
theorem uV (w:World):yC 70 #[yi 2] w (tC w 2 0):=
 kC 2 _ _ _ _ _ _ _ 1 _ _ _ w rfl (jk 2) jG (fun W=>by kernel_rfl)
theorem uW (w:World):yC 70 #[yi 3] w (tC w 3 0):=
 kC 3 _ _ _ _ _ _ _ 1 _ _ _ w rfl (jk 3) jG (fun W=>by kernel_rfl)
theorem uX (w:World):yC 70 #[yi 4] w (tC w 4 0):=
 kC 4 _ _ _ _ _ _ _ 2 _ _ _ w rfl (jk 4) jG (fun W=>by kernel_rfl)
theorem uY (w:World):yC 70 #[yi 5] w (tC w 5 0):=
 kC 5 _ _ _ _ _ _ _ 2 _ _ _ w rfl (jk 5) jG (fun W=>by kernel_rfl)
theorem uZ (w:World):yC 70 #[yi 6] w (tC w 6 0):=
 kC 6 _ _ _ _ _ _ _ 3 _ _ _ w rfl (jk 6) jG (fun W=>by kernel_rfl)
theorem vf (w:World):yC 70 #[yi 7] w (tC w 7 0):=
 kC 7 _ _ _ _ _ _ _ 3 _ _ _ w rfl (jk 7) jG (fun W=>by kernel_rfl)
theorem vh (w:World):yC 70 #[yi 8] w (tC w 8 0):=
 kC 8 _ _ _ _ _ _ _ 3 _ _ _ w rfl (jk 8) jG (fun W=>by kernel_rfl)
def szN:Nat→Nat
 |1=>4|2=>8|3=>10|4=>4|5=>8|6=>4|7=>8|8=>8|_=>0
def exN:Nat→Nat
 |1=>8|2=>11|3=>15|4=>7|5=>7|6=>8|7=>8|8=>11|_=>0
def dgN:Nat→Nat
 |1=>24|2=>53|3=>64|4=>6|5=>14|6=>24|7=>56|8=>53|_=>0
def rdN:Nat→Nat
 |4=>16|5=>16|_=>2
def lsI:Nat→Int
 |1=> -149|2=> -1074|3=> -16445|4=> -70|5=> -78|6=> -151|7=> -183|8=> -1076|_=>0
def fmN:Nat→Nat
 |1=>1|2=>1|3=>1|4=>2|5=>2|_=>3
def frN (k:Nat):Nat:=8*szN k-1-exN k
def kp (k:Nat):Nat:=2^exN k-1
def gW (k:Nat):Nat:=2^ (dgN k-1)
def wrN (k:Nat):Nat:=if k=3 then 2^63 else if k=4 then 2^5 else if k=5 then 2^13 else 0
theorem bO {k:Nat}(h:1≤k∧k≤8):k=1∨k=2∨k=3∨k=4∨k=5∨k=6∨k=7∨k=8:=by omega
theorem Aj (b:Bool)(w:World):yC 128 #[.bool b] w fun z w'=>z= .returned (yi (if b then 1 else 2))∧w'=w:=by
 cases b
 ·go_enter func128,ntmps128
  go_wp2
  go_ret
  exact⟨rfl,rfl⟩
 ·go_enter func128,ntmps128
  go_wp2
  go_ret
  exact⟨rfl,rfl⟩
theorem tm (k:Nat)(hk:1≤k∧k≤8)(w:World):yC 130 #[.agg (tS k).toArray] w (yR w (yi ((frN k:Nat):Int))):=by
 have hsf:=cD
 rcases bO hk with rfl|rfl|rfl|rfl|rfl|rfl|rfl|rfl
 all_goals
  change Calls _ _ #[.agg #[_,_,_,_,_,_,_,_,_]] _ _
  go_enter func130,ntmps130
  go_wp2
  go_ret
  exact⟨rfl,af _ _⟩
theorem jy (k:Nat)(hk:1≤k∧k≤8)(w:World):yC 138 #[.agg (tS k).toArray] w (yR w (yi ((kp k:Nat):Int))):=by
 have hsf:=cD
 rcases bO hk with rfl|rfl|rfl|rfl|rfl|rfl|rfl|rfl
 all_goals
  change Calls _ _ #[.agg #[_,_,_,_,_,_,_,_,_]] _ _
  go_enter func138,ntmps138
  go_wp2
  go_ret
  exact⟨rfl,af _ _⟩
theorem xX (k:Nat)(hk:1≤k∧k≤8)(w:World):yC 131 #[.agg (tS k).toArray] w (yR w (.int .u64 ((gW k:Nat):Int))):=by
 have hsf:=cD
 rcases bO hk with rfl|rfl|rfl|rfl|rfl|rfl|rfl|rfl
 all_goals
  change Calls _ _ #[.agg #[_,_,_,_,_,_,_,_,_]] _ _
  go_enter func131,ntmps131
  go_wp2
  go_ret
  exact⟨rfl,af _ _⟩
theorem L6 (R D L G sz ex fam fr:Int)(gr:Bool)(F:Nat)(w:World)(hlt:fr<D)
  (HF:yJ 130 #[ylV R D L G gr sz ex fam F] (yi fr)):
  yC 139 #[ylV R D L G gr sz ex fam F] w (yR w (.int .u64 0)):=by
 have hsf:=cD;replace HF:Hid _:=HF;have l0:=ah w (ylL R D L G gr sz ex fam F) 131;have b0:=af w (.cells (ylA R D L G gr sz ex fam F) 131);obtain⟨x0,x1,x2,x3,x4,x5,x6,x7,x8⟩:=l0.cs9
 go_enter func139,ntmps139
 go_wp2_with fail
 go_region_held3 (fun wq=>wq.cell? ⟨w.heap.size,0,none⟩=some (yi R)∧wq.cell? ⟨w.heap.size,1,none⟩=some (yi D)∧wq.cell? ⟨w.heap.size,2,none⟩=some (yi L)∧wq.cell? ⟨w.heap.size,3,none⟩=some (yi G)∧wq.cell? ⟨w.heap.size,4,none⟩=some (.bool gr)∧wq.cell? ⟨w.heap.size,5,none⟩=some (yi sz)∧wq.cell? ⟨w.heap.size,6,none⟩=some (yi ex)∧wq.cell? ⟨w.heap.size,7,none⟩=some (yi fam)∧wq.cell? ⟨w.heap.size,8,none⟩=some (.func (.func F) #[] #[])) (go_keep) (first
  | (go_at_call 130;refine(HF.out _).mono ?_;rintro z w2 ⟨rfl,b2⟩;have l2:=l0.drew.l b2;obtain⟨y0,y1,y2,y3,y4,y5,y6,y7,y8⟩:=l2.cs9))
 all_goals go_wp2
 all_goals go_ret
 all_goals exact⟨rfl,aa b0.drew b2⟩
theorem L7 (R D L G sz ex fam fr ld:Int)(gr:Bool)(F:Nat)(w:World)(hlt: ¬fr<D)
  (HF:yJ 130 #[ylV R D L G gr sz ex fam F] (yi fr))
  (HL:yJ 131 #[ylV R D L G gr sz ex fam F] (.int .u64 ld)):
  yC 139 #[ylV R D L G gr sz ex fam F] w (yR w (.int .u64 ld)):=by
 have hsf:=cD;replace HF:Hid _:=HF;replace HL:Hid _:=HL;have l0:=ah w (ylL R D L G gr sz ex fam F) 131;have b0:=af w (.cells (ylA R D L G gr sz ex fam F) 131);obtain⟨x0,x1,x2,x3,x4,x5,x6,x7,x8⟩:=l0.cs9
 go_enter func139,ntmps139
 go_wp2_with fail
 go_region_held3 (fun wq=>wq.cell? ⟨w.heap.size,0,none⟩=some (yi R)∧wq.cell? ⟨w.heap.size,1,none⟩=some (yi D)∧wq.cell? ⟨w.heap.size,2,none⟩=some (yi L)∧wq.cell? ⟨w.heap.size,3,none⟩=some (yi G)∧wq.cell? ⟨w.heap.size,4,none⟩=some (.bool gr)∧wq.cell? ⟨w.heap.size,5,none⟩=some (yi sz)∧wq.cell? ⟨w.heap.size,6,none⟩=some (yi ex)∧wq.cell? ⟨w.heap.size,7,none⟩=some (yi fam)∧wq.cell? ⟨w.heap.size,8,none⟩=some (.func (.func F) #[] #[])) (go_keep) (first
  | (go_at_call 130;refine(HF.out _).mono ?_;rintro z w2 ⟨rfl,b2⟩;have l2:=l0.drew.l b2;obtain⟨y0,y1,y2,y3,y4,y5,y6,y7,y8⟩:=l2.cs9))
 all_goals go_wp2_with fail
 all_goals (refine(HL.out _).mono ?_;rintro z w3 ⟨rfl,b3⟩;go_wp2;go_ret;exact⟨rfl,aa (aa b0.drew b2) b3⟩)
theorem gj (k:Nat)(hk:1≤k∧k≤8)(w:World):yC 139 #[.agg (tS k).toArray] w (yR w (.int .u64 ((wrN k:Nat):Int))):=by
 have HF:=fun w1=>tm k hk w1
 have HL:=fun w1=>xX k hk w1
 rcases bO hk with rfl|rfl|rfl|rfl|rfl|rfl|rfl|rfl
 all_goals first|exact L6 _ _ _ _ _ _ _ _ _ _ w (by decide) HF|exact L7 _ _ _ _ _ _ _ _ _ _ _ w (by decide) HF HL
end Go.Proofs.YtpainhklfoaniaaGreatDoor
