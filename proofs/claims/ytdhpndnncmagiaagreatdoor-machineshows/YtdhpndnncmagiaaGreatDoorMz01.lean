/-
  Texts laid together: Ab3, Co4, Co4b, Eb5, Rn1, Mc0, Mc1, Mc2.
-/
import Derived.Test.YtdhpndnncmagiaaGreatDoorChecked
import Derived.Test.YtdhpndnncmagiaaGreatDoorMa41
import Derived.Test.YtdhpndnncmagiaaGreatDoorDyTx
set_option maxRecDepth 100000
set_option maxHeartbeats 3200000
namespace Go.Proofs.YtdhpndnncmagiaaGreatDoor
open _root_.Go.Proofs.Tryz
open Go.RowKit
abbrev yEL (c:Int)(g:Bool)(t:ak)(o:Option Addr)(k:Nat):List Value:=[.int .i64 c,.bool g,.bool t.s,.slice o (Dg.dg 65536 t.n).length k,.int .i64 t.e]
abbrev yEV (c:Int)(g:Bool)(t:ak)(o:Option Addr)(k:Nat):Value:= .agg #[.int .i64 c,.bool g,.bool t.s,.slice o (Dg.dg 65536 t.n).length k,.int .i64 t.e]
abbrev yEA (c:Int)(g:Bool)(t:ak)(o:Option Addr)(k:Nat):Array Value:= #[.int .i64 c,.bool g,.bool t.s,.slice o (Dg.dg 65536 t.n).length k,.int .i64 t.e]
abbrev yML (t:ak)(o:Option Addr)(k:Nat):List Value:=[.bool t.s,.slice o (Dg.dg 65536 t.n).length k,.int .i64 t.e]
abbrev yMV (t:ak)(o:Option Addr)(k:Nat):Value:= .agg #[.bool t.s,.slice o (Dg.dg 65536 t.n).length k,.int .i64 t.e]
abbrev yMA (t:ak)(o:Option Addr)(k:Nat):Array Value:= #[.bool t.s,.slice o (Dg.dg 65536 t.n).length k,.int .i64 t.e]
abbrev yXL (c:Int)(g:Bool)(t:ak)(o:Option Addr)(k:Nat)(d:Int)(h:Bool)(s:ak)(p:Option Addr)(m:Nat):List Value:=[.int .i64 c,.bool g,.bool t.s,.slice o (Dg.dg 65536 t.n).length k,.int .i64 t.e,.int .i64 d,.bool h,.bool s.s,.slice p (Dg.dg 65536 s.n).length m,.int .i64 s.e]
theorem adE (w:World):yC 16 #[yi 1] w (yR w (.tuple #[yi 4,yi 0])):=by
 have HL:Hid (yJ 36 #[yi 1] (.tuple #[.agg #[yi 2,yi 24,yi (-149),yi 104,.bool true,yi 4,yi 8,yi 1,.func (.func 139) #[] #[]],yi 0])):=fun w1=>uU w1
 have hsf:=cD;have hsn:=gn
 go_enter func16,ntmps16
 go_wp2_with fail
 refine(HL.out _).mono ?_;rintro z w2 ⟨rfl,b2⟩
 go_wp2
 go_ret2
 exact⟨rfl,aa b2 (af _ _)⟩
theorem adF (w:World):yC 16 #[yi 2] w (yR w (.tuple #[yi 8,yi 0])):=by
 have HL:Hid (yJ 36 #[yi 2] (.tuple #[.agg #[yi 2,yi 53,yi (-1074),yi 971,.bool true,yi 8,yi 11,yi 1,.func (.func 139) #[] #[]],yi 0])):=fun w1=>uV w1
 have hsf:=cD;have hsn:=gn
 go_enter func16,ntmps16
 go_wp2_with fail
 refine(HL.out _).mono ?_;rintro z w2 ⟨rfl,b2⟩
 go_wp2
 go_ret2
 exact⟨rfl,aa b2 (af _ _)⟩
theorem adG (w:World):yC 16 #[yi 3] w (yR w (.tuple #[yi 10,yi 0])):=by
 have HL:Hid (yJ 36 #[yi 3] (.tuple #[.agg #[yi 2,yi 64,yi (-16445),yi 16320,.bool true,yi 10,yi 15,yi 1,.func (.func 140) #[] #[]],yi 0])):=fun w1=>uW w1
 have hsf:=cD;have hsn:=gn
 go_enter func16,ntmps16
 go_wp2_with fail
 refine(HL.out _).mono ?_;rintro z w2 ⟨rfl,b2⟩
 go_wp2
 go_ret2
 exact⟨rfl,aa b2 (af _ _)⟩
theorem adH (w:World):yC 16 #[yi 4] w (yR w (.tuple #[yi 4,yi 0])):=by
 have HL:Hid (yJ 36 #[yi 4] (.tuple #[.agg #[yi 16,yi 6,yi (-70),yi 57,.bool false,yi 4,yi 7,yi 2,.func (.func 139) #[] #[]],yi 0])):=fun w1=>uX w1
 have hsf:=cD;have hsn:=gn
 go_enter func16,ntmps16
 go_wp2_with fail
 refine(HL.out _).mono ?_;rintro z w2 ⟨rfl,b2⟩
 go_wp2
 go_ret2
 exact⟨rfl,aa b2 (af _ _)⟩
theorem adI (w:World):yC 16 #[yi 5] w (yR w (.tuple #[yi 8,yi 0])):=by
 have HL:Hid (yJ 36 #[yi 5] (.tuple #[.agg #[yi 16,yi 14,yi (-78),yi 49,.bool false,yi 8,yi 7,yi 2,.func (.func 139) #[] #[]],yi 0])):=fun w1=>uY w1
 have hsf:=cD;have hsn:=gn
 go_enter func16,ntmps16
 go_wp2_with fail
 refine(HL.out _).mono ?_;rintro z w2 ⟨rfl,b2⟩
 go_wp2
 go_ret2
 exact⟨rfl,aa b2 (af _ _)⟩
theorem adJ (w:World):yC 16 #[yi 6] w (yR w (.tuple #[yi 4,yi 0])):=by
 have HL:Hid (yJ 36 #[yi 6] (.tuple #[.agg #[yi 2,yi 24,yi (-151),yi 103,.bool false,yi 4,yi 8,yi 3,.func (.func 141) #[] #[]],yi 0])):=fun w1=>uZ w1
 have hsf:=cD;have hsn:=gn
 go_enter func16,ntmps16
 go_wp2_with fail
 refine(HL.out _).mono ?_;rintro z w2 ⟨rfl,b2⟩
 go_wp2
 go_ret2
 exact⟨rfl,aa b2 (af _ _)⟩
theorem adK (w:World):yC 16 #[yi 7] w (yR w (.tuple #[yi 8,yi 0])):=by
 have HL:Hid (yJ 36 #[yi 7] (.tuple #[.agg #[yi 2,yi 56,yi (-183),yi 71,.bool false,yi 8,yi 8,yi 3,.func (.func 141) #[] #[]],yi 0])):=fun w1=>vf w1
 have hsf:=cD;have hsn:=gn
 go_enter func16,ntmps16
 go_wp2_with fail
 refine(HL.out _).mono ?_;rintro z w2 ⟨rfl,b2⟩
 go_wp2
 go_ret2
 exact⟨rfl,aa b2 (af _ _)⟩
theorem adL (w:World):yC 16 #[yi 8] w (yR w (.tuple #[yi 8,yi 0])):=by
 have HL:Hid (yJ 36 #[yi 8] (.tuple #[.agg #[yi 2,yi 53,yi (-1076),yi 970,.bool false,yi 8,yi 11,yi 3,.func (.func 141) #[] #[]],yi 0])):=fun w1=>vh w1
 have hsf:=cD;have hsn:=gn
 go_enter func16,ntmps16
 go_wp2_with fail
 refine(HL.out _).mono ?_;rintro z w2 ⟨rfl,b2⟩
 go_wp2
 go_ret2
 exact⟨rfl,aa b2 (af _ _)⟩
theorem ae5 (w:World):yC 16 #[yi 1] w (yR w (.tuple #[yi 4,yi 0])):=by
 have HL:Hid (yJ 36 #[yi 1] (.tuple #[.agg #[yi 2,yi 24,yi (-149),yi 104,.bool true,yi 4,yi 8,yi 1,.func (.func 139) #[] #[]],yi 0])):=fun w1=>uU w1
 have hsf:=cD;have hsn:=gn
 go_enter func16,ntmps16
 go_wp2_with fail
 refine(HL.out _).mono ?_;rintro z w2 ⟨rfl,b2⟩
 go_wp2
 go_ret2
 exact⟨rfl,aa b2 (af _ _)⟩
theorem ae6 (w:World):yC 16 #[yi 2] w (yR w (.tuple #[yi 8,yi 0])):=by
 have HL:Hid (yJ 36 #[yi 2] (.tuple #[.agg #[yi 2,yi 53,yi (-1074),yi 971,.bool true,yi 8,yi 11,yi 1,.func (.func 139) #[] #[]],yi 0])):=fun w1=>uV w1
 have hsf:=cD;have hsn:=gn
 go_enter func16,ntmps16
 go_wp2_with fail
 refine(HL.out _).mono ?_;rintro z w2 ⟨rfl,b2⟩
 go_wp2
 go_ret2
 exact⟨rfl,aa b2 (af _ _)⟩
theorem ae7 (w:World):yC 16 #[yi 3] w (yR w (.tuple #[yi 10,yi 0])):=by
 have HL:Hid (yJ 36 #[yi 3] (.tuple #[.agg #[yi 2,yi 64,yi (-16445),yi 16320,.bool true,yi 10,yi 15,yi 1,.func (.func 140) #[] #[]],yi 0])):=fun w1=>uW w1
 have hsf:=cD;have hsn:=gn
 go_enter func16,ntmps16
 go_wp2_with fail
 refine(HL.out _).mono ?_;rintro z w2 ⟨rfl,b2⟩
 go_wp2
 go_ret2
 exact⟨rfl,aa b2 (af _ _)⟩
theorem ae8 (w:World):yC 16 #[yi 4] w (yR w (.tuple #[yi 4,yi 0])):=by
 have HL:Hid (yJ 36 #[yi 4] (.tuple #[.agg #[yi 16,yi 6,yi (-70),yi 57,.bool false,yi 4,yi 7,yi 2,.func (.func 139) #[] #[]],yi 0])):=fun w1=>uX w1
 have hsf:=cD;have hsn:=gn
 go_enter func16,ntmps16
 go_wp2_with fail
 refine(HL.out _).mono ?_;rintro z w2 ⟨rfl,b2⟩
 go_wp2
 go_ret2
 exact⟨rfl,aa b2 (af _ _)⟩
theorem ae9 (w:World):yC 16 #[yi 5] w (yR w (.tuple #[yi 8,yi 0])):=by
 have HL:Hid (yJ 36 #[yi 5] (.tuple #[.agg #[yi 16,yi 14,yi (-78),yi 49,.bool false,yi 8,yi 7,yi 2,.func (.func 139) #[] #[]],yi 0])):=fun w1=>uY w1
 have hsf:=cD;have hsn:=gn
 go_enter func16,ntmps16
 go_wp2_with fail
 refine(HL.out _).mono ?_;rintro z w2 ⟨rfl,b2⟩
 go_wp2
 go_ret2
 exact⟨rfl,aa b2 (af _ _)⟩
theorem afa (w:World):yC 16 #[yi 6] w (yR w (.tuple #[yi 4,yi 0])):=by
 have HL:Hid (yJ 36 #[yi 6] (.tuple #[.agg #[yi 2,yi 24,yi (-151),yi 103,.bool false,yi 4,yi 8,yi 3,.func (.func 141) #[] #[]],yi 0])):=fun w1=>uZ w1
 have hsf:=cD;have hsn:=gn
 go_enter func16,ntmps16
 go_wp2_with fail
 refine(HL.out _).mono ?_;rintro z w2 ⟨rfl,b2⟩
 go_wp2
 go_ret2
 exact⟨rfl,aa b2 (af _ _)⟩
theorem afb (w:World):yC 16 #[yi 7] w (yR w (.tuple #[yi 8,yi 0])):=by
 have HL:Hid (yJ 36 #[yi 7] (.tuple #[.agg #[yi 2,yi 56,yi (-183),yi 71,.bool false,yi 8,yi 8,yi 3,.func (.func 141) #[] #[]],yi 0])):=fun w1=>vf w1
 have hsf:=cD;have hsn:=gn
 go_enter func16,ntmps16
 go_wp2_with fail
 refine(HL.out _).mono ?_;rintro z w2 ⟨rfl,b2⟩
 go_wp2
 go_ret2
 exact⟨rfl,aa b2 (af _ _)⟩
theorem afc (w:World):yC 16 #[yi 8] w (yR w (.tuple #[yi 8,yi 0])):=by
 have HL:Hid (yJ 36 #[yi 8] (.tuple #[.agg #[yi 2,yi 53,yi (-1076),yi 970,.bool false,yi 8,yi 11,yi 3,.func (.func 141) #[] #[]],yi 0])):=fun w1=>vh w1
 have hsf:=cD;have hsn:=gn
 go_enter func16,ntmps16
 go_wp2_with fail
 refine(HL.out _).mono ?_;rintro z w2 ⟨rfl,b2⟩
 go_wp2
 go_ret2
 exact⟨rfl,aa b2 (af _ _)⟩
theorem ZH (k:Nat)(hk:1≤k∧k≤8)(w:World):yC 16 #[yi k] w (yR w (.tuple #[yi ((szN k:Nat):Int),yi 0])):=by
 rcases bO hk with rfl|rfl|rfl|rfl|rfl|rfl|rfl|rfl
 ·exact ae5 w
 ·exact ae6 w
 ·exact ae7 w
 ·exact ae8 w
 ·exact ae9 w
 ·exact afa w
 ·exact afb w
 ·exact afc w
def Wr (w:World)(base:Nat)(v:Value):Prop:=
 ∃ao n c,v= .slice ao n c∧n≤c∧c≤maxLen∧(0<n→ ∃g ty vs,ao=some ⟨g,0,none⟩∧base≤g∧au w g ty vs∧n≤vs.length∧ ∀i,i<n→ ∃z:Int,vs[i]? =some (.int .u32 z))
theorem Wr.set {w:World}{B:Nat}{u:Value}(h:Wr w B u)(g k:Nat)(z0:Int):Wr (w.setCell ⟨g,k,none⟩ (.int .u32 z0)) B u:=by
 obtain⟨ao,n,c,rfl,hc,hm,h⟩:=h;refine⟨ao,n,c,rfl,hc,hm,fun hn=> ?_⟩
 obtain⟨b,ty,vs,rfl,hb,hl,hlen,hi⟩:=h hn
 by_cases e:g=b
 ·subst e
  refine⟨g,ty,vs.set k (.int .u32 z0),rfl,hb,hl.set k _,by simpa using hlen,fun i hin=> ?_⟩
  by_cases e2:k=i
  ·subst e2
   exact⟨z0,by rw[List.getElem?_set_self (by omega)]⟩
  ·rw[List.getElem?_set_ne e2]
   exact hi i hin
 ·exact⟨b,ty,vs,rfl,hb,hl.off e k _,hlen,hi⟩
theorem Wr.l {w w':World}{B:Nat}{u:Value}(h:Wr w B u)(hb:yB w w'):Wr w' B u:=by
 obtain⟨ao,n,c,rfl,hc,hm,h⟩:=h;refine⟨ao,n,c,rfl,hc,hm,fun hn=> ?_⟩
 obtain⟨b,ty,vs,h1,h2,hl,h3⟩:=h hn;exact⟨b,ty,vs,h1,h2,hl.l hb,h3⟩
def OwnS (w:World)(base:Nat)(v:Value)(l:List ByteArray):Prop:=w.ownsRow base 9 1 v l.length (l.map Value.string)
def RdS (w:World)(v:Value)(l:List ByteArray):Prop:=
 ∃ao cap,v= .slice ao l.length cap∧l.length≤cap∧cap≤maxLen∧
  (0<l.length→ ∃b off,ao=some ⟨b,off,none⟩∧ ∀i,i<l.length→w.cell? ⟨b,off+i,none⟩=some (.string (l.getD i ⟨#[]⟩)))
theorem RdS.l {w w':World}{v:Value}{l:List ByteArray}(h:RdS w v l)(hb:yB w w'):RdS w' v l:=by
 obtain⟨ao,cap,hv,h1,h2,h3⟩:=h;refine⟨ao,cap,hv,h1,h2,fun hp=> ?_⟩
 obtain⟨b,off,ha,hc⟩:=h3 hp;exact⟨b,off,ha,fun i hi=>cell_later hb (hc i hi)⟩
theorem OwnS.l {w w':World}{base:Nat}{v:Value}{l:List ByteArray}(h:OwnS w base v l)(hb:yB w w'):OwnS w' base v l:=by
 obtain⟨hl,h2⟩:=h;refine⟨hl, ?_⟩
 rcases h2 with h2| ⟨g,cap,cur,hv,hbg,hh,r⟩
 ·exact .inl h2
 ·refine .inr ⟨g,cap,cur,hv,hbg, ?_,r⟩
  rw[hb.block g ?_]
  ·exact hh
  ·rw[Array.getElem?_eq_some_iff] at hh
   exact hh.1
theorem OwnS.rd {w:World}{base:Nat}{v:Value}{l:List ByteArray}(h:OwnS w base v l):RdS w v l:=by
 obtain⟨hl,h2⟩:=h
 rcases h2 with⟨hv,hn⟩| ⟨g,cap,cur,hv,hb,hh,hnc,hcm,hcs,htake⟩
 ·refine⟨none,0,by rw[hv,hn],by omega,by unfold maxLen;omega,fun hp=>by omega⟩
 ·refine⟨_,cap,hv,hnc,hcm,fun hp=>⟨g,0,rfl,fun i hi=> ?_⟩⟩
  have hc:=World.ownsRow.cellAt (w:=w) (base:=base) (e:=9) (size:=1) (g:=g) (n:=l.length) (cap:=cap) (xs:=l.map Value.string) ⟨hl,.inr ⟨g,cap,cur,rfl,hb,hh,hnc,hcm,hcs,htake⟩⟩ i (by omega);rw[Nat.zero_add,hc,List.getElem?_map,List.getElem?_eq_getElem hi];simp[List.getD_eq_getElem?_getD,hi]
theorem OwnS.lower {w:World}{base base':Nat}{v:Value}{l:List ByteArray}(h:OwnS w base v l)(hb:base'≤base):OwnS w base' v l:=by
 obtain⟨h1,h2⟩:=h;refine⟨h1, ?_⟩
 rcases h2 with h2| ⟨g,cap,cur,hv,hbg,r⟩
 ·exact .inl h2
 ·exact .inr ⟨g,cap,cur,hv,by omega,r⟩
theorem OwnS.take {w:World}{base:Nat}{ao:Option Addr}{n cap:Nat}{l:List ByteArray}(h:OwnS w base (.slice ao n cap) l)(m:Nat)(hm:m≤l.length):
  OwnS w base (.slice ao m cap) (l.take m):=by
 obtain⟨h1,h2⟩:=h;have hlen:(l.take m).length=m:=by rw[List.length_take];omega
 refine⟨by simp, ?_⟩;rw[hlen]
 rcases h2 with⟨hv,hn⟩| ⟨g',cap',cur,hv,hb,hh,hnc,hcm,hcs,htake⟩
 ·simp only[Value.slice.injEq] at hv
  obtain⟨rfl,-,rfl⟩:=hv;obtain rfl:m=0:=by omega
  exact .inl ⟨rfl,rfl⟩
 ·simp only[Value.slice.injEq] at hv
  obtain⟨rfl,-,rfl⟩:=hv;refine .inr ⟨g',cap,cur,rfl,hb,hh,by omega,hcm,hcs, ?_⟩;rw[List.map_take,←htake,Nat.mul_one,Nat.mul_one,List.take_take,Nat.min_eq_left hm]
theorem Tryz.infoS:(Tryz.prog.info? 9).map (fun i=>(i.zero,i.size,i.bytes))=some (some (.string ⟨#[]⟩),1,16):=by kernel_rfl
theorem append_rdS {P:Program}{w:World}{base e:Nat}{v u:Value}{xs ys:List ByteArray}(t ty:Nat)(i:TypeInfo)(bytes:Nat)(ht:P.underlying t=some (.slice e))(hi:P.info? e=some i)
  (hz:i.zero=some (.string ⟨#[]⟩)) (hsize:i.size=1) (hby:i.bytes=bytes)
  (ho:w.ownsRow base e 1 v xs.length (xs.map Value.string)) (hr:RdS w u ys) (hm:xs.length+ys.length≤maxLen) (hl:(xs.length+ys.length)*bytes≤140737488355328) (hbase:base≤w.heap.size):
  ∃v' w',(Builtin.append_ #[t,t] ty #[v,u]).run P w= .ok v' w'∧w'.ownsRow base e 1 v' (xs++ys).length ((xs++ys).map Value.string)∧w.grownBy w' v.ownBlock:=by
 by_cases hsm:ys.length=0
 ·have hyn:ys=[]:=List.length_eq_zero_iff.1 hsm
  subst hyn;obtain⟨ao,cap,rfl,h1,h2,h3⟩:=hr
  cases ao with
  |none=>
   refine⟨v,w, ?_,by rw[List.append_nil];exact ho,ib _ _⟩
   rcases ho.2 with⟨rfl,_⟩| ⟨g,cap',cur,rfl,_,_,hnc,_⟩
   ·simp[Builtin.append_,run_underlying ht,sizeOf,typeInfo,hi,Builtin.lenOf,Builtin.firstCells]
   ·simp[Builtin.append_,run_underlying ht,sizeOf,typeInfo,hi,Builtin.lenOf,Builtin.firstCells,hnc,storeCells]
  |some ad=>
   obtain⟨v',w',r1,r2,r3,_⟩:=run_append_own (P:=P) (w:=w) base t ty e i (.string ⟨#[]⟩) 1 bytes ht hi hz hsize hby rfl (by omega) v xs.length _ ho ad 0 cap [] (by simp) (fun j u hj=>by simp at hj) (fun u hu=>by simp at hu) hm hl hbase
   exact⟨v',w',r1,by rw[List.append_nil];rw[List.append_nil] at r2;exact r2,r3⟩
 ·obtain⟨ao,cap,rfl,h1,h2,h3⟩:=hr
  obtain⟨b,off,rfl,hc⟩:=h3 (by omega);obtain⟨v',w',r1,r2,r3,_⟩:=run_append_own (P:=P) (w:=w) base t ty e i (.string ⟨#[]⟩) 1 bytes ht hi hz hsize hby rfl (by omega) v xs.length _ ho ⟨b,off,none⟩ ys.length cap (ys.map Value.string) (by simp) (fun j u hj=>by
    have hjl:j<ys.length:=by
     have:=(List.getElem?_eq_some_iff.1 hj).1
     simpa using this
    rw[rO,hc j hjl];rw[←hj,List.getElem?_map,List.getElem?_eq_getElem hjl];simp[List.getD_eq_getElem?_getD,hjl]) (fun u hu=>by
    obtain⟨n,_,rfl⟩:=List.mem_map.1 hu;rfl) hm hl hbase
  refine⟨v',w',r1, ?_,r3⟩;rw[List.length_append,List.map_append];exact r2
theorem RdS.shape {w:World}{v:Value}{l:List ByteArray}(h:RdS w v l): ∃ao cap,v= .slice ao l.length cap:=by
 obtain⟨ao,cap,hv,-⟩:=h;exact⟨ao,cap,hv⟩
theorem append_runS {P:Program}{ops:Array Oper}{rest:List Oper}{o:Oper}{a:Act}{w:World}{Q:Exit→Act→World→Prop}(hgd:o.guard=none)(s x:Operand)(t:TypeId)
  (ho:o.op= .call {callee:= .builtin .append,args:= #[s,x],argTypes:= #[t,t]}) (v u v':Value) (w':World) (hs:a.eval s=v) (hx:a.eval x=u)
  (hr:(Builtin.append_ #[t,t] o.type #[v,u]).run P w= .ok v' w') (h:wpList P ops Q rest (a.put o.dst v') w'):wpList P ops Q (o::rest) a w:=by
 refine wpList_plain hgd fun K hK=> ?_
 unfold Oper.wp execOp;simp only[ho,resolve,invoke,builtin,Sem.run_bind,Sem.run_pure,Result.andThen_ok,List.map_toArray,List.map_cons,List.map_nil,hs,hx,hr];exact hK _ _ h
theorem equalIn_slice_nil {P:Program}(w:World)(d:Nat){t e:TypeId}(h:P.underlying t=some (.slice e))(n:Nat):(Op.equalIn (d+1) t (.slice none 0 n) yN).run P w= .ok true w:=by
 simp[Op.equalIn,run_underlying h]
theorem equalIn_slice_some {P:Program}(w:World)(d:Nat){t e:TypeId}(h:P.underlying t=some (.slice e))(a:Addr)(m n:Nat):(Op.equalIn (d+1) t (.slice (some a) m n) yN).run P w= .ok false w:=by
 simp[Op.equalIn,run_underlying h]
theorem eql_slice_nil {P:Program}(w:World){t e:TypeId}(h:P.underlying t=some (.slice e))(n:Nat):(binOp .eql t (.slice none 0 n) yN).run P w= .ok (.bool true) w:=by
 simp only[binOp];simp[Op.equal,Op.maxDepth,equalIn_slice_nil w 9999 h n]
theorem eql_slice_some {P:Program}(w:World){t e:TypeId}(h:P.underlying t=some (.slice e))(a:Addr)(m n:Nat):(binOp .eql t (.slice (some a) m n) yN).run P w= .ok (.bool false) w:=by
 simp only[binOp];simp[Op.equal,Op.maxDepth,equalIn_slice_some w 9999 h a m n]
theorem cloneS_any (va:Value)(l:List ByteArray)(w:World)(ha:RdS w va l)(hl:l.length*16≤140737488355328):
  yC 56 #[va] w fun e w'=> ∃v,e= .returned v∧OwnS w' w.heap.size v l∧yB w w':=by
 obtain⟨i0,hi,hz0,hz1,hz2⟩:=info_parts Tryz.infoS;have a1:yB w (w.alloc (.cells #[] 9)):=(Below.refl _ _).alloc (Nat.le_refl _) _;have own1:(w.alloc (.cells #[] 9)).ownsRow w.heap.size 9 1 (.slice (some ⟨w.heap.size,0,none⟩) 0 0) ([]:List ByteArray).length (([]:List ByteArray).map Value.string):=World.ownsRow_lit (e:=9) (size:=1) (base:=w.heap.size) w #[] 0 (Nat.le_refl _) (by unfold maxLen;omega) rfl;obtain⟨v1,w1,hrun,own2,gr⟩:=append_rdS (P:=Tryz.prog) 22 22 i0 16 underlying22 hi hz0 hz1 hz2 own1 (ha.l a1) (by unfold maxLen;simp only[List.length_nil];omega) (by simp only[List.length_nil];omega) a1.size;have b1:yB w w1:=a1.grown gr a1.size (fun k hk=>by cases hk;exact Nat.le_refl _)
 rw[List.nil_append] at own2;clear gr own1 a1;obtain⟨ao,ca,rfl,-,-,h3⟩:=ha
 cases ao with
 |none=>
  have h0:l.length=0:=by
   by_cases c:0<l.length
   ·obtain⟨b,off,e,-⟩:=h3 c
    cases e
   ·omega
  have hn:l=[]:=List.length_eq_zero_iff.1 h0;subst hn;have hE:=eql_slice_nil (P:=Tryz.prog) w underlying22 ca
  go_enter func56,ntmps56
  go_wp2
  go_ret
  exact⟨yN,by simp,World.ownsRow_nil w _ _ _,Below.refl _ _⟩
 |some ad=>
  have hE:=eql_slice_some (P:=Tryz.prog) w underlying22 ad l.length ca
  go_enter func56,ntmps56
  go_wp2_with (at_builtin;refine append_runS (by rfl) _ _ 22 (by rfl) _ _ _ w1 (by rfl) (by rfl) hrun ?_)
  go_wp2
  go_ret
  exact⟨v1,by simp,own2,b1⟩
def CloneR (base:Nat)(l:List ByteArray)(w:World)(z:Ending)(w':World):Prop:=
 ∃vo vc,z= .returned (.slice vo l.length vc)∧OwnS w' base (.slice vo l.length vc) l∧yB w w'
theorem clone_any (base:Nat)(va:Value)(l:List ByteArray)(w:World)(ha:RdS w va l)(hl:l.length≤4096)(hb:base≤w.heap.size):yC 56 #[va] w (CloneR base l w):=by
 refine(cloneS_any va l w ha (by omega)).mono ?_;rintro z w' ⟨v,rfl,ho,b⟩;obtain⟨vo,vc,rfl⟩:=ho.rd.shape;exact⟨vo,vc,rfl,ho.lower hb,b⟩
theorem OwnS.off {w w':World}{base b:Nat}{v:Value}{l:List ByteArray}{ty:TypeId}{vs:List Value}(h:OwnS w base v l)(bu:But b w w')(hl:au w b ty vs)(hty:ty≠9)(_hb:0≤b):OwnS w' base v l:=by
 obtain⟨h0,h2⟩:=h;refine⟨h0, ?_⟩
 rcases h2 with h2| ⟨g',cap',cur,hv,hbg,hh,r⟩
 ·exact .inl h2
 ·refine .inr ⟨g',cap',cur,hv,hbg, ?_,r⟩
  have hne:g'≠b:=by
   intro e;subst e;unfold au at hl;rw[hl] at hh;simp only[Option.some.injEq,Obj.cells.injEq] at hh;exact hty hh.2.1
  rw[bu.block g' hne];exact hh
def IxR (b:Bool)(w:World)(z:Ending)(w':World):Prop:= ∃r:Int,z= .returned (yi r)∧decide (0≤r)=b∧yB w w'
theorem indexS_any (q:Nat)(F:ByteArray→Bool)(va:Value)(l:List ByteArray)(w:World)(hm:l.length≤4096)(ha:RdS w va l)
  (HF: ∀(s:ByteArray) w1,yB w w1→yC 20 #[.string s,.pointer (some ⟨q,0,none⟩)] w1 (yR w1 (.bool (F s)))):
  yC 37 #[va,.func (.func 20) #[] #[.pointer (some ⟨q,0,none⟩)]] w (IxR (l.any F) w):=by
 obtain⟨ao,cap,rfl,h1,h2,h3⟩:=ha;obtain⟨m,hmE⟩: ∃m,l.length=m:=⟨_,rfl⟩;rw[hmE] at hm h1 h3⊢;have HM:Hid (l.length=m):=hmE;replace h3:Hid _:=h3;replace HF:Hid _:=HF;clear hmE
 go_enter func37,ntmps37
 go_wp2
 go_loopw [8] (fun iv wr=> ∃i:Nat,iv=yi (i:Int)∧i≤m∧Hid (l.any F=(l.drop i).any F)∧yB w wr) (fun iv _=>m-(intOf iv).toNat)
 case atStart=>exact⟨0,rfl,by omega,rfl,Below.refl _ _⟩
 case round=>
  obtain⟨i,rfl,him,HN,bel⟩:=hrel
  by_cases hlt:i<m
  ·have hil:i<l.length:=by have:=HM.out;omega
   have hd:l.drop i=l[i]::l.drop (i+1):=List.drop_eq_getElem_cons hil;obtain⟨s,hs⟩: ∃s,l[i]=s:=⟨_,rfl⟩;have HN2:Hid (l.any F=(F s||(l.drop (i+1)).any F)):=by
    have:=HN.out;rw[hd,List.any_cons,hs] at this;exact this
   obtain⟨b,off,rfl,hc⟩:=h3.out (by omega);have hc1:wr.cell? ⟨b,off+i,none⟩=some (.string s):=by
    have:=cell_later bel (hc i hlt);rw[this];simp[List.getD_eq_getElem?_getD,hil,hs]
   have hw2:IntKind.i64.wrap ((i:Int)+1)=(i:Int)+1:=IntWalk.i64_in _ ⟨by omega,by omega⟩;have hcall:Hid _:=HF.out s wr bel;clear hc hd hs hil HN;have go: ∀b,F s=b→Hid (yC 20 #[.string s,.pointer (some ⟨q,0,none⟩)] wr (yR wr (.bool b))):=fun b hb=>by
    have:=hcall.out;rw[hb] at this;exact this
   cases hf:F s
   ·have hg:=go false hf
    rw[hf] at HN2;clear go hcall hf
    go_wp2_with fail
    refine Calls.mono hg.out ?_;rintro z w1 ⟨rfl,b1⟩;have b2:=aa bel b1;clear hg bel b1 hc1
    go_wp2
    go_roundw
    case rel=>exact⟨i+1,by go_num,by omega,by have:=HN2.out;rw[Bool.false_or] at this;exact this,b2⟩
    case measure=>simp[intOf];omega
   ·have hg:=go true hf
    rw[hf] at HN2;clear go hcall hf
    go_wp2_with fail
    refine Calls.mono hg.out ?_;rintro z w1 ⟨rfl,b1⟩;have b2:=aa bel b1;clear hg bel b1 hc1
    go_wp2
    go_ret
    refine⟨_,rfl, ?_,b2⟩;rw[HN2.out,Bool.true_or];exact decide_eq_true (by omega)
  ·have hi:Hid (i=m):=(by omega:i=m)
   go_wp2
   go_ret
   refine⟨-1,by simp, ?_,bel⟩;rw[HN.out,hi.out,List.drop_eq_nil_of_le (by have:=HM.out;omega)];rfl
theorem containsS_any (q:Nat)(B:Bool)(va:Value)(w:World)
  (HI: ∀w1,yB w w1→yC 37 #[va,.func (.func 20) #[] #[.pointer (some ⟨q,0,none⟩)]] w1 (IxR B w1)):
  yC 19 #[va,.func (.func 20) #[] #[.pointer (some ⟨q,0,none⟩)]] w (yR w (.bool B)):=by
 replace HI:Hid _:=HI
 go_enter func19,ntmps19
 go_wp2_with fail
 refine Calls.mono (HI.out w (Below.refl _ _)) ?_;rintro z w1 ⟨r,rfl,hr,b1⟩;clear HI
 go_wp2
 go_ret
 exact⟨by simp,b1⟩
theorem check_kind (F W fl tr:Int)(so:Option Addr)(L sc:Nat)(w:World)
  (HS:yH w 16 #[yi F] (.tuple #[yi 0,yi 6])):
  yC 7 #[.agg #[yi F,yi W,yi fl,yi tr,.slice so L sc]] w (yR w (yi 6)):=by
 replace HS:Hid _:=HS;obtain⟨W3,hW4,q1,b2⟩:=cA w [yi F,yi W,yi fl,yi tr,.slice so L sc] 24;replace hW4:Hid _:=hW4
 go_enter func7,ntmps7
 go_upto_region 1 with fail
 rw[hW4.out];clear hW4;have c5:=q1.c 0 rfl
 go_wp2_with fail
 refine(HS.out _ b2).mono ?_;rintro zz w6 ⟨rfl,bb7⟩;have b8:=aa b2 bb7;clear q1 b2 bb7 HS c5;obtain⟨W11,hW10,q12,al9⟩:=cA w6 [yi 0] 3;replace hW10:Hid _:=hW10;have hl13:w.heap.size≤w6.heap.size:=b8.size;have b14:=aa b8 al9;clear b8 al9 q12
 go_upto_region 2 with fail
 rw[hW10.out];clear hW10
 go_wp2
 go_ret
 exact⟨by simp,b14⟩
theorem check_way (F W fl tr sz:Int)(so:Option Addr)(L sc:Nat)(w:World)
  (HS:yH w 16 #[yi F] (.tuple #[yi sz,yi 0]))
  (HW:yH w 17 #[yi W] (.bool true)):
  yC 7 #[.agg #[yi F,yi W,yi fl,yi tr,.slice so L sc]] w (yR w (yi 6)):=by
 replace HS:Hid _:=HS;replace HW:Hid _:=HW;obtain⟨W3,hW4,q1,b2⟩:=cA w [yi F,yi W,yi fl,yi tr,.slice so L sc] 24;replace hW4:Hid _:=hW4
 go_enter func7,ntmps7
 go_upto_region 1 with fail
 rw[hW4.out];clear hW4;have c5:=q1.c 0 rfl
 go_wp2_with fail
 refine(HS.out _ b2).mono ?_;rintro zz w6 ⟨rfl,bb7⟩;have q8:=q1.l bb7;have b9:=aa b2 bb7;clear q1 b2 bb7 HS c5;obtain⟨W12,hW11,q13,al10⟩:=cA w6 [yi sz] 3;replace hW11:Hid _:=hW11;have hl14:w.heap.size≤w6.heap.size:=b9.size;have q15:=q8.l al10;have b16:=aa b9 al10;clear q8 b9 al10 q13
 go_upto_region 2 with fail
 rw[hW11.out];clear hW11;have c17:=q15.c 1 rfl
 go_wp2_with fail
 refine(HW.out _ b16).mono ?_;rintro zz w18 ⟨rfl,bb19⟩;have b20:=aa b16 bb19;clear q15 b16 bb19 HW c17
 go_wp2
 go_ret
 exact⟨by simp,b20⟩
theorem check_flags (F W fl tr sz:Int)(so:Option Addr)(L sc:Nat)(w:World)
  (HS:yH w 16 #[yi F] (.tuple #[yi sz,yi 0]))
  (HW:yH w 17 #[yi W] (.bool false))
  (HF:yH w 18 #[yi fl] (.bool true)):
  yC 7 #[.agg #[yi F,yi W,yi fl,yi tr,.slice so L sc]] w (yR w (yi 3)):=by
 replace HS:Hid _:=HS;replace HW:Hid _:=HW;replace HF:Hid _:=HF;obtain⟨W3,hW4,q1,b2⟩:=cA w [yi F,yi W,yi fl,yi tr,.slice so L sc] 24;replace hW4:Hid _:=hW4
 go_enter func7,ntmps7
 go_upto_region 1 with fail
 rw[hW4.out];clear hW4;have c5:=q1.c 0 rfl
 go_wp2_with fail
 refine(HS.out _ b2).mono ?_;rintro zz w6 ⟨rfl,bb7⟩;have q8:=q1.l bb7;have b9:=aa b2 bb7;clear q1 b2 bb7 HS c5;obtain⟨W12,hW11,q13,al10⟩:=cA w6 [yi sz] 3;replace hW11:Hid _:=hW11;have hl14:w.heap.size≤w6.heap.size:=b9.size;have q15:=q8.l al10;have b16:=aa b9 al10;clear q8 b9 al10 q13
 go_upto_region 2 with fail
 rw[hW11.out];clear hW11;have c17:=q15.c 1 rfl
 go_wp2_with fail
 refine(HW.out _ b16).mono ?_;rintro zz w18 ⟨rfl,bb19⟩;have q20:=q15.l bb19;have b21:=aa b16 bb19;clear q15 b16 bb19 HW c17;have c22:=q20.c 2 rfl
 go_wp2_with fail
 refine(HF.out _ b21).mono ?_;rintro zz w23 ⟨rfl,bb24⟩;have b25:=aa b21 bb24;clear q20 b21 bb24 HF c22
 go_wp2
 go_ret
 exact⟨by simp,b25⟩
theorem check_traps (F W fl tr sz:Int)(so:Option Addr)(L sc:Nat)(w:World)
  (HS:yH w 16 #[yi F] (.tuple #[yi sz,yi 0]))
  (HW:yH w 17 #[yi W] (.bool false))
  (HF:yH w 18 #[yi fl] (.bool false))
  (HT:yH w 18 #[yi tr] (.bool true)):
  yC 7 #[.agg #[yi F,yi W,yi fl,yi tr,.slice so L sc]] w (yR w (yi 3)):=by
 replace HS:Hid _:=HS;replace HW:Hid _:=HW;replace HF:Hid _:=HF;replace HT:Hid _:=HT;obtain⟨W3,hW4,q1,b2⟩:=cA w [yi F,yi W,yi fl,yi tr,.slice so L sc] 24;replace hW4:Hid _:=hW4
 go_enter func7,ntmps7
 go_upto_region 1 with fail
 rw[hW4.out];clear hW4;have c5:=q1.c 0 rfl
 go_wp2_with fail
 refine(HS.out _ b2).mono ?_;rintro zz w6 ⟨rfl,bb7⟩;have q8:=q1.l bb7;have b9:=aa b2 bb7;clear q1 b2 bb7 HS c5;obtain⟨W12,hW11,q13,al10⟩:=cA w6 [yi sz] 3;replace hW11:Hid _:=hW11;have hl14:w.heap.size≤w6.heap.size:=b9.size;have q15:=q8.l al10;have b16:=aa b9 al10;clear q8 b9 al10 q13
 go_upto_region 2 with fail
 rw[hW11.out];clear hW11;have c17:=q15.c 1 rfl
 go_wp2_with fail
 refine(HW.out _ b16).mono ?_;rintro zz w18 ⟨rfl,bb19⟩;have q20:=q15.l bb19;have b21:=aa b16 bb19;clear q15 b16 bb19 HW c17;have c22:=q20.c 2 rfl
 go_wp2_with fail
 refine(HF.out _ b21).mono ?_;rintro zz w23 ⟨rfl,bb24⟩;have q25:=q20.l bb24;have b26:=aa b21 bb24;clear q20 b21 bb24 HF c22;have c27:=q25.c 3 rfl
 go_wp2_with fail
 refine(HT.out _ b26).mono ?_;rintro zz w28 ⟨rfl,bb29⟩;have b30:=aa b26 bb29;clear q25 b26 bb29 HT c27
 go_wp2
 go_ret
 exact⟨by simp,b30⟩
theorem check_many (F W fl tr sz:Int)(so:Option Addr)(L sc:Nat)(w:World)(hL:16< (L:Int))
  (HS:yH w 16 #[yi F] (.tuple #[yi sz,yi 0]))
  (HW:yH w 17 #[yi W] (.bool false))
  (HF:yH w 18 #[yi fl] (.bool false))
  (HT:yH w 18 #[yi tr] (.bool false)):
  yC 7 #[.agg #[yi F,yi W,yi fl,yi tr,.slice so L sc]] w (yR w (yi 2)):=by
 replace HS:Hid _:=HS;replace HW:Hid _:=HW;replace HF:Hid _:=HF;replace HT:Hid _:=HT;obtain⟨W3,hW4,q1,b2⟩:=cA w [yi F,yi W,yi fl,yi tr,.slice so L sc] 24;replace hW4:Hid _:=hW4
 go_enter func7,ntmps7
 go_upto_region 1 with fail
 rw[hW4.out];clear hW4;have c5:=q1.c 0 rfl
 go_wp2_with fail
 refine(HS.out _ b2).mono ?_;rintro zz w6 ⟨rfl,bb7⟩;have q8:=q1.l bb7;have b9:=aa b2 bb7;clear q1 b2 bb7 HS c5;obtain⟨W12,hW11,q13,al10⟩:=cA w6 [yi sz] 3;replace hW11:Hid _:=hW11;have hl14:w.heap.size≤w6.heap.size:=b9.size;have q15:=q8.l al10;have b16:=aa b9 al10;clear q8 b9 al10 q13
 go_upto_region 2 with fail
 rw[hW11.out];clear hW11;have c17:=q15.c 1 rfl
 go_wp2_with fail
 refine(HW.out _ b16).mono ?_;rintro zz w18 ⟨rfl,bb19⟩;have q20:=q15.l bb19;have b21:=aa b16 bb19;clear q15 b16 bb19 HW c17;have c22:=q20.c 2 rfl
 go_wp2_with fail
 refine(HF.out _ b21).mono ?_;rintro zz w23 ⟨rfl,bb24⟩;have q25:=q20.l bb24;have b26:=aa b21 bb24;clear q20 b21 bb24 HF c22;have c27:=q25.c 3 rfl
 go_wp2_with fail
 refine(HT.out _ b26).mono ?_;rintro zz w28 ⟨rfl,bb29⟩;have q30:=q25.l bb29;have b31:=aa b26 bb29;clear q25 b26 bb29 HT c27;have c32:=q30.c 4 rfl
 go_wp2
 go_ret
 exact⟨by simp,b31⟩
theorem check_form (F W fl tr sz:Int)(so:Option Addr)(L sc:Nat)(w:World)(hL: ¬16< (L:Int))
  (HS:yH w 16 #[yi F] (.tuple #[yi sz,yi 0]))
  (HW:yH w 17 #[yi W] (.bool false))
  (HF:yH w 18 #[yi fl] (.bool false))
  (HT:yH w 18 #[yi tr] (.bool false))
  (HC: ∀q w1,yB w w1→au w1 q 3 [yi sz]→yC 19 #[.slice so L sc,.func (.func 20) #[] #[.pointer (some ⟨q,0,none⟩)]] w1 (yR w1 (.bool true))):
  yC 7 #[.agg #[yi F,yi W,yi fl,yi tr,.slice so L sc]] w (yR w (yi 1)):=by
 replace HS:Hid _:=HS;replace HW:Hid _:=HW;replace HF:Hid _:=HF;replace HT:Hid _:=HT;replace HC:Hid _:=HC;obtain⟨W3,hW4,q1,b2⟩:=cA w [yi F,yi W,yi fl,yi tr,.slice so L sc] 24;replace hW4:Hid _:=hW4
 go_enter func7,ntmps7
 go_upto_region 1 with fail
 rw[hW4.out];clear hW4;have c5:=q1.c 0 rfl
 go_wp2_with fail
 refine(HS.out _ b2).mono ?_;rintro zz w6 ⟨rfl,bb7⟩;have q8:=q1.l bb7;have b9:=aa b2 bb7;clear q1 b2 bb7 HS c5;obtain⟨W12,hW11,q13,al10⟩:=cA w6 [yi sz] 3;replace hW11:Hid _:=hW11;have hl14:w.heap.size≤w6.heap.size:=b9.size;have q15:=q8.l al10;have b16:=aa b9 al10;clear q8 b9 al10
 go_upto_region 2 with fail
 rw[hW11.out];clear hW11;have c17:=q15.c 1 rfl
 go_wp2_with fail
 refine(HW.out _ b16).mono ?_;rintro zz w18 ⟨rfl,bb19⟩;have q20:=q15.l bb19;have q21:=q13.l bb19;have b22:=aa b16 bb19;clear q15 q13 b16 bb19 HW c17;have c23:=q20.c 2 rfl
 go_wp2_with fail
 refine(HF.out _ b22).mono ?_;rintro zz w24 ⟨rfl,bb25⟩;have q26:=q20.l bb25;have q27:=q21.l bb25;have b28:=aa b22 bb25;clear q20 q21 b22 bb25 HF c23;have c29:=q26.c 3 rfl
 go_wp2_with fail
 refine(HT.out _ b28).mono ?_;rintro zz w30 ⟨rfl,bb31⟩;have q32:=q26.l bb31;have q33:=q27.l bb31;have b34:=aa b28 bb31;clear q26 q27 b28 bb31 HT c29;have c35:=q32.c 4 rfl
 go_wp2_with fail
 refine(HC.out _ _ b34 q33).mono ?_;rintro zz w36 ⟨rfl,bb37⟩;have b38:=aa b34 bb37;clear q32 q33 b34 bb37 HC c35
 go_wp2
 go_ret
 exact⟨by simp,b38⟩
theorem check_ok (F W fl tr sz:Int)(so:Option Addr)(L sc:Nat)(w:World)(hL: ¬16< (L:Int))
  (HS:yH w 16 #[yi F] (.tuple #[yi sz,yi 0]))
  (HW:yH w 17 #[yi W] (.bool false))
  (HF:yH w 18 #[yi fl] (.bool false))
  (HT:yH w 18 #[yi tr] (.bool false))
  (HC: ∀q w1,yB w w1→au w1 q 3 [yi sz]→yC 19 #[.slice so L sc,.func (.func 20) #[] #[.pointer (some ⟨q,0,none⟩)]] w1 (yR w1 (.bool false))):
  yC 7 #[.agg #[yi F,yi W,yi fl,yi tr,.slice so L sc]] w (yR w (yi 0)):=by
 replace HS:Hid _:=HS;replace HW:Hid _:=HW;replace HF:Hid _:=HF;replace HT:Hid _:=HT;replace HC:Hid _:=HC;obtain⟨W3,hW4,q1,b2⟩:=cA w [yi F,yi W,yi fl,yi tr,.slice so L sc] 24;replace hW4:Hid _:=hW4
 go_enter func7,ntmps7
 go_upto_region 1 with fail
 rw[hW4.out];clear hW4;have c5:=q1.c 0 rfl
 go_wp2_with fail
 refine(HS.out _ b2).mono ?_;rintro zz w6 ⟨rfl,bb7⟩;have q8:=q1.l bb7;have b9:=aa b2 bb7;clear q1 b2 bb7 HS c5;obtain⟨W12,hW11,q13,al10⟩:=cA w6 [yi sz] 3;replace hW11:Hid _:=hW11;have hl14:w.heap.size≤w6.heap.size:=b9.size;have q15:=q8.l al10;have b16:=aa b9 al10;clear q8 b9 al10
 go_upto_region 2 with fail
 rw[hW11.out];clear hW11;have c17:=q15.c 1 rfl
 go_wp2_with fail
 refine(HW.out _ b16).mono ?_;rintro zz w18 ⟨rfl,bb19⟩;have q20:=q15.l bb19;have q21:=q13.l bb19;have b22:=aa b16 bb19;clear q15 q13 b16 bb19 HW c17;have c23:=q20.c 2 rfl
 go_wp2_with fail
 refine(HF.out _ b22).mono ?_;rintro zz w24 ⟨rfl,bb25⟩;have q26:=q20.l bb25;have q27:=q21.l bb25;have b28:=aa b22 bb25;clear q20 q21 b22 bb25 HF c23;have c29:=q26.c 3 rfl
 go_wp2_with fail
 refine(HT.out _ b28).mono ?_;rintro zz w30 ⟨rfl,bb31⟩;have q32:=q26.l bb31;have q33:=q27.l bb31;have b34:=aa b28 bb31;clear q26 q27 b28 bb31 HT c29;have c35:=q32.c 4 rfl
 go_wp2_with fail
 refine(HC.out _ _ b34 q33).mono ?_;rintro zz w36 ⟨rfl,bb37⟩;have b38:=aa b34 bb37;clear q32 q33 b34 bb37 HC c35
 go_wp2
 go_ret
 exact⟨by simp,b38⟩
def CopR (F W fl tr:Int)(l:List ByteArray)(w:World)(z:Ending)(w':World):Prop:=
 ∃vo vc,z= .returned (.agg #[yi F,yi W,yi fl,yi tr,.slice vo l.length vc])∧OwnS w' w.heap.size (.slice vo l.length vc) l∧yB w w'
theorem copied_W (F W fl tr:Int)(so:Option Addr)(L sc:Nat)(l:List ByteArray)(w:World)(HC: ∀w1,yB w w1→yC 56 #[.slice so L sc] w1 (CloneR w.heap.size l w1)):
  yC 28 #[.agg #[yi F,yi W,yi fl,yi tr,.slice so L sc]] w (CopR F W fl tr l w):=by
 replace HC:Hid _:=HC;obtain⟨W4,hW5,q1,q2,b3⟩:=iG w [yi F,yi W,yi fl,yi tr,.slice so L sc] 24 [yi 0,yi 0,yi 0,yi 0,yN] 24;replace hW5:Hid _:=hW5
 go_enter func28,ntmps28
 go_upto_region 1 with fail
 rw[hW5.out];clear hW5;have c6:=q1.c 4 rfl
 go_wp2_with fail
 refine(HC.out _ b3).mono ?_;rintro zz w7 ⟨vo,vc,rfl,r1x9,bb8⟩;have q10:=q1.l bb8;have q11:=q2.l bb8;have b12:=aa b3 bb8;clear q1 q2 b3 bb8 HC c6;have bu:=ag w7 w.heap.size 4 (.slice vo l.length vc);have q13:au (w7.setCell ⟨w.heap.size,4,none⟩ (.slice vo l.length vc)) w.heap.size 24 [yi F,yi W,yi fl,yi tr,.slice vo l.length vc]:=(q10.set 4 (.slice vo l.length vc));have c14:=q10.c 4 rfl;have y15:=q10.f 4;have q16:=bu.loc q11 (by omega);have r17:=r1x9.off bu q10 (by simp) (by omega);have b18:=bu.below b12 (by omega);clear bu
 go_upto_region 2 with fail
 generalize w7.setCell ⟨w.heap.size,4,none⟩ (.slice vo l.length vc)=W19 at q13 q16 r17 b18⊢;clear q10 q11 r1x9 b12 c14 y15;obtain⟨c20,c21,c22,c23,c24⟩:=q13.cs5;have hf:=dL (P:=Tryz.prog) q16 b18 (by omega) underlying24 rfl (by kernel_rfl) (yi F) (yi W) (yi fl) (yi tr) (.slice vo l.length vc);have HH:Hid (_∧_∧_):=⟨hf.1,r17.off hf.2.2 q16 (by simp) (by omega),hf.2.1⟩;obtain⟨⟨z0,z1,z2,z3,z4⟩,y0,y1,y2,y3,y4⟩:=dN q16;clear hf q13 q16 r17 b18
 go_wp2
 obtain⟨hl,rRv,bR⟩:=HH.out;exact bodyPost_ret (br results28 rfl hl) rfl ⟨vo,vc,rfl,rRv,bR⟩
end Go.Proofs.YtdhpndnncmagiaaGreatDoor
