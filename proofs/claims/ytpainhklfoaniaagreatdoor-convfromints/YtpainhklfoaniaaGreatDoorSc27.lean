/-
  Texts laid together: Into0, LessF, Into1, Into2.
-/
import Derived.Laws.OwnMore
import Derived.Deep.AppendLies
import Derived.Test.YtpainhklfoaniaaGreatDoorSc26
set_option maxRecDepth 100000
set_option maxHeartbeats 3200000
namespace Go.Proofs.YtpainhklfoaniaaGreatDoor
open _root_.Go.Proofs.Tryz
open Go.RowKit
theorem Ho {P:Program}{w:World}{base e:Nat}{k:IntKind}{v u:Value}{xs ys:List Nat}(t ty:Nat)(i:TypeInfo)(bytes:Nat)(ht:P.underlying t=some (.slice e))(hi:P.info? e=some i)
  (hz:i.zero=some (.int k 0)) (hsize:i.size=1) (hby:i.bytes=bytes) (hb8:bytes≤8)
  (ho:Own w base e k v xs) (hr:Rd w k u ys) (hl:xs.length+ys.length≤3000000) (hbase:base≤w.heap.size):
  ∃v' w',(Builtin.append_ #[t,t] ty #[v,u]).run P w= .ok v' w'∧Own w' base e k v' (xs++ys)∧w.grownBy w' v.ownBlock:=by
 obtain⟨ao,cap,rfl,h1,h2,h3⟩:=hr
 cases ao with
 |none=>
  have hy:ys.length=0:=by
   rcases Nat.eq_zero_or_pos ys.length with e|e
   ·exact e
   ·obtain⟨b,off,e2,_⟩:=h3 e;cases e2
  have hyn:ys=[]:=List.length_eq_zero_iff.1 hy;subst hyn;refine⟨v,w, ?_,by rw[List.append_nil];exact ho,ib _ _⟩
  rcases ho.2 with⟨rfl,_⟩| ⟨g,cap',cur,rfl,_,_,hnc,_⟩
  ·simp[Builtin.append_,run_underlying ht,sizeOf,typeInfo,hi,Builtin.lenOf,Builtin.firstCells]
  ·simp[Builtin.append_,run_underlying ht,sizeOf,typeInfo,hi,Builtin.lenOf,Builtin.firstCells,hnc,storeCells]
 |some ad=>
  obtain⟨v',w',r1,r2,r3,_⟩:=run_append_own (P:=P) (w:=w) base t ty e i (.int k 0) 1 bytes ht hi hz hsize hby rfl (by omega) v xs.length _ ho ad ys.length cap (ys.map (fun n:Nat=>Value.int k (n:Int))) (by simp) (fun j u hj=>by
    have hjl:j<ys.length:=by
     have:=(List.getElem?_eq_some_iff.1 hj).1
     simpa using this
    obtain⟨b,off,e2,hc⟩:=h3 (by omega)
    cases e2
    rw[rO,hc j hjl];rw[←hj,j9 k ys j hjl]) (fun u hu=>by
    obtain⟨n,_,rfl⟩:=List.mem_map.1 hu;rfl) (by unfold maxLen;omega) (Nat.le_trans (Nat.mul_le_mul (show xs.length+ys.length≤3000000 from hl) hb8) (by omega)) hbase
  exact⟨v',w',r1,by unfold Own;rw[List.map_append,List.length_append];exact r2,r3⟩
theorem kq {P:Program}{ops:Array Oper}{rest:List Oper}{o:Oper}{a:Act}{w:World}{Q:Exit→Act→World→Prop}(hgd:o.guard=none)(s x:Operand)(t:TypeId)
  (ho:o.op= .call {callee:= .builtin .append,args:= #[s,x],argTypes:= #[t,t]}) (v u v':Value) (w':World) (hs:a.eval s=v) (hx:a.eval x=u)
  (hr:(Builtin.append_ #[t,t] o.type #[v,u]).run P w= .ok v' w') (h:wpList P ops Q rest (a.put o.dst v') w'):wpList P ops Q (o::rest) a w:=by
 refine wpList_plain hgd fun K hK=> ?_
 unfold Oper.wp execOp;simp only[ho,resolve,invoke,builtin,Sem.run_bind,Sem.run_pure,Result.andThen_ok,List.map_toArray,List.map_cons,List.map_nil,hs,hx,hr];exact hK _ _ h
theorem Lt (va vb:Value)(xs ys:List Nat)(w:World)(ha:Rd w .i64 va xs)(hb:Rd w .i64 vb ys)(sa:Dg.Small 65536 xs)(sb:Dg.Small 65536 ys)(hla:xs.length≤2000000)(hlb:ys.length≤xs.length)(hv:Dg.vl 65536 ys≤Dg.vl 65536 xs):
  yC 32 #[va,vb] w (Si w (Dg.vl 65536 xs-Dg.vl 65536 ys)):=by
 obtain⟨ao,ca,rfl,-,-,hca⟩:=ha;obtain⟨bo,cb,rfl,-,-,hcb⟩:=hb;obtain⟨i0,hi,hz0,hz1,hz2⟩:=info_parts Tryz.infoI64;have HV:Hid (Dg.vl 65536 ys≤Dg.vl 65536 xs):=hv;clear hv
 go_enter func32,ntmps32
 go_wp2
 go_loopw [5,6,7] (fun ov cv iv wr=> ∃(k c:Nat) (ps:List Nat),k≤xs.length∧iv=yi k∧cv=yi c∧Own wr w.heap.size 3 .i64 ov ps∧QA xs ys ps k c∧yB w wr) (fun _ _ iv _=>xs.length-(intOf iv).toNat)
 case atStart=>exact⟨0,0,[],by omega,rfl,rfl,aQ _ _ _ _,⟨rfl,Dg.small_nil _ (by omega),by omega,by simp[Dg.vl]⟩,Below.refl _ _⟩
 case round=>
  obtain⟨k,c,ps,hk,rfl,rfl,own,hI,bel⟩:=hrel;have hcl:=hI.2.2.1;have hpl:=hI.1;have hbs:=bel.size
  by_cases hlt:k<xs.length
  ·obtain⟨b,off,rfl,hcella⟩:=hca (by omega)
   have hcell:=cell_later bel (hcella k hlt);have hxl:=sa k;have hyl:=sb k;have hy0: ¬k<ys.length→ys.getD k 0=0:=fun h=>Dg.getD_of_le _ _ (by omega)
   have hst: ∀d c',d<65536→c'≤1→xs.getD k 0+65536*c'=d+ys.getD k 0+c→QA xs ys (ps++[d]) (k+1) c':=fun d c' h1 h2 h3=>I1 hI h1 h2 h3
   have hcy:k<ys.length→ ∃b off,bo=some ⟨b,off,none⟩∧wr.cell? ⟨b,off+k,none⟩=some (yi ((ys.getD k 0:Nat):Int)):=fun h=>by
    obtain⟨b,off,e,hcell⟩:=hcb (by omega);exact⟨b,off,e,cell_later bel (hcell k h)⟩
   obtain⟨x,ex⟩: ∃x,xs.getD k 0=x:=⟨_,rfl⟩;obtain⟨y,ey⟩: ∃y,ys.getD k 0=y:=⟨_,rfl⟩;rw[ex] at hxl hst hcell;rw[ey] at hyl hy0 hst hcy;have Hst:Hid _:=hst;have Hpl:Hid (ps.length=k):=hpl;have hpl2:ps.length≤2000000:=by omega
   clear ex ey hca hcb hI hst hpl hcella;have fin: ∀(T:Int) (d:Nat),T=((d:Nat):Int)→ ∀v' w3,w3.ownsRow w.heap.size 3 1 v' (ps.length+1) ((ps.map (fun n:Nat=>Value.int .i64 (n:Int)))++[yi T])→(wr.alloc (.cells #[yi T] 3)).grownBy w3 (Value.ownBlock u5)→
     Own w3 w.heap.size 3 .i64 v' (ps++[d])∧yB w w3:=by
    intro T d hT v' w3 h1 h2;rw[hT] at h1 h2;exact iW bel own h1 h2
   by_cases h2:k<ys.length
   ·obtain⟨b2,off2,rfl,hcell2⟩:=hcy h2
    clear hcy hy0
    by_cases hneg:x<y+c
    ·have hneg2:((x:Int)-(c:Int)-(y:Int))<0:=by omega
     go_wp2_with (at_builtin;refine wpList_append_own _ rfl _ _ 33 rfl w.heap.size 3 i0 (yi 0) 1 8 underlying33 hi hz0 hz1 hz2 rfl (by decide) _ _ _ rfl (World.ownsRow.alloc own _) ⟨wr.heap.size,0,none⟩ 1 1 [yi ((x:Int)-(c:Int)-(y:Int)+65536)] rfl rfl ?c1 ?c2 ?c3 ?c4 ?c5 ?_)
     try (case c1=>exact cell_one_new _ _ _)
     case c2=>first|rfl| (intro u hu;simp at hu;subst hu;rfl)| (simp;done)| (simp[Value.oneCell'];done)| (trace_state;fail)
     case c3=>unfold maxLen;omega
     case c4=>omega
     case c5=>first|omega| (simp;omega)
     intro v' w3 hown' hgrow _;have R:=fin _ (x+65536-y-c) (by omega) v' w3 hown' hgrow;clear hown' hgrow own fin
     go_wp2
     go_roundw
     case rel=>exact⟨k+1,1,_,by omega,by go_num,by go_num,R.1,Hst.out _ _ (by omega) (by omega) (by omega),R.2⟩
     case measure=>simp[intOf];omega
    ·have hneg2: ¬((x:Int)-(c:Int)-(y:Int))<0:=by omega
     go_wp2_with (at_builtin;refine wpList_append_own _ rfl _ _ 33 rfl w.heap.size 3 i0 (yi 0) 1 8 underlying33 hi hz0 hz1 hz2 rfl (by decide) _ _ _ rfl (World.ownsRow.alloc own _) ⟨wr.heap.size,0,none⟩ 1 1 [yi ((x:Int)-(c:Int)-(y:Int))] rfl rfl ?d1 ?d2 ?d3 ?d4 ?d5 ?_)
     try (case d1=>exact cell_one_new _ _ _)
     case d2=>first|rfl| (intro u hu;simp at hu;subst hu;rfl)| (simp;done)| (simp[Value.oneCell'];done)| (trace_state;fail)
     case d3=>unfold maxLen;omega
     case d4=>omega
     case d5=>first|omega| (simp;omega)
     intro v' w3 hown' hgrow _;have R:=fin _ (x-y-c) (by omega) v' w3 hown' hgrow;clear hown' hgrow own fin
     go_wp2
     go_roundw
     case rel=>exact⟨k+1,0,_,by omega,by go_num,by go_num,R.1,Hst.out _ _ (by omega) (by omega) (by omega),R.2⟩
     case measure=>simp[intOf];omega
   ·have hy:=hy0 h2
    subst hy;clear hcy hy0
    by_cases hneg:x<c
    ·have hneg2:((x:Int)-(c:Int))<0:=by omega
     go_wp2_with (at_builtin;refine wpList_append_own _ rfl _ _ 33 rfl w.heap.size 3 i0 (yi 0) 1 8 underlying33 hi hz0 hz1 hz2 rfl (by decide) _ _ _ rfl (World.ownsRow.alloc own _) ⟨wr.heap.size,0,none⟩ 1 1 [yi ((x:Int)-(c:Int)+65536)] rfl rfl ?e1 ?e2 ?e3 ?e4 ?e5 ?_)
     try (case e1=>exact cell_one_new _ _ _)
     case e2=>first|rfl| (intro u hu;simp at hu;subst hu;rfl)| (simp;done)| (simp[Value.oneCell'];done)| (trace_state;fail)
     case e3=>unfold maxLen;omega
     case e4=>omega
     case e5=>first|omega| (simp;omega)
     intro v' w3 hown' hgrow _;have R:=fin _ (x+65536-c) (by omega) v' w3 hown' hgrow;clear hown' hgrow own fin
     go_wp2
     go_roundw
     case rel=>exact⟨k+1,1,_,by omega,by go_num,by go_num,R.1,Hst.out _ _ (by omega) (by omega) (by omega),R.2⟩
     case measure=>simp[intOf];omega
    ·have hneg2: ¬((x:Int)-(c:Int))<0:=by omega
     go_wp2_with (at_builtin;refine wpList_append_own _ rfl _ _ 33 rfl w.heap.size 3 i0 (yi 0) 1 8 underlying33 hi hz0 hz1 hz2 rfl (by decide) _ _ _ rfl (World.ownsRow.alloc own _) ⟨wr.heap.size,0,none⟩ 1 1 [yi ((x:Int)-(c:Int))] rfl rfl ?f1 ?f2 ?f3 ?f4 ?f5 ?_)
     try (case f1=>exact cell_one_new _ _ _)
     case f2=>first|rfl| (intro u hu;simp at hu;subst hu;rfl)| (simp;done)| (simp[Value.oneCell'];done)| (trace_state;fail)
     case f3=>unfold maxLen;omega
     case f4=>omega
     case f5=>first|omega| (simp;omega)
     intro v' w3 hown' hgrow _;have R:=fin _ (x-c) (by omega) v' w3 hown' hgrow;clear hown' hgrow own fin
     go_wp2
     go_roundw
     case rel=>exact⟨k+1,0,_,by omega,by go_num,by go_num,R.1,Hst.out _ _ (by omega) (by omega) (by omega),R.2⟩
     case measure=>simp[intOf];omega
  ·have hke:k=xs.length:=by omega
   subst hke;have hen:=Nl hI hlb HV.out;have hps:=hI.2.1;have hpl2:ps.length≤2000000:=by omega
   clear hpl;obtain⟨oo,oc,rfl⟩:=own.rd.shape
   go_wp2_with fail
   refine(i9 _ _ _ _ _ own.rd).mono ?_;rintro e w' ⟨n,rfl,hn,rfl⟩;have hnl:=hn.1;have hr:=uE (cap':=n) 65536 (by omega) own.rd hps hn (Nat.le_refl _) (by unfold maxLen;omega);rw[hen] at hr;clear hn hen
   go_wp2
   go_ret
   exact⟨_,rfl,hr,LP (JH own) n n,bel⟩
def aeu (w:World)(xs:List Nat)(b k R:Nat)(cur:List Nat)(rv:Value)(wr:World):Prop:=
 Own wr w.heap.size 3 .i64 (.slice (some ⟨w.heap.size,0,none⟩) xs.length xs.length) cur∧Rd wr .i64 rv (Dg.dg 65536 R)∧BI xs cur b k R∧yB w wr
def aev (W5:World)(g1 n1 Q:Nat)(rv dv:Value)(wq:World):Prop:=
 rv= .slice (some ⟨g1,0,none⟩) n1 n1∧ ∃d:Nat,Q≤d∧d≤65535∧dv=yi d∧yB W5 wq
def sJ (rs:List Nat)(n:Nat):Nat→Nat
 |0=>0
 |j+1=>65536*sJ rs n j+rs.getD (n-j) 0
theorem Wm {rs:List Nat}(h:Dg.Small 65536 rs)(n j:Nat):sJ rs n j<65536^j:=by
 induction j with
 |zero=>simp[sJ]
 |succ j ih=>
  have:=h (n-j);simp only[sJ,Nat.pow_succ];omega
theorem aaD (w:World)(base e d:Nat)(hb:base≤w.heap.size):Own (w.alloc (.cells #[yi d] e)) base e .i64 (.slice (some ⟨w.heap.size,0,none⟩) 1 1) [d]:=
 World.ownsRow_lit (e:=e) (size:=1) (base:=base) w #[yi d] 1 hb (by unfold maxLen;omega) rfl
theorem Ti {a b:Int}(h:b≤a):decide (dm a b<0)=false:=by
 unfold dm;rw[if_neg (by omega)]
 by_cases h2:b<a
 ·rw[if_pos h2];rfl
 ·rw[if_neg h2];rfl
theorem Wn {a b:Int}(h:a≤b):dm a b≤0:=by
 unfold dm
 by_cases h1:a<b
 ·rw[if_pos h1];omega
 ·rw[if_neg h1,if_neg (by omega)];omega
theorem Wo {w:World}{k:IntKind}{g n c:Nat}{zs:List Nat}(h:Rd w k (.slice (some ⟨g,0,none⟩) n c) zs)(i:Nat)(hi:i<zs.length):w.cell? ⟨g,i,none⟩=some (.int k ((zs.getD i 0:Nat):Int)):=by
 have hn:=wn h;subst hn;obtain⟨_,_,h3⟩:=iQ h;obtain⟨b,off,e,hc⟩:=h3 (by omega)
 cases e
 have:=hc i hi
 rwa [Nat.zero_add] at this
theorem Tj (va vb:Value)(xs bs:List Nat)(w:World)(ha:Rd w .i64 va xs)(hb:Rd w .i64 vb bs)(sa:Dg.Small 65536 xs)(sb:Dg.Small 65536 bs)(nb:Dg.Norm bs)(hla:xs.length≤900000)(hlb:bs.length≤900000)(hb2:2≤bs.length):
  yC 88 #[va,vb] w fun e w'=> ∃vq vr,e= .returned (.tuple #[vq,vr])∧Rd w' .i64 vq (Dg.dg 65536 (Dg.vl 65536 xs/Dg.vl 65536 bs))∧Rd w' .i64 vr (Dg.dg 65536 (Dg.vl 65536 xs % Dg.vl 65536 bs))∧yB w w':=by
 obtain⟨i0,hi,hz0,hz1,hz2⟩:=info_parts Tryz.infoI64;have hbne:bs≠[]:=by intro e;rw[e] at hb2;simp at hb2
 have hb0:0<Dg.vl 65536 bs:=Nat.pos_of_ne_zero (Dg.vl_ne_zero 65536 (by omega) bs hbne nb);have HB:Hid (Rd w .i64 vb bs):=hb;have HCM:Hid (∀v u x y w1,Rd w1 .i64 v (Dg.dg 65536 x)→Rd w1 .i64 u (Dg.dg 65536 y)→yC 48 #[v,u] w1 (yR w1 (yi (dm x y)))):=fun v u x y w1 r q=>by
  have:=fm v u _ _ w1 r q (Dg.small_dg _ _ (by omega)) (Dg.small_dg _ _ (by omega)) (Dg.norm_dg _ _ (by omega)) (Dg.norm_dg _ _ (by omega))
  rwa [Dg.vl_dg _ _ (by omega),Dg.vl_dg _ _ (by omega)] at this
 have hbd:=Dg.eq_dg 65536 (by omega) bs _ sb nb rfl;have HBC:Hid (∀v x w1,yB w w1→Rd w1 .i64 v (Dg.dg 65536 x)→yC 48 #[v,vb] w1 (yR w1 (yi (dm x (Dg.vl 65536 bs))))):=fun v x w1 b r=>
  HCM.out v vb x _ w1 r (by rw[←hbd];exact hb.l b)
 have HTM:Hid (∀v d w1,d<65536→yB w w1→Rd w1 .i64 v (Dg.dg 65536 d)→yC 61 #[vb,v] w1 (cG w1 (Dg.vl 65536 bs*d))):=fun v d w1 hd b r=>by
  have hl:(Dg.dg 65536 d).length≤1:=Dg.dg_len_le 65536 d 1 (by omega) (by omega);have:=fN vb v bs _ w1 (hb.l b) r sb (Dg.small_dg _ _ (by omega)) (by omega) (by omega)
  rwa [Dg.vl_dg _ _ (by omega)] at this
 have HLS:Hid (∀v u x y w1,(Dg.dg 65536 x).length≤1000000→y≤x→Rd w1 .i64 v (Dg.dg 65536 x)→Rd w1 .i64 u (Dg.dg 65536 y)→yC 32 #[v,u] w1 (Si w1 (x-y))):=fun v u x y w1 hl hxy r q=>by
  have h5:=Dg.vl_lt 65536 _ (Dg.small_dg 65536 x (by omega));rw[Dg.vl_dg _ _ (by omega)] at h5;have:=Lt v u _ _ w1 r q (Dg.small_dg _ _ (by omega)) (Dg.small_dg _ _ (by omega)) (by omega) (Dg.dg_len_le 65536 y _ (by omega) (Nat.lt_of_le_of_lt hxy h5)) (by rw[Dg.vl_dg _ _ (by omega),Dg.vl_dg _ _ (by omega)];exact hxy)
  rwa [Dg.vl_dg _ _ (by omega),Dg.vl_dg _ _ (by omega)] at this
 clear hbd;obtain⟨ao,ca,rfl,-,-,hca⟩:=ha;obtain⟨bo,cb,rfl,-,-,hcb⟩:=hb;have hl1:((bs.length:Int)==1)=false:=by simp;omega
 go_enter func88,ntmps88
 go_wp2_with (at_make;refine wpList_make_full _ rfl _ _ 33 rfl w.heap.size 3 i0 (yi 0) 1 underlying33 hi hz0 hz1 _ _ _ _ xs.length rfl rfl (by omega) (by omega) ?b2 ?b3 (Nat.le_refl _) ?_)
 case b2=>rw[hz2];omega
 case b3=>unfold maxLen;omega
 intro w0 hown0 hgrow0;have own0:=gL hown0;have bel0:yB w w0:=(Below.refl _ _).grown hgrow0 (Nat.le_refl _) (fun k h=>by cases h)
 clear hown0 hgrow0
 go_wp2
 go_loopw [10,11] (fun rv iv wr=> ∃(k R:Nat) (cur:List Nat),k≤xs.length∧iv=yi ((k:Int)-1)∧aeu w xs (Dg.vl 65536 bs) k R cur rv wr)
  (fun _ iv _=>(intOf iv+1).toNat)
 case atStart=>exact⟨xs.length,0,_,Nat.le_refl _,rfl,own0,(aQ _ 0 0 .i64).rd,NF xs _ hb0,bel0⟩
 case round=>
  clear own0 bel0;obtain⟨k,R,cur,hk,rfl,own,hR,hI,bel⟩:=hrel
  by_cases hk0:k=0
  ·subst hk0
   obtain⟨e1,e2⟩:=Vo hI;have hcl:cur.length≤1000000:=by have:=hI.1;omega
   have hcs:=hI.2.1;have HE1:Hid (Dg.vl 65536 xs/Dg.vl 65536 bs=Dg.vl 65536 cur):=e1;have HE2:Hid (Dg.vl 65536 xs % Dg.vl 65536 bs=R):=e2;clear e1 e2 hI
   go_wp2_with fail
   refine(i9 _ _ _ cur _ own.rd).mono ?_;rintro e w' ⟨m,rfl,hm,rfl⟩;have rq:=xh own hcs hm (by omega)
   go_wp2
   go_ret2
   exact⟨_,_,rfl,by rw[HE1.out];exact rq,by rw[HE2.out];exact hR,bel⟩
  ·obtain⟨m,rfl⟩: ∃m,k=m+1:=⟨k-1,by omega⟩
   obtain⟨ab,aoff,rfl,hcell⟩:=hca (by omega);have hx:=cell_later bel (hcell m (by omega));have hxl:=sa m;obtain⟨N,hN⟩: ∃N,N=xs.getD m 0+65536*R:=⟨_,rfl⟩;obtain⟨hNlt,hset⟩:=Vn hI (by omega) hN hb0 hxl;have hskip:=fun h:N<Dg.vl 65536 bs=>QV hI (by omega) hN h
   have hRb:=hI.2.2.2.1;have hcl:=hI.1;obtain⟨x,ex⟩: ∃x,xs.getD m 0=x:=⟨_,rfl⟩;rw[ex] at hx hxl hN;have a1:yB wr (wr.alloc (.cells #[yi (x:Int)] 3)):=(Below.refl _ _).alloc (Nat.le_refl _) _;have own1:=aaD wr wr.heap.size 3 x (Nat.le_refl _);have hRl:(Dg.dg 65536 R).length≤bs.length:=Dg.dg_len_le 65536 R bs.length (by omega) (Nat.lt_trans hRb (Dg.vl_lt 65536 bs sb));obtain⟨v1,w1,hrun,own2,gr⟩:=Ho (P:=Tryz.prog) 33 33 i0 8 underlying33 hi hz0 hz1 hz2 (Nat.le_refl _) own1 (hR.l a1) (by simp only[List.length_cons,List.length_nil];omega) (by simp);have b1:yB wr w1:=a1.grown gr a1.size (fun k hk=>by cases hk;exact Nat.le_refl _)
   have hs2:Dg.Small 65536 ([x]++Dg.dg 65536 R):=Dg.small_cons.2 ⟨hxl,Dg.small_dg _ _ (by omega)⟩;have hv2:Dg.vl 65536 ([x]++Dg.dg 65536 R)=N:=by rw[List.singleton_append];simp only[Dg.vl];rw[Dg.vl_dg _ _ (by omega),hN]
   obtain⟨g1,c1,rfl,-,-⟩:=World.ownsRow.form own2 (by simp);have r2:=own2.rd;have hl2:([x]++Dg.dg 65536 R).length≤1000000:=by simp only[List.length_append,List.length_cons,List.length_nil];omega
   have own:=own.l b1;have bel:=aa bel b1;have HSET:Hid (BI xs (cur.set m (N/Dg.vl 65536 bs)) (Dg.vl 65536 bs) m (N % Dg.vl 65536 bs)):=hset;have HSKIP:Hid (N<Dg.vl 65536 bs→BI xs cur (Dg.vl 65536 bs) m N):=hskip;have HNLT:Hid (N<65536*Dg.vl 65536 bs):=hNlt;have HV2:Hid (Dg.vl 65536 ([x]++Dg.dg 65536 R)=N):=hv2;have HS2:Hid (Dg.Small 65536 ([x]++Dg.dg 65536 R)):=hs2;clear hset hskip hNlt hv2 hs2 own2 gr a1 own1 hR hI ex hN hcell hRb hRl b1
   go_wp2_with (at_builtin;refine kq (by rfl) _ _ 33 (by rfl) _ _ _ w1 (by rfl) (by rfl) hrun ?_)
   go_wp2_with fail
   refine(i9 _ _ _ _ _ r2).mono ?_;rintro e w' ⟨n1,rfl,htr,rfl⟩;have hml:=htr.1;have r1:=uE (cap':=n1) 65536 (by omega) r2 HS2.out htr (Nat.le_refl _) (by unfold maxLen;omega);rw[HV2.out] at r1;clear htr r2 HS2 HV2 hrun;have HN1:Hid (n1=(Dg.dg 65536 N).length):=wn r1
   by_cases hlt:N<Dg.vl 65536 bs
   ·have hI2:=HSKIP.out hlt
    go_wp2_with fail
    refine(HBC.out _ N _ bel r1).mono ?_;rintro e w2 ⟨rfl,b2⟩;rw[gX (by omega)];have own:=own.l b2;have r2:=r1.l b2;have bel:=aa bel b2
    go_wp2
    go_roundw
    case rel=>exact⟨m,N,cur,by omega,by go_num,own,r2,hI2,bel⟩
    case measure=>simp[intOf]
   ·have hd:=Ti (a:=(N:Int)) (b:=(Dg.vl 65536 bs:Int)) (by omega)
    obtain⟨cr,hcr⟩: ∃cr,dm (N:Int) (Dg.vl 65536 bs:Int)=cr:=⟨_,rfl⟩;rw[hcr] at hd;have HCR:Hid (dm (N:Int) (Dg.vl 65536 bs:Int)=cr):=hcr;clear hcr
    go_wp2_with fail
    refine(HBC.out _ N _ bel r1).mono ?_;rintro e w2 ⟨rfl,b2⟩;rw[HCR.out];have own:=own.l b2;have r2:=r1.l b2;have bel:=aa bel b2;obtain⟨-,-,hcb2⟩:=iQ (HB.out.l bel);obtain⟨bb,boff,rfl,hcellb⟩:=hcb2 (by omega);have e1:=hcellb (bs.length-1) (by omega);have e0:=hcellb (bs.length-2) (by omega);have hd1:=sb (bs.length-1);have hd0:=sb (bs.length-2);obtain⟨d1,ed1⟩: ∃d1,bs.getD (bs.length-1) 0=d1:=⟨_,rfl⟩;obtain⟨d0,ed0⟩: ∃d0,bs.getD (bs.length-2) 0=d0:=⟨_,rfl⟩;have hgs:=Zu (Dg.dg 65536 N) bs bs.length N (Dg.vl 65536 bs) (sJ (Dg.dg 65536 N) bs.length 3) (d1*65536+d0) hb2 rfl (Dg.small_dg _ _ (by omega)) nb (Dg.vl_dg _ _ (by omega)) rfl (Dg.dg_len_le 65536 N _ (by omega) (by
     have h5:=Dg.vl_lt 65536 bs sb;have h6:=HNLT.out;rw[Nat.pow_succ];omega)) HNLT.out (by simp[sJ]) (by rw[ed1,ed0])
    rw[ed1] at e1 hd1;rw[ed0] at e0 hd0;have n1':((bs.length:Int)-1)=((bs.length-1:Nat):Int):=by omega
    have n2':((bs.length:Int)-2)=((bs.length-2:Nat):Int):=by omega
    have hi1:((bs.length-1:Nat):Int)< (bs.length:Int):=by omega
    have hi2:((bs.length-2:Nat):Int)< (bs.length:Int):=by omega
    have HGS:Hid _:=hgs;clear hgs ed1 ed0 hcellb hcb2 HCR
    go_wp2
    go_quiet (fail)
    go_wp2
    have bq:yB w2 (w2.drewN nq):=aL (Below.refl _ _) nq;have own:=own.l bq;have r2:=r2.l bq;have bel:=aa bel bq;obtain⟨W3,hW3⟩: ∃W3,w2.drewN nq=W3:=⟨_,rfl⟩;rw[hW3] at own r2 bel;have HW3:Hid (w2.drewN nq=W3):=hW3;rw[hW3];clear hW3 bq b2
    go_loopw [12,14] (fun tv jv wq=>wq=W3∧ ∃j:Nat,j≤3∧jv=yi j∧tv=yi (sJ (Dg.dg 65536 N) bs.length j)) (fun _ jv _=>3-(intOf jv).toNat)
    case atStart=>exact⟨rfl,0,by omega,rfl,rfl⟩
    case round=>
     obtain⟨hwq,j,hj,rfl,rfl⟩:=hrel;subst hwq;have hT:=Wm (Dg.small_dg 65536 N (by omega)) bs.length j;have hTj:j<3→sJ (Dg.dg 65536 N) bs.length j<4294967296:=fun h=>Nat.lt_of_lt_of_le hT (Nat.pow_le_pow_right (n:=65536) (by omega) (show j≤2 by omega))
     have hTs:sJ (Dg.dg 65536 N) bs.length (j+1)=65536*sJ (Dg.dg 65536 N) bs.length j+(Dg.dg 65536 N).getD (bs.length-j) 0:=rfl;have hDl:=Dg.small_dg 65536 N (by omega) (bs.length-j);have hD0: ¬bs.length-j<n1→(Dg.dg 65536 N).getD (bs.length-j) 0=0:=fun h=>Dg.getD_of_le _ _ (by rw[←HN1.out];omega)
     have hDc:bs.length-j<n1→wr.cell? ⟨g1,bs.length-j,none⟩=some (yi (((Dg.dg 65536 N).getD (bs.length-j) 0:Nat):Int)):=fun h=>Wo r2 _ (by rw[←HN1.out];exact h)
     by_cases hj3:j<3
     ·have hTl:=hTj hj3
      obtain⟨T,hTe⟩: ∃T,sJ (Dg.dg 65536 N) bs.length j=T:=⟨_,rfl⟩;obtain⟨D,hDe⟩: ∃D,(Dg.dg 65536 N).getD (bs.length-j) 0=D:=⟨_,rfl⟩;rw[hTe] at hTs hTl⊢;rw[hDe] at hTs hDl hD0 hDc;obtain⟨i,hie⟩: ∃i,bs.length-j=i:=⟨_,rfl⟩;have hiI:((bs.length:Int)-(j:Int))=(i:Int):=by omega
      rw[hie] at hD0 hDc;have HTS:Hid (sJ (Dg.dg 65536 N) bs.length (j+1)=65536*T+D):=hTs;clear hT hTj hTs hTe hDe hie
      by_cases hat:i<n1
      ·have hDc:=hDc hat
       clear hD0
       go_wp2
       go_roundw
       case rel=>exact⟨trivial,j+1,by omega,by go_num,by rw[HTS.out];go_num⟩
       case measure=>simp[intOf];omega
      ·have hD:=hD0 hat
       subst hD;clear hDc hD0
       go_wp2
       go_roundw
       case rel=>exact⟨trivial,j+1,by omega,by go_num,by rw[HTS.out];go_num⟩
       case measure=>simp[intOf];omega
     ·have hj4:j=3:=by omega
      subst hj4;clear hTj hTs hDl hD0 hDc hj hj3;have hTl:sJ (Dg.dg 65536 N) bs.length 3<281474976710656:=Nat.lt_of_lt_of_le hT (by decide);clear hT;obtain⟨T,hTe⟩: ∃T,sJ (Dg.dg 65536 N) bs.length 3=T:=⟨_,rfl⟩;rw[hTe] at HGS hTl⊢;clear hTe;have hq1:(T:Int).tdiv ((d1:Int)*65536+(d0:Int)+1)=((T/(d1*65536+d0+1):Nat):Int):=by
       rw[Int.tdiv_eq_ediv_of_nonneg (by omega)];exact(Int.natCast_ediv T (d1*65536+d0+1)).symm
      have hq2:(T:Int)/((d1:Int)*65536+(d0:Int)+1)=((T/(d1*65536+d0+1):Nat):Int):=(Int.natCast_ediv T (d1*65536+d0+1)).symm;have hql:T/(d1*65536+d0+1)≤T:=Nat.div_le_self _ _;obtain⟨q,hqe⟩: ∃q,T/(d1*65536+d0+1)=q:=⟨_,rfl⟩;rw[hqe] at HGS hq1 hq2 hql;have hne:(((d1:Int)*65536+(d0:Int)+1)==0)=false:=by simp;omega
      clear hqe
      go_wp2
      obtain⟨D,hD⟩: ∃D:Nat,min (65535:Int) (max 0 ((q:Int)-1)+4)=(D:Int):=⟨(min (65535:Int) (max 0 ((q:Int)-1)+4)).toNat,by omega⟩;have HD1:Hid (N/Dg.vl 65536 bs≤D∧D≤65535):=⟨by have:=HGS.out;omega,by omega⟩;have HD2:Hid (min (65535:Int) (max 0 ((q:Int)-1)+4)=(D:Int)):=hD;clear hD HGS hq1 hq2 hql hne hTl;obtain⟨W5,rfl⟩: ∃W5,W5=wr:=⟨_,rfl⟩
      go_loopw [10,17] (fun rv dv wq=>aev W5 g1 n1 (N/Dg.vl 65536 bs) rv dv wq) (fun _ dv _=>(intOf dv).toNat)
      case atStart=>exact⟨rfl,D,HD1.out.1,HD1.out.2,by rw[HD2.out],Below.refl _ _⟩
      case round=>
       obtain⟨rfl,d,hg1,hg2,rfl,b5⟩:=hrel;have own5:=own.l b5;have r5:=r2.l b5;have bel5:=aa bel b5;have hNl:(Dg.dg 65536 N).length≤1000000:=by rw[←HN1.out];omega
       clear HD1 HD2
       by_cases hle:Dg.vl 65536 bs*d≤N
       ·have hdq:=NG hg1 hle hb0
        have hcle:=Wn (a:=((Dg.vl 65536 bs*d:Nat):Int)) (b:=(N:Int)) (Int.ofNat_le.2 hle);obtain⟨cz,hcz⟩: ∃cz,dm ((Dg.vl 65536 bs*d:Nat):Int) (N:Int)=cz:=⟨_,rfl⟩;rw[hcz] at hcle;have HCZ:Hid (dm ((Dg.vl 65536 bs*d:Nat):Int) (N:Int)=cz):=hcz;have HLE:Hid (Dg.vl 65536 bs*d≤N):=hle;have HDQ:Hid (d=N/Dg.vl 65536 bs):=hdq;clear hcz hle hdq
        go_wp2_with fail
        refine(Bj d _ (by omega)).mono ?_;rintro e w6 ⟨v6,rfl,r6,b6⟩;have bel6:=aa bel5 b6
        go_wp2_with fail
        refine(HTM.out _ d _ (by omega) bel6 r6).mono ?_;rintro e w7 ⟨v7,rfl,r7,b7⟩;have b57:=aa b6 b7;have bel7:=aa bel5 b57;have r57:=r5.l b57;clear bel6 r6 b6 b7
        go_wp2_with fail
        refine(HCM.out _ _ _ _ _ r7 r57).mono ?_;rintro e w8 ⟨rfl,b8⟩;rw[HCZ.out];have r7:=r7.l b8;have r58:=r57.l b8;have bel8:=aa bel7 b8;have own8:=(own5.l b57).l b8;clear r57 bel7 b57 HCZ own5
        go_wp2_with fail
        refine(HLS.out _ _ _ _ _ hNl HLE.out r58 r7).mono ?_;rintro e w9 ⟨v9,rfl,r9,f9,b9⟩;have own9:=own8.l b9;have bel9:=aa bel8 b9;have hq9:=own9.c m (by omega);have hf9:=own9.f m;have hs9:w.heap.size<w8.heap.size:=by have:=own8.block;omega
        have own10:=own9.store m d;have r10:=r9.set_far (g:=w.heap.size) (j:=m) f9 hs9 (yi (d:Int));have bel10:=bel9.setCell (p:=⟨w.heap.size,m,none⟩) (Nat.le_refl _) (yi (d:Int));have HN:Hid (N-Dg.vl 65536 bs*d=N % Dg.vl 65536 bs):=by
         rw[HDQ.out];have:=Nat.div_add_mod N (Dg.vl 65536 bs);unfold Hid;omega
        clear r58 r7 bel8 own8 b8 b9 HLE f9 r9 bel9
        go_wp2
        go_roundw
        case rel=>exact⟨m,N % Dg.vl 65536 bs,cur.set m (N/Dg.vl 65536 bs),by omega,by go_num,by rw[←HDQ.out];exact own10,by rw[←HN.out];exact r10,HSET.out,bel10⟩
        case measure=>simp[intOf]
       ·have hdl:=QW hg1 hle hb0
        have hcz:=sO (a:=((Dg.vl 65536 bs*d:Nat):Int)) (b:=(N:Int)) (by omega);have HCZ:Hid (dm ((Dg.vl 65536 bs*d:Nat):Int) (N:Int)=1):=hcz;have HG:Hid (N/Dg.vl 65536 bs≤d-1):=Nat.le_sub_of_add_le hdl;have hd0':0<d:=Nat.lt_of_lt_of_le (Nat.succ_pos _) hdl;clear hcz hle hdl
        go_wp2_with fail
        refine(Bj d _ (by omega)).mono ?_;rintro e w6 ⟨v6,rfl,r6,b6⟩;have bel6:=aa bel5 b6
        go_wp2_with fail
        refine(HTM.out _ d _ (by omega) bel6 r6).mono ?_;rintro e w7 ⟨v7,rfl,r7,b7⟩;have b57:=aa b6 b7;have r57:=r5.l b57;clear bel6 r6 b6 b7
        go_wp2_with fail
        refine(HCM.out _ _ _ _ _ r7 r57).mono ?_;rintro e w8 ⟨rfl,b8⟩;rw[HCZ.out];have b58:=aa (aa b5 b57) b8;clear r57 b57 HCZ own5 r7
        go_wp2
        go_roundw
        case rel=>
         refine⟨_,_,_,_,_,_,_,_,_,_,_,_,_,_,_,_,_,_,_,_,⟨rfl,d-1,HG.out,by omega, ?_,b58⟩,rfl⟩
         go_num
        case measure=>simp[intOf];omega
def JI (w:World)(q r:Nat)(e:Ending)(w':World):Prop:=
 ∃vq vr,e= .returned (.tuple #[vq,vr])∧Rd w' .i64 vq (Dg.dg 65536 q)∧Rd w' .i64 vr (Dg.dg 65536 r)∧yB w w'
theorem qM (va vb:Value)(a b:Nat)(w:World)(ha:Rd w .i64 va (Dg.dg 65536 a))(hb:Rd w .i64 vb (Dg.dg 65536 b))(hla:(Dg.dg 65536 a).length≤900000)(hlb:(Dg.dg 65536 b).length≤900000)(hb0:0<b):
  yC 88 #[va,vb] w (JI w (a/b) (a % b)):=by
 have hne: ¬(Dg.dg 65536 b).length=0:=by rw[List.length_eq_zero_iff,Dg.dg_nil_iff _ _ (by omega)];omega
 by_cases h1:(Dg.dg 65536 b).length=1
 ·obtain⟨d,hd⟩: ∃d,Dg.dg 65536 b=[d]:=List.length_eq_one_iff.1 h1
  have hs:=Dg.small_dg 65536 b (by omega);have hv:=Dg.vl_dg 65536 b (by omega);rw[hd] at hs hv;have hdb:d=b:=by simpa[Dg.vl] using hv
  subst hdb;have:=IU va _ vb d w ha (by rw[←hd];exact hb) (Dg.small_dg _ _ (by omega)) (by omega) hb0 (Dg.small_cons.1 hs).1;rw[Dg.vl_dg _ _ (by omega)] at this;exact this
 ·have:=Tj va vb _ _ w ha hb (Dg.small_dg _ _ (by omega)) (Dg.small_dg _ _ (by omega)) (Dg.norm_dg _ _ (by omega)) hla hlb (by omega)
  rw[Dg.vl_dg _ _ (by omega),Dg.vl_dg _ _ (by omega)] at this;exact this
end Go.Proofs.YtpainhklfoaniaaGreatDoor
