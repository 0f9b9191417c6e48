/-
  Texts laid together: IntoM, Into0, LessF, Into1, Into2, Gq1, Gq4, Gr13.
-/
import Derived.Test.YtpgijbdgljkeeaaGreatDoorUc02
set_option maxRecDepth 100000
set_option maxHeartbeats 3200000
namespace Go.Proofs.YtpgijbdgljkeeaaGreatDoor
open _root_.Go.Proofs.Tryz
theorem abW (B:Nat)(l:List Nat):Dg.vl B l=l.getD 0 0+B*Dg.vl B (l.drop 1):=by
 cases l with
 |nil=>simp[Dg.vl]
 |cons d l=>simp[Dg.vl]
theorem Vm (l:List Nat)(k:Nat):(l.drop k).getD 0 0=l.getD k 0:=by
 simp[List.getD_eq_getElem?_getD]
theorem iy (B:Nat)(l:List Nat)(k:Nat):Dg.vl B (l.drop k)=l.getD k 0+B*Dg.vl B (l.drop (k+1)):=by
 rw[abW B (l.drop k),Vm,List.drop_drop]
theorem Zs (B:Nat)(l:List Nat)(k:Nat)(h:l.length≤k+3):Dg.vl B (l.drop k)=l.getD k 0+B*(l.getD (k+1) 0+B*l.getD (k+2) 0):=by
 rw[iy,iy,iy,List.drop_of_length_le (by omega)];simp[Dg.vl]
theorem Zt (B:Nat)(l:List Nat)(k:Nat)(h:l.length≤k+2):Dg.vl B (l.drop k)=l.getD k 0+B*l.getD (k+1) 0:=by
 rw[iy,iy,List.drop_of_length_le (by omega)];simp[Dg.vl]
theorem BH (B:Nat)(l:List Nat)(k:Nat):Dg.vl B l=Dg.vl B (l.take k)+B^k*Dg.vl B (l.drop k):=by
 by_cases h:k≤l.length
 ·exact Dg.vl_take_drop B l k h
 ·rw[List.take_of_length_le (by omega),List.drop_of_length_le (by omega)]
  simp[Dg.vl]
theorem Zu (rs bs:List Nat)(n R b top under:Nat)(hn:2≤n)(hbl:bs.length=n)(sr:Dg.Small 65536 rs)(nb:Dg.Norm bs)
  (hR:Dg.vl 65536 rs=R) (hb:Dg.vl 65536 bs=b) (hrl:rs.length≤n+1) (hlt:R<65536*b)
  (ht:top=65536*(65536*rs.getD n 0+rs.getD (n-1) 0)+rs.getD (n-2) 0) (hu:under=bs.getD (n-1) 0*65536+bs.getD (n-2) 0):
  R/b≤65535∧R/b≤top/(under+1)+1:=by
 obtain⟨k,rfl⟩: ∃k,n=k+2:=⟨n-2,by omega⟩;have e1:k+2-1=k+1:=by omega
 have e2:k+2-2=k:=by omega
 rw[e1,e2] at ht hu;have r1:=BH 65536 rs k;rw[Zs 65536 rs k (by omega),hR] at r1;have b1:=BH 65536 bs k;rw[Zt 65536 bs k (by omega),hb] at b1;have et:rs.getD k 0+65536*(rs.getD (k+1) 0+65536*rs.getD (k+2) 0)=top:=by omega
 have eu:bs.getD k 0+65536*bs.getD (k+1) 0=under:=by omega
 rw[et] at r1;rw[eu] at b1;have rl:Dg.vl 65536 (rs.take k)<65536^k:=Nat.lt_of_lt_of_le (Dg.vl_lt 65536 _ (Dg.small_take sr k (by omega))) (Nat.pow_le_pow_right (by omega) (List.length_take_le _ _));have hu1:65536≤under:=by
  have h0:=nb (by intro e;rw[e] at hbl;simp at hbl);rw[hbl,e1] at h0;omega
 obtain⟨P,hP⟩: ∃P,65536^k=P:=⟨_,rfl⟩;rw[hP] at r1 b1 rl;have hb0:0<b:=by
  rcases Nat.eq_zero_or_pos b with h|h
  ·rw[h] at hlt;omega
  ·exact h
 obtain⟨Q,hQ⟩: ∃Q,R/b=Q:=⟨_,rfl⟩;have q1:Q≤65535:=by
  rw[←hQ];have:R/b<65536:=by rw[Nat.div_lt_iff_lt_mul hb0];exact hlt
  omega
 have q2:Q*b≤R:=by rw[←hQ];exact Nat.div_mul_le_self R b
 rw[hQ];refine⟨q1, ?_⟩;have q3:Q*(P*under)≤Q*b:=Nat.mul_le_mul_left _ (by omega);have q4:P*(Q*under)<P*(top+1):=by
  have:P*(Q*under)=Q*(P*under):=by rw[←Nat.mul_assoc,Nat.mul_comm P Q,Nat.mul_assoc]
  rw[this,Nat.mul_add];omega
 have q5:Q*under<top+1:=Nat.lt_of_mul_lt_mul_left q4
 rcases Nat.eq_zero_or_pos Q with h|h
 ·rw[h];exact Nat.zero_le _
 ·obtain⟨q,rfl⟩: ∃q,Q=q+1:=⟨Q-1,by omega⟩
  have q6:q*(under+1)≤top:=by
   rw[Nat.add_mul] at q5;rw[Nat.mul_add];omega
  have:=(Nat.le_div_iff_mul_le (by omega)).2 q6;omega
def BI (xs cur:List Nat)(b k R:Nat):Prop:=
 cur.length=xs.length∧Dg.Small 65536 cur∧(∀j,j<k→cur.getD j 0=0)∧R<b∧Dg.vl 65536 (xs.drop k)=Dg.vl 65536 (cur.drop k)*b+R
theorem NF (xs:List Nat)(b:Nat)(hb:0<b):BI xs (List.replicate xs.length 0) b xs.length 0:=by
 refine⟨by simp,Dg.small_replicate _ _ (by omega),fun j hj=>by simp[List.getD_eq_getElem?_getD,hj],hb, ?_⟩
 simp[Dg.vl]
theorem Vn {xs cur:List Nat}{b k R N:Nat}(h:BI xs cur b (k+1) R)(hk:k<xs.length)(hN:N=xs.getD k 0+65536*R)(hb:0<b)(hx:xs.getD k 0<65536):
  N<65536*b∧BI xs (cur.set k (N/b)) b k (N % b):=by
 obtain⟨h1,h2,h3,h4,h5⟩:=h;have hlt:N<65536*b:=by
  have:65536*(R+1)≤65536*b:=Nat.mul_le_mul_left _ h4;omega
 have hq:N/b<65536:=by rw[Nat.div_lt_iff_lt_mul hb];exact hlt
 refine⟨hlt,by simpa using h1,Dg.small_set h2 _ _ hq,fun j hj=> ?_,Nat.mod_lt _ hb, ?_⟩
 ·rw[Dg.getD_set _ _ _ _ (by omega),if_neg (by omega)]
  exact h3 j (by omega)
 ·rw[iy 65536 xs k,iy 65536 (cur.set k (N/b)) k,Dg.getD_set _ _ _ _ (by omega),if_pos rfl,List.drop_set_of_lt (by omega),h5]
  have:=Nat.div_add_mod N b;rw[Nat.add_mul,Nat.mul_comm (N/b) b,Nat.mul_assoc,Nat.mul_add];omega
theorem QV {xs cur:List Nat}{b k R N:Nat}(h:BI xs cur b (k+1) R)(_hk:k<xs.length)(hN:N=xs.getD k 0+65536*R)(hlt:N<b):BI xs cur b k N:=by
 obtain⟨h1,h2,h3,h4,h5⟩:=h;refine⟨h1,h2,fun j hj=>h3 j (by omega),hlt, ?_⟩
 rw[iy 65536 xs k,iy 65536 cur k,h3 k (by omega),h5,Nat.zero_add,Nat.mul_add,Nat.mul_assoc];omega
theorem Vo {xs cur:List Nat}{b R:Nat}(h:BI xs cur b 0 R):Dg.vl 65536 xs/b=Dg.vl 65536 cur∧Dg.vl 65536 xs % b=R:=by
 obtain⟨h1,h2,h3,h4,h5⟩:=h;simp only[List.drop_zero] at h5;rw[h5,Nat.mul_comm];exact⟨by rw[Nat.mul_add_div (by omega),Nat.div_eq_of_lt h4];omega,by rw[Nat.mul_add_mod,Nat.mod_eq_of_lt h4]⟩
theorem NG {b d N:Nat}(h1:N/b≤d)(h2:b*d≤N)(hb:0<b):d=N/b:=by
 have:d≤N/b:=by rw[Nat.le_div_iff_mul_le hb,Nat.mul_comm];exact h2
 omega
theorem QW {b d N:Nat}(h1:N/b≤d)(h2: ¬b*d≤N)(_hb:0<b):N/b+1≤d:=by
 rcases Nat.lt_or_ge (N/b) d with h|h
 ·exact h
 ·exfalso
  apply h2;have e:d=N/b:=by omega
  rw[e];exact Nat.mul_div_le N b
open Go.RowKit
theorem Ho {P:Program}{w:World}{base e:Nat}{k:IntKind}{v u:Value}{xs ys:List Nat}(t ty:Nat)(i:TypeInfo)(bytes:Nat)(ht:P.underlying t=some (.slice e))(hi:P.info? e=some i)
  (hz:i.zero=some (.int k 0)) (hsize:i.size=1) (hby:i.bytes=bytes) (hb8:bytes≤8)
  (ho:Own w base e k v xs) (hr:Rd w k u ys) (hl:xs.length+ys.length≤3000000) (hbase:base≤w.heap.size):
  ∃v' w',(Builtin.append_ #[t,t] ty #[v,u]).run P w= .ok v' w'∧Own w' base e k v' (xs++ys)∧w.grownBy w' v.ownBlock:=by
 obtain⟨ao,cap,rfl,h1,h2,h3⟩:=hr
 cases ao with
 |none=>
  have hy:ys.length=0:=by
   rcases Nat.eq_zero_or_pos ys.length with e|e
   ·exact e
   ·obtain⟨b,off,e2,_⟩:=h3 e;cases e2
  have hyn:ys=[]:=List.length_eq_zero_iff.1 hy;subst hyn;refine⟨v,w, ?_,by rw[List.append_nil];exact ho,ib _ _⟩
  rcases ho.2 with⟨rfl,_⟩| ⟨g,cap',cur,rfl,_,_,hnc,_⟩
  ·simp[Builtin.append_,run_underlying ht,sizeOf,typeInfo,hi,Builtin.lenOf,Builtin.firstCells]
  ·simp[Builtin.append_,run_underlying ht,sizeOf,typeInfo,hi,Builtin.lenOf,Builtin.firstCells,hnc,storeCells]
 |some ad=>
  obtain⟨v',w',r1,r2,r3,_⟩:=run_append_own (P:=P) (w:=w) base t ty e i (.int k 0) 1 bytes ht hi hz hsize hby rfl (by omega) v xs.length _ ho ad ys.length cap (ys.map (fun n:Nat=>Value.int k (n:Int))) (by simp) (fun j u hj=>by
    have hjl:j<ys.length:=by
     have:=(List.getElem?_eq_some_iff.1 hj).1
     simpa using this
    obtain⟨b,off,e2,hc⟩:=h3 (by omega)
    cases e2
    rw[rO,hc j hjl];rw[←hj,j9 k ys j hjl]) (fun u hu=>by
    obtain⟨n,_,rfl⟩:=List.mem_map.1 hu;rfl) (by unfold maxLen;omega) (Nat.le_trans (Nat.mul_le_mul (show xs.length+ys.length≤3000000 from hl) hb8) (by omega)) hbase
  exact⟨v',w',r1,by unfold Own;rw[List.map_append,List.length_append];exact r2,r3⟩
theorem kq {P:Program}{ops:Array Oper}{rest:List Oper}{o:Oper}{a:Act}{w:World}{Q:Exit→Act→World→Prop}(hgd:o.guard=none)(s x:Operand)(t:TypeId)
  (ho:o.op= .call {callee:= .builtin .append,args:= #[s,x],argTypes:= #[t,t]}) (v u v':Value) (w':World) (hs:a.eval s=v) (hx:a.eval x=u)
  (hr:(Builtin.append_ #[t,t] o.type #[v,u]).run P w= .ok v' w') (h:wpList P ops Q rest (a.put o.dst v') w'):wpList P ops Q (o::rest) a w:=by
 refine wpList_plain hgd fun K hK=> ?_
 unfold Oper.wp execOp;simp only[ho,resolve,invoke,builtin,Sem.run_bind,Sem.run_pure,Result.andThen_ok,List.map_toArray,List.map_cons,List.map_nil,hs,hx,hr];exact hK _ _ h
theorem Lt (va vb:Value)(xs ys:List Nat)(w:World)(ha:Rd w .i64 va xs)(hb:Rd w .i64 vb ys)(sa:Dg.Small 65536 xs)(sb:Dg.Small 65536 ys)(hla:xs.length≤2000000)(hlb:ys.length≤xs.length)(hv:Dg.vl 65536 ys≤Dg.vl 65536 xs):
  yC 79 #[va,vb] w (Si w (Dg.vl 65536 xs-Dg.vl 65536 ys)):=by
 obtain⟨ao,ca,rfl,-,-,hca⟩:=ha;obtain⟨bo,cb,rfl,-,-,hcb⟩:=hb;obtain⟨i0,hi,hz0,hz1,hz2⟩:=info_parts Tryz.infoI64;have HV:Hid (Dg.vl 65536 ys≤Dg.vl 65536 xs):=hv;clear hv
 go_enter func79,ntmps79
 go_wp2
 go_loopw [5,6,7] (fun ov cv iv wr=> ∃(k c:Nat) (ps:List Nat),k≤xs.length∧iv=yi k∧cv=yi c∧Own wr w.heap.size 3 .i64 ov ps∧QA xs ys ps k c∧yB w wr) (fun _ _ iv _=>xs.length-(intOf iv).toNat)
 case atStart=>exact⟨0,0,[],by omega,rfl,rfl,aQ _ _ _ _,⟨rfl,Dg.small_nil _ (by omega),by omega,by simp[Dg.vl]⟩,Below.refl _ _⟩
 case round=>
  obtain⟨k,c,ps,hk,rfl,rfl,own,hI,bel⟩:=hrel;have hcl:=hI.2.2.1;have hpl:=hI.1;have hbs:=bel.size
  by_cases hlt:k<xs.length
  ·obtain⟨b,off,rfl,hcella⟩:=hca (by omega)
   have hcell:=cell_later bel (hcella k hlt);have hxl:=sa k;have hyl:=sb k;have hy0: ¬k<ys.length→ys.getD k 0=0:=fun h=>Dg.getD_of_le _ _ (by omega)
   have hst: ∀d c',d<65536→c'≤1→xs.getD k 0+65536*c'=d+ys.getD k 0+c→QA xs ys (ps++[d]) (k+1) c':=fun d c' h1 h2 h3=>I1 hI h1 h2 h3
   have hcy:k<ys.length→ ∃b off,bo=some ⟨b,off,none⟩∧wr.cell? ⟨b,off+k,none⟩=some (yi ((ys.getD k 0:Nat):Int)):=fun h=>by
    obtain⟨b,off,e,hcell⟩:=hcb (by omega);exact⟨b,off,e,cell_later bel (hcell k h)⟩
   obtain⟨x,ex⟩: ∃x,xs.getD k 0=x:=⟨_,rfl⟩;obtain⟨y,ey⟩: ∃y,ys.getD k 0=y:=⟨_,rfl⟩;rw[ex] at hxl hst hcell;rw[ey] at hyl hy0 hst hcy;have Hst:Hid _:=hst;have Hpl:Hid (ps.length=k):=hpl;have hpl2:ps.length≤2000000:=by omega
   clear ex ey hca hcb hI hst hpl hcella;have fin: ∀(T:Int) (d:Nat),T=((d:Nat):Int)→ ∀v' w3,w3.ownsRow w.heap.size 3 1 v' (ps.length+1) ((ps.map (fun n:Nat=>Value.int .i64 (n:Int)))++[yi T])→(wr.alloc (.cells #[yi T] 3)).grownBy w3 (Value.ownBlock u5)→
     Own w3 w.heap.size 3 .i64 v' (ps++[d])∧yB w w3:=by
    intro T d hT v' w3 h1 h2;rw[hT] at h1 h2;exact iW bel own h1 h2
   by_cases h2:k<ys.length
   ·obtain⟨b2,off2,rfl,hcell2⟩:=hcy h2
    clear hcy hy0
    by_cases hneg:x<y+c
    ·have hneg2:((x:Int)-(c:Int)-(y:Int))<0:=by omega
     go_wp2_with (at_builtin;refine wpList_append_own _ rfl _ _ 29 rfl w.heap.size 3 i0 (yi 0) 1 8 underlying29 hi hz0 hz1 hz2 rfl (by decide) _ _ _ rfl (World.ownsRow.alloc own _) ⟨wr.heap.size,0,none⟩ 1 1 [yi ((x:Int)-(c:Int)-(y:Int)+65536)] rfl rfl ?c1 ?c2 ?c3 ?c4 ?c5 ?_)
     try (case c1=>exact cell_one_new _ _ _)
     case c2=>first|rfl| (intro u hu;simp at hu;subst hu;rfl)| (simp;done)| (simp[Value.oneCell'];done)| (trace_state;fail)
     case c3=>unfold maxLen;omega
     case c4=>omega
     case c5=>first|omega| (simp;omega)
     intro v' w3 hown' hgrow _;have R:=fin _ (x+65536-y-c) (by omega) v' w3 hown' hgrow;clear hown' hgrow own fin
     go_wp2
     go_roundw
     case rel=>exact⟨k+1,1,_,by omega,by go_num,by go_num,R.1,Hst.out _ _ (by omega) (by omega) (by omega),R.2⟩
     case measure=>simp[intOf];omega
    ·have hneg2: ¬((x:Int)-(c:Int)-(y:Int))<0:=by omega
     go_wp2_with (at_builtin;refine wpList_append_own _ rfl _ _ 29 rfl w.heap.size 3 i0 (yi 0) 1 8 underlying29 hi hz0 hz1 hz2 rfl (by decide) _ _ _ rfl (World.ownsRow.alloc own _) ⟨wr.heap.size,0,none⟩ 1 1 [yi ((x:Int)-(c:Int)-(y:Int))] rfl rfl ?d1 ?d2 ?d3 ?d4 ?d5 ?_)
     try (case d1=>exact cell_one_new _ _ _)
     case d2=>first|rfl| (intro u hu;simp at hu;subst hu;rfl)| (simp;done)| (simp[Value.oneCell'];done)| (trace_state;fail)
     case d3=>unfold maxLen;omega
     case d4=>omega
     case d5=>first|omega| (simp;omega)
     intro v' w3 hown' hgrow _;have R:=fin _ (x-y-c) (by omega) v' w3 hown' hgrow;clear hown' hgrow own fin
     go_wp2
     go_roundw
     case rel=>exact⟨k+1,0,_,by omega,by go_num,by go_num,R.1,Hst.out _ _ (by omega) (by omega) (by omega),R.2⟩
     case measure=>simp[intOf];omega
   ·have hy:=hy0 h2
    subst hy;clear hcy hy0
    by_cases hneg:x<c
    ·have hneg2:((x:Int)-(c:Int))<0:=by omega
     go_wp2_with (at_builtin;refine wpList_append_own _ rfl _ _ 29 rfl w.heap.size 3 i0 (yi 0) 1 8 underlying29 hi hz0 hz1 hz2 rfl (by decide) _ _ _ rfl (World.ownsRow.alloc own _) ⟨wr.heap.size,0,none⟩ 1 1 [yi ((x:Int)-(c:Int)+65536)] rfl rfl ?e1 ?e2 ?e3 ?e4 ?e5 ?_)
     try (case e1=>exact cell_one_new _ _ _)
     case e2=>first|rfl| (intro u hu;simp at hu;subst hu;rfl)| (simp;done)| (simp[Value.oneCell'];done)| (trace_state;fail)
     case e3=>unfold maxLen;omega
     case e4=>omega
     case e5=>first|omega| (simp;omega)
     intro v' w3 hown' hgrow _;have R:=fin _ (x+65536-c) (by omega) v' w3 hown' hgrow;clear hown' hgrow own fin
     go_wp2
     go_roundw
     case rel=>exact⟨k+1,1,_,by omega,by go_num,by go_num,R.1,Hst.out _ _ (by omega) (by omega) (by omega),R.2⟩
     case measure=>simp[intOf];omega
    ·have hneg2: ¬((x:Int)-(c:Int))<0:=by omega
     go_wp2_with (at_builtin;refine wpList_append_own _ rfl _ _ 29 rfl w.heap.size 3 i0 (yi 0) 1 8 underlying29 hi hz0 hz1 hz2 rfl (by decide) _ _ _ rfl (World.ownsRow.alloc own _) ⟨wr.heap.size,0,none⟩ 1 1 [yi ((x:Int)-(c:Int))] rfl rfl ?f1 ?f2 ?f3 ?f4 ?f5 ?_)
     try (case f1=>exact cell_one_new _ _ _)
     case f2=>first|rfl| (intro u hu;simp at hu;subst hu;rfl)| (simp;done)| (simp[Value.oneCell'];done)| (trace_state;fail)
     case f3=>unfold maxLen;omega
     case f4=>omega
     case f5=>first|omega| (simp;omega)
     intro v' w3 hown' hgrow _;have R:=fin _ (x-c) (by omega) v' w3 hown' hgrow;clear hown' hgrow own fin
     go_wp2
     go_roundw
     case rel=>exact⟨k+1,0,_,by omega,by go_num,by go_num,R.1,Hst.out _ _ (by omega) (by omega) (by omega),R.2⟩
     case measure=>simp[intOf];omega
  ·have hke:k=xs.length:=by omega
   subst hke;have hen:=Nl hI hlb HV.out;have hps:=hI.2.1;have hpl2:ps.length≤2000000:=by omega
   clear hpl;obtain⟨oo,oc,rfl⟩:=own.rd.shape
   go_wp2_with fail
   refine(i9 _ _ _ _ _ own.rd).mono ?_;rintro e w' ⟨n,rfl,hn,rfl⟩;have hnl:=hn.1;have hr:=uE (cap':=n) 65536 (by omega) own.rd hps hn (Nat.le_refl _) (by unfold maxLen;omega);rw[hen] at hr;clear hn hen
   go_wp2
   go_ret
   exact⟨_,rfl,hr,LP (JH own) n n,bel⟩
def aeu (w:World)(xs:List Nat)(b k R:Nat)(cur:List Nat)(rv:Value)(wr:World):Prop:=
 Own wr w.heap.size 3 .i64 (.slice (some ⟨w.heap.size,0,none⟩) xs.length xs.length) cur∧Rd wr .i64 rv (Dg.dg 65536 R)∧BI xs cur b k R∧yB w wr
def aev (W5:World)(g1 n1 Q:Nat)(rv dv:Value)(wq:World):Prop:=
 rv= .slice (some ⟨g1,0,none⟩) n1 n1∧ ∃d:Nat,Q≤d∧d≤65535∧dv=yi d∧yB W5 wq
def sJ (rs:List Nat)(n:Nat):Nat→Nat
 |0=>0
 |j+1=>65536*sJ rs n j+rs.getD (n-j) 0
theorem Wm {rs:List Nat}(h:Dg.Small 65536 rs)(n j:Nat):sJ rs n j<65536^j:=by
 induction j with
 |zero=>simp[sJ]
 |succ j ih=>
  have:=h (n-j);simp only[sJ,Nat.pow_succ];omega
theorem aaD (w:World)(base e d:Nat)(hb:base≤w.heap.size):Own (w.alloc (.cells #[yi d] e)) base e .i64 (.slice (some ⟨w.heap.size,0,none⟩) 1 1) [d]:=
 World.ownsRow_lit (e:=e) (size:=1) (base:=base) w #[yi d] 1 hb (by unfold maxLen;omega) rfl
theorem Ti {a b:Int}(h:b≤a):decide (dm a b<0)=false:=by
 unfold dm;rw[if_neg (by omega)]
 by_cases h2:b<a
 ·rw[if_pos h2];rfl
 ·rw[if_neg h2];rfl
theorem Wn {a b:Int}(h:a≤b):dm a b≤0:=by
 unfold dm
 by_cases h1:a<b
 ·rw[if_pos h1];omega
 ·rw[if_neg h1,if_neg (by omega)];omega
theorem Wo {w:World}{k:IntKind}{g n c:Nat}{zs:List Nat}(h:Rd w k (.slice (some ⟨g,0,none⟩) n c) zs)(i:Nat)(hi:i<zs.length):w.cell? ⟨g,i,none⟩=some (.int k ((zs.getD i 0:Nat):Int)):=by
 have hn:=wn h;subst hn;obtain⟨_,_,h3⟩:=iQ h;obtain⟨b,off,e,hc⟩:=h3 (by omega)
 cases e
 have:=hc i hi
 rwa [Nat.zero_add] at this
theorem Tj (va vb:Value)(xs bs:List Nat)(w:World)(ha:Rd w .i64 va xs)(hb:Rd w .i64 vb bs)(sa:Dg.Small 65536 xs)(sb:Dg.Small 65536 bs)(nb:Dg.Norm bs)(hla:xs.length≤900000)(hlb:bs.length≤900000)(hb2:2≤bs.length):
  yC 35 #[va,vb] w fun e w'=> ∃vq vr,e= .returned (.tuple #[vq,vr])∧Rd w' .i64 vq (Dg.dg 65536 (Dg.vl 65536 xs/Dg.vl 65536 bs))∧Rd w' .i64 vr (Dg.dg 65536 (Dg.vl 65536 xs % Dg.vl 65536 bs))∧yB w w':=by
 obtain⟨i0,hi,hz0,hz1,hz2⟩:=info_parts Tryz.infoI64;have hbne:bs≠[]:=by intro e;rw[e] at hb2;simp at hb2
 have hb0:0<Dg.vl 65536 bs:=Nat.pos_of_ne_zero (Dg.vl_ne_zero 65536 (by omega) bs hbne nb);have HB:Hid (Rd w .i64 vb bs):=hb;have HCM:Hid (∀v u x y w1,Rd w1 .i64 v (Dg.dg 65536 x)→Rd w1 .i64 u (Dg.dg 65536 y)→yC 54 #[v,u] w1 (yR w1 (yi (dm x y)))):=fun v u x y w1 r q=>by
  have:=fm v u _ _ w1 r q (Dg.small_dg _ _ (by omega)) (Dg.small_dg _ _ (by omega)) (Dg.norm_dg _ _ (by omega)) (Dg.norm_dg _ _ (by omega))
  rwa [Dg.vl_dg _ _ (by omega),Dg.vl_dg _ _ (by omega)] at this
 have hbd:=Dg.eq_dg 65536 (by omega) bs _ sb nb rfl;have HBC:Hid (∀v x w1,yB w w1→Rd w1 .i64 v (Dg.dg 65536 x)→yC 54 #[v,vb] w1 (yR w1 (yi (dm x (Dg.vl 65536 bs))))):=fun v x w1 b r=>
  HCM.out v vb x _ w1 r (by rw[←hbd];exact hb.l b)
 have HTM:Hid (∀v d w1,d<65536→yB w w1→Rd w1 .i64 v (Dg.dg 65536 d)→yC 34 #[vb,v] w1 (cG w1 (Dg.vl 65536 bs*d))):=fun v d w1 hd b r=>by
  have hl:(Dg.dg 65536 d).length≤1:=Dg.dg_len_le 65536 d 1 (by omega) (by omega);have:=fN vb v bs _ w1 (hb.l b) r sb (Dg.small_dg _ _ (by omega)) (by omega) (by omega)
  rwa [Dg.vl_dg _ _ (by omega)] at this
 have HLS:Hid (∀v u x y w1,(Dg.dg 65536 x).length≤1000000→y≤x→Rd w1 .i64 v (Dg.dg 65536 x)→Rd w1 .i64 u (Dg.dg 65536 y)→yC 79 #[v,u] w1 (Si w1 (x-y))):=fun v u x y w1 hl hxy r q=>by
  have h5:=Dg.vl_lt 65536 _ (Dg.small_dg 65536 x (by omega));rw[Dg.vl_dg _ _ (by omega)] at h5;have:=Lt v u _ _ w1 r q (Dg.small_dg _ _ (by omega)) (Dg.small_dg _ _ (by omega)) (by omega) (Dg.dg_len_le 65536 y _ (by omega) (Nat.lt_of_le_of_lt hxy h5)) (by rw[Dg.vl_dg _ _ (by omega),Dg.vl_dg _ _ (by omega)];exact hxy)
  rwa [Dg.vl_dg _ _ (by omega),Dg.vl_dg _ _ (by omega)] at this
 clear hbd;obtain⟨ao,ca,rfl,-,-,hca⟩:=ha;obtain⟨bo,cb,rfl,-,-,hcb⟩:=hb;have hl1:((bs.length:Int)==1)=false:=by simp;omega
 go_enter func35,ntmps35
 go_wp2_with (at_make;refine wpList_make_full _ rfl _ _ 29 rfl w.heap.size 3 i0 (yi 0) 1 underlying29 hi hz0 hz1 _ _ _ _ xs.length rfl rfl (by omega) (by omega) ?b2 ?b3 (Nat.le_refl _) ?_)
 case b2=>rw[hz2];omega
 case b3=>unfold maxLen;omega
 intro w0 hown0 hgrow0;have own0:=gL hown0;have bel0:yB w w0:=(Below.refl _ _).grown hgrow0 (Nat.le_refl _) (fun k h=>by cases h)
 clear hown0 hgrow0
 go_wp2
 go_loopw [10,11] (fun rv iv wr=> ∃(k R:Nat) (cur:List Nat),k≤xs.length∧iv=yi ((k:Int)-1)∧aeu w xs (Dg.vl 65536 bs) k R cur rv wr)
  (fun _ iv _=>(intOf iv+1).toNat)
 case atStart=>exact⟨xs.length,0,_,Nat.le_refl _,rfl,own0,(aQ _ 0 0 .i64).rd,NF xs _ hb0,bel0⟩
 case round=>
  clear own0 bel0;obtain⟨k,R,cur,hk,rfl,own,hR,hI,bel⟩:=hrel
  by_cases hk0:k=0
  ·subst hk0
   obtain⟨e1,e2⟩:=Vo hI;have hcl:cur.length≤1000000:=by have:=hI.1;omega
   have hcs:=hI.2.1;have HE1:Hid (Dg.vl 65536 xs/Dg.vl 65536 bs=Dg.vl 65536 cur):=e1;have HE2:Hid (Dg.vl 65536 xs % Dg.vl 65536 bs=R):=e2;clear e1 e2 hI
   go_wp2_with fail
   refine(i9 _ _ _ cur _ own.rd).mono ?_;rintro e w' ⟨m,rfl,hm,rfl⟩;have rq:=xh own hcs hm (by omega)
   go_wp2
   go_ret2
   exact⟨_,_,rfl,by rw[HE1.out];exact rq,by rw[HE2.out];exact hR,bel⟩
  ·obtain⟨m,rfl⟩: ∃m,k=m+1:=⟨k-1,by omega⟩
   obtain⟨ab,aoff,rfl,hcell⟩:=hca (by omega);have hx:=cell_later bel (hcell m (by omega));have hxl:=sa m;obtain⟨N,hN⟩: ∃N,N=xs.getD m 0+65536*R:=⟨_,rfl⟩;obtain⟨hNlt,hset⟩:=Vn hI (by omega) hN hb0 hxl;have hskip:=fun h:N<Dg.vl 65536 bs=>QV hI (by omega) hN h
   have hRb:=hI.2.2.2.1;have hcl:=hI.1;obtain⟨x,ex⟩: ∃x,xs.getD m 0=x:=⟨_,rfl⟩;rw[ex] at hx hxl hN;have a1:yB wr (wr.alloc (.cells #[yi (x:Int)] 3)):=(Below.refl _ _).alloc (Nat.le_refl _) _;have own1:=aaD wr wr.heap.size 3 x (Nat.le_refl _);have hRl:(Dg.dg 65536 R).length≤bs.length:=Dg.dg_len_le 65536 R bs.length (by omega) (Nat.lt_trans hRb (Dg.vl_lt 65536 bs sb));obtain⟨v1,w1,hrun,own2,gr⟩:=Ho (P:=Tryz.prog) 29 29 i0 8 underlying29 hi hz0 hz1 hz2 (Nat.le_refl _) own1 (hR.l a1) (by simp only[List.length_cons,List.length_nil];omega) (by simp);have b1:yB wr w1:=a1.grown gr a1.size (fun k hk=>by cases hk;exact Nat.le_refl _)
   have hs2:Dg.Small 65536 ([x]++Dg.dg 65536 R):=Dg.small_cons.2 ⟨hxl,Dg.small_dg _ _ (by omega)⟩;have hv2:Dg.vl 65536 ([x]++Dg.dg 65536 R)=N:=by rw[List.singleton_append];simp only[Dg.vl];rw[Dg.vl_dg _ _ (by omega),hN]
   obtain⟨g1,c1,rfl,-,-⟩:=World.ownsRow.form own2 (by simp);have r2:=own2.rd;have hl2:([x]++Dg.dg 65536 R).length≤1000000:=by simp only[List.length_append,List.length_cons,List.length_nil];omega
   have own:=own.l b1;have bel:=aa bel b1;have HSET:Hid (BI xs (cur.set m (N/Dg.vl 65536 bs)) (Dg.vl 65536 bs) m (N % Dg.vl 65536 bs)):=hset;have HSKIP:Hid (N<Dg.vl 65536 bs→BI xs cur (Dg.vl 65536 bs) m N):=hskip;have HNLT:Hid (N<65536*Dg.vl 65536 bs):=hNlt;have HV2:Hid (Dg.vl 65536 ([x]++Dg.dg 65536 R)=N):=hv2;have HS2:Hid (Dg.Small 65536 ([x]++Dg.dg 65536 R)):=hs2;clear hset hskip hNlt hv2 hs2 own2 gr a1 own1 hR hI ex hN hcell hRb hRl b1
   go_wp2_with (at_builtin;refine kq (by rfl) _ _ 29 (by rfl) _ _ _ w1 (by rfl) (by rfl) hrun ?_)
   go_wp2_with fail
   refine(i9 _ _ _ _ _ r2).mono ?_;rintro e w' ⟨n1,rfl,htr,rfl⟩;have hml:=htr.1;have r1:=uE (cap':=n1) 65536 (by omega) r2 HS2.out htr (Nat.le_refl _) (by unfold maxLen;omega);rw[HV2.out] at r1;clear htr r2 HS2 HV2 hrun;have HN1:Hid (n1=(Dg.dg 65536 N).length):=wn r1
   by_cases hlt:N<Dg.vl 65536 bs
   ·have hI2:=HSKIP.out hlt
    go_wp2_with fail
    refine(HBC.out _ N _ bel r1).mono ?_;rintro e w2 ⟨rfl,b2⟩;rw[gX (by omega)];have own:=own.l b2;have r2:=r1.l b2;have bel:=aa bel b2
    go_wp2
    go_roundw
    case rel=>exact⟨m,N,cur,by omega,by go_num,own,r2,hI2,bel⟩
    case measure=>simp[intOf]
   ·have hd:=Ti (a:=(N:Int)) (b:=(Dg.vl 65536 bs:Int)) (by omega)
    obtain⟨cr,hcr⟩: ∃cr,dm (N:Int) (Dg.vl 65536 bs:Int)=cr:=⟨_,rfl⟩;rw[hcr] at hd;have HCR:Hid (dm (N:Int) (Dg.vl 65536 bs:Int)=cr):=hcr;clear hcr
    go_wp2_with fail
    refine(HBC.out _ N _ bel r1).mono ?_;rintro e w2 ⟨rfl,b2⟩;rw[HCR.out];have own:=own.l b2;have r2:=r1.l b2;have bel:=aa bel b2;obtain⟨-,-,hcb2⟩:=iQ (HB.out.l bel);obtain⟨bb,boff,rfl,hcellb⟩:=hcb2 (by omega);have e1:=hcellb (bs.length-1) (by omega);have e0:=hcellb (bs.length-2) (by omega);have hd1:=sb (bs.length-1);have hd0:=sb (bs.length-2);obtain⟨d1,ed1⟩: ∃d1,bs.getD (bs.length-1) 0=d1:=⟨_,rfl⟩;obtain⟨d0,ed0⟩: ∃d0,bs.getD (bs.length-2) 0=d0:=⟨_,rfl⟩;have hgs:=Zu (Dg.dg 65536 N) bs bs.length N (Dg.vl 65536 bs) (sJ (Dg.dg 65536 N) bs.length 3) (d1*65536+d0) hb2 rfl (Dg.small_dg _ _ (by omega)) nb (Dg.vl_dg _ _ (by omega)) rfl (Dg.dg_len_le 65536 N _ (by omega) (by
     have h5:=Dg.vl_lt 65536 bs sb;have h6:=HNLT.out;rw[Nat.pow_succ];omega)) HNLT.out (by simp[sJ]) (by rw[ed1,ed0])
    rw[ed1] at e1 hd1;rw[ed0] at e0 hd0;have n1':((bs.length:Int)-1)=((bs.length-1:Nat):Int):=by omega
    have n2':((bs.length:Int)-2)=((bs.length-2:Nat):Int):=by omega
    have hi1:((bs.length-1:Nat):Int)< (bs.length:Int):=by omega
    have hi2:((bs.length-2:Nat):Int)< (bs.length:Int):=by omega
    have HGS:Hid _:=hgs;clear hgs ed1 ed0 hcellb hcb2 HCR
    go_wp2
    go_quiet (fail)
    go_wp2
    have bq:yB w2 (w2.drewN nq):=aL (Below.refl _ _) nq;have own:=own.l bq;have r2:=r2.l bq;have bel:=aa bel bq;obtain⟨W3,hW3⟩: ∃W3,w2.drewN nq=W3:=⟨_,rfl⟩;rw[hW3] at own r2 bel;have HW3:Hid (w2.drewN nq=W3):=hW3;rw[hW3];clear hW3 bq b2
    go_loopw [12,14] (fun tv jv wq=>wq=W3∧ ∃j:Nat,j≤3∧jv=yi j∧tv=yi (sJ (Dg.dg 65536 N) bs.length j)) (fun _ jv _=>3-(intOf jv).toNat)
    case atStart=>exact⟨rfl,0,by omega,rfl,rfl⟩
    case round=>
     obtain⟨hwq,j,hj,rfl,rfl⟩:=hrel;subst hwq;have hT:=Wm (Dg.small_dg 65536 N (by omega)) bs.length j;have hTj:j<3→sJ (Dg.dg 65536 N) bs.length j<4294967296:=fun h=>Nat.lt_of_lt_of_le hT (Nat.pow_le_pow_right (n:=65536) (by omega) (show j≤2 by omega))
     have hTs:sJ (Dg.dg 65536 N) bs.length (j+1)=65536*sJ (Dg.dg 65536 N) bs.length j+(Dg.dg 65536 N).getD (bs.length-j) 0:=rfl;have hDl:=Dg.small_dg 65536 N (by omega) (bs.length-j);have hD0: ¬bs.length-j<n1→(Dg.dg 65536 N).getD (bs.length-j) 0=0:=fun h=>Dg.getD_of_le _ _ (by rw[←HN1.out];omega)
     have hDc:bs.length-j<n1→wr.cell? ⟨g1,bs.length-j,none⟩=some (yi (((Dg.dg 65536 N).getD (bs.length-j) 0:Nat):Int)):=fun h=>Wo r2 _ (by rw[←HN1.out];exact h)
     by_cases hj3:j<3
     ·have hTl:=hTj hj3
      obtain⟨T,hTe⟩: ∃T,sJ (Dg.dg 65536 N) bs.length j=T:=⟨_,rfl⟩;obtain⟨D,hDe⟩: ∃D,(Dg.dg 65536 N).getD (bs.length-j) 0=D:=⟨_,rfl⟩;rw[hTe] at hTs hTl⊢;rw[hDe] at hTs hDl hD0 hDc;obtain⟨i,hie⟩: ∃i,bs.length-j=i:=⟨_,rfl⟩;have hiI:((bs.length:Int)-(j:Int))=(i:Int):=by omega
      rw[hie] at hD0 hDc;have HTS:Hid (sJ (Dg.dg 65536 N) bs.length (j+1)=65536*T+D):=hTs;clear hT hTj hTs hTe hDe hie
      by_cases hat:i<n1
      ·have hDc:=hDc hat
       clear hD0
       go_wp2
       go_roundw
       case rel=>exact⟨trivial,j+1,by omega,by go_num,by rw[HTS.out];go_num⟩
       case measure=>simp[intOf];omega
      ·have hD:=hD0 hat
       subst hD;clear hDc hD0
       go_wp2
       go_roundw
       case rel=>exact⟨trivial,j+1,by omega,by go_num,by rw[HTS.out];go_num⟩
       case measure=>simp[intOf];omega
     ·have hj4:j=3:=by omega
      subst hj4;clear hTj hTs hDl hD0 hDc hj hj3;have hTl:sJ (Dg.dg 65536 N) bs.length 3<281474976710656:=Nat.lt_of_lt_of_le hT (by decide);clear hT;obtain⟨T,hTe⟩: ∃T,sJ (Dg.dg 65536 N) bs.length 3=T:=⟨_,rfl⟩;rw[hTe] at HGS hTl⊢;clear hTe;have hq1:(T:Int).tdiv ((d1:Int)*65536+(d0:Int)+1)=((T/(d1*65536+d0+1):Nat):Int):=by
       rw[Int.tdiv_eq_ediv_of_nonneg (by omega)];exact(Int.natCast_ediv T (d1*65536+d0+1)).symm
      have hq2:(T:Int)/((d1:Int)*65536+(d0:Int)+1)=((T/(d1*65536+d0+1):Nat):Int):=(Int.natCast_ediv T (d1*65536+d0+1)).symm;have hql:T/(d1*65536+d0+1)≤T:=Nat.div_le_self _ _;obtain⟨q,hqe⟩: ∃q,T/(d1*65536+d0+1)=q:=⟨_,rfl⟩;rw[hqe] at HGS hq1 hq2 hql;have hne:(((d1:Int)*65536+(d0:Int)+1)==0)=false:=by simp;omega
      clear hqe
      go_wp2
      obtain⟨D,hD⟩: ∃D:Nat,min (65535:Int) (max 0 ((q:Int)-1)+4)=(D:Int):=⟨(min (65535:Int) (max 0 ((q:Int)-1)+4)).toNat,by omega⟩;have HD1:Hid (N/Dg.vl 65536 bs≤D∧D≤65535):=⟨by have:=HGS.out;omega,by omega⟩;have HD2:Hid (min (65535:Int) (max 0 ((q:Int)-1)+4)=(D:Int)):=hD;clear hD HGS hq1 hq2 hql hne hTl;obtain⟨W5,rfl⟩: ∃W5,W5=wr:=⟨_,rfl⟩
      go_loopw [10,17] (fun rv dv wq=>aev W5 g1 n1 (N/Dg.vl 65536 bs) rv dv wq) (fun _ dv _=>(intOf dv).toNat)
      case atStart=>exact⟨rfl,D,HD1.out.1,HD1.out.2,by rw[HD2.out],Below.refl _ _⟩
      case round=>
       obtain⟨rfl,d,hg1,hg2,rfl,b5⟩:=hrel;have own5:=own.l b5;have r5:=r2.l b5;have bel5:=aa bel b5;have hNl:(Dg.dg 65536 N).length≤1000000:=by rw[←HN1.out];omega
       clear HD1 HD2
       by_cases hle:Dg.vl 65536 bs*d≤N
       ·have hdq:=NG hg1 hle hb0
        have hcle:=Wn (a:=((Dg.vl 65536 bs*d:Nat):Int)) (b:=(N:Int)) (Int.ofNat_le.2 hle);obtain⟨cz,hcz⟩: ∃cz,dm ((Dg.vl 65536 bs*d:Nat):Int) (N:Int)=cz:=⟨_,rfl⟩;rw[hcz] at hcle;have HCZ:Hid (dm ((Dg.vl 65536 bs*d:Nat):Int) (N:Int)=cz):=hcz;have HLE:Hid (Dg.vl 65536 bs*d≤N):=hle;have HDQ:Hid (d=N/Dg.vl 65536 bs):=hdq;clear hcz hle hdq
        go_wp2_with fail
        refine(Bj d _ (by omega)).mono ?_;rintro e w6 ⟨v6,rfl,r6,b6⟩;have bel6:=aa bel5 b6
        go_wp2_with fail
        refine(HTM.out _ d _ (by omega) bel6 r6).mono ?_;rintro e w7 ⟨v7,rfl,r7,b7⟩;have b57:=aa b6 b7;have bel7:=aa bel5 b57;have r57:=r5.l b57;clear bel6 r6 b6 b7
        go_wp2_with fail
        refine(HCM.out _ _ _ _ _ r7 r57).mono ?_;rintro e w8 ⟨rfl,b8⟩;rw[HCZ.out];have r7:=r7.l b8;have r58:=r57.l b8;have bel8:=aa bel7 b8;have own8:=(own5.l b57).l b8;clear r57 bel7 b57 HCZ own5
        go_wp2_with fail
        refine(HLS.out _ _ _ _ _ hNl HLE.out r58 r7).mono ?_;rintro e w9 ⟨v9,rfl,r9,f9,b9⟩;have own9:=own8.l b9;have bel9:=aa bel8 b9;have hq9:=own9.c m (by omega);have hf9:=own9.f m;have hs9:w.heap.size<w8.heap.size:=by have:=own8.block;omega
        have own10:=own9.store m d;have r10:=r9.set_far (g:=w.heap.size) (j:=m) f9 hs9 (yi (d:Int));have bel10:=bel9.setCell (p:=⟨w.heap.size,m,none⟩) (Nat.le_refl _) (yi (d:Int));have HN:Hid (N-Dg.vl 65536 bs*d=N % Dg.vl 65536 bs):=by
         rw[HDQ.out];have:=Nat.div_add_mod N (Dg.vl 65536 bs);unfold Hid;omega
        clear r58 r7 bel8 own8 b8 b9 HLE f9 r9 bel9
        go_wp2
        go_roundw
        case rel=>exact⟨m,N % Dg.vl 65536 bs,cur.set m (N/Dg.vl 65536 bs),by omega,by go_num,by rw[←HDQ.out];exact own10,by rw[←HN.out];exact r10,HSET.out,bel10⟩
        case measure=>simp[intOf]
       ·have hdl:=QW hg1 hle hb0
        have hcz:=sO (a:=((Dg.vl 65536 bs*d:Nat):Int)) (b:=(N:Int)) (by omega);have HCZ:Hid (dm ((Dg.vl 65536 bs*d:Nat):Int) (N:Int)=1):=hcz;have HG:Hid (N/Dg.vl 65536 bs≤d-1):=Nat.le_sub_of_add_le hdl;have hd0':0<d:=Nat.lt_of_lt_of_le (Nat.succ_pos _) hdl;clear hcz hle hdl
        go_wp2_with fail
        refine(Bj d _ (by omega)).mono ?_;rintro e w6 ⟨v6,rfl,r6,b6⟩;have bel6:=aa bel5 b6
        go_wp2_with fail
        refine(HTM.out _ d _ (by omega) bel6 r6).mono ?_;rintro e w7 ⟨v7,rfl,r7,b7⟩;have b57:=aa b6 b7;have r57:=r5.l b57;clear bel6 r6 b6 b7
        go_wp2_with fail
        refine(HCM.out _ _ _ _ _ r7 r57).mono ?_;rintro e w8 ⟨rfl,b8⟩;rw[HCZ.out];have b58:=aa (aa b5 b57) b8;clear r57 b57 HCZ own5 r7
        go_wp2
        go_roundw
        case rel=>
         refine⟨_,_,_,_,_,_,_,_,_,_,_,_,_,_,_,_,_,_,_,_,⟨rfl,d-1,HG.out,by omega, ?_,b58⟩,rfl⟩
         go_num
        case measure=>simp[intOf];omega
def JI (w:World)(q r:Nat)(e:Ending)(w':World):Prop:=
 ∃vq vr,e= .returned (.tuple #[vq,vr])∧Rd w' .i64 vq (Dg.dg 65536 q)∧Rd w' .i64 vr (Dg.dg 65536 r)∧yB w w'
theorem qM (va vb:Value)(a b:Nat)(w:World)(ha:Rd w .i64 va (Dg.dg 65536 a))(hb:Rd w .i64 vb (Dg.dg 65536 b))(hla:(Dg.dg 65536 a).length≤900000)(hlb:(Dg.dg 65536 b).length≤900000)(hb0:0<b):
  yC 35 #[va,vb] w (JI w (a/b) (a % b)):=by
 have hne: ¬(Dg.dg 65536 b).length=0:=by rw[List.length_eq_zero_iff,Dg.dg_nil_iff _ _ (by omega)];omega
 by_cases h1:(Dg.dg 65536 b).length=1
 ·obtain⟨d,hd⟩: ∃d,Dg.dg 65536 b=[d]:=List.length_eq_one_iff.1 h1
  have hs:=Dg.small_dg 65536 b (by omega);have hv:=Dg.vl_dg 65536 b (by omega);rw[hd] at hs hv;have hdb:d=b:=by simpa[Dg.vl] using hv
  subst hdb;have:=IU va _ vb d w ha (by rw[←hd];exact hb) (Dg.small_dg _ _ (by omega)) (by omega) hb0 (Dg.small_cons.1 hs).1;rw[Dg.vl_dg _ _ (by omega)] at this;exact this
 ·have:=Tj va vb _ _ w ha hb (Dg.small_dg _ _ (by omega)) (Dg.small_dg _ _ (by omega)) (Dg.norm_dg _ _ (by omega)) hla hlb (by omega)
  rw[Dg.vl_dg _ _ (by omega),Dg.vl_dg _ _ (by omega)] at this;exact this
def Rp (w:World)(q r d:Nat)(e:Ending)(w':World):Prop:=
 ∃v1 v2 v3,e= .returned (.tuple #[v1,v2,v3])∧Rd w' .i64 v1 (Dg.dg 65536 q)∧Rd w' .i64 v2 (Dg.dg 65536 r)∧Rd w' .i64 v3 (Dg.dg 65536 d)∧yB w w'
theorem Jh (n k L j:Nat)(h:(Dg.dg 65536 n).length≤L)(hk:k≤16*j):(Dg.dg 65536 (n*2^k)).length≤L+j:=by
 apply Dg.dg_len_le 65536 _ _ (by omega);have h1:=Dg.vl_lt 65536 (Dg.dg 65536 n) (Dg.small_dg _ _ (by omega));rw[Dg.vl_dg _ _ (by omega)] at h1;have h2:65536^ (Dg.dg 65536 n).length≤65536^L:=Nat.pow_le_pow_right (by omega) h;have h3:2^k≤65536^j:=by
  rw[show(65536:Nat)=2^16 from rfl,←Nat.pow_mul]
  exact Nat.pow_le_pow_right (by omega) hk
 rw[Nat.pow_add];exact Nat.lt_of_lt_of_le (Nat.mul_lt_mul_of_pos_right (Nat.lt_of_lt_of_le h1 h2) (Nat.pow_pos (by omega))) (Nat.mul_le_mul_left _ h3)
theorem GB {N:Nat}{n:Int}(h:(Dg.dg 65536 N).length≤100000)(hn:n≤900000):(Dg.dg 65536 (eZ N n)).length≤160000:=by
 rw[fw];exact Nat.le_trans (Jh N n.toNat 100000 56251 h (by omega)) (by omega)
theorem GC {M:Nat}{n:Int}(h:(Dg.dg 65536 M).length≤100000)(hn: -900000≤n):(Dg.dg 65536 (dX M n)).length≤160000:=by
 rw[eM];exact Nat.le_trans (Jh M (-n).toNat 100000 56251 h (by omega)) (by omega)
theorem N8 {M:Nat}(n:Int)(hM:0<M):0<dX M n:=by
 rw[eM];exact Nat.mul_pos hM (bG _)
theorem BM (qs:Bool)(ao:Option Addr)(la ca:Nat)(bo:Option Addr)(lb cb:Nat)(N M:Nat)(E n:Int)(w:World)
  (ha:Rd w .i64 (.slice ao la ca) (Dg.dg 65536 N)) (hb:Rd w .i64 (.slice bo lb cb) (Dg.dg 65536 M)) (hla:(Dg.dg 65536 N).length≤100000) (hlb:(Dg.dg 65536 M).length≤100000) (hM:0<M) (n1: -900000≤E-n) (n2:E-n≤900000):
  yC 87 #[yrV qs (.slice ao la ca) (.slice bo lb cb) E,yi n] w (Rp w (eZ N (E-n)/dX M (E-n)) (eZ N (E-n) % dX M (E-n)) (dX M (E-n))):=by
 have b1:=af w (.cells (yrA qs (.slice ao la ca) (.slice bo lb cb) E) 31);have l1:=ah w (yrL qs (.slice ao la ca) (.slice bo lb cb) E) 31;have hX:=GB (n:=E-n) hla n2;have hY:=GC (n:=E-n) hlb n1;have hY0:=N8 (E-n) hM;have HIN:Hid (∀v u w1,Rd w1 .i64 v (Dg.dg 65536 (eZ N (E-n)))→Rd w1 .i64 u (Dg.dg 65536 (dX M (E-n)))→yC 35 #[v,u] w1 (JI w1 (eZ N (E-n)/dX M (E-n)) (eZ N (E-n) % dX M (E-n)))):=fun v u w1 r1 r2=>
  qM v u _ _ w1 r1 r2 (by omega) (by omega) hY0
 have HSN:Hid (∀w1,yB w w1→n≤E→yC 106 #[.slice ao la ca,yi (E-n)] w1 (cG w1 (eZ N (E-n)))):=fun w1 b hn=>by
  have:=kD _ _ (E-n).toNat w1 (ha.l b) (Dg.small_dg _ _ (by omega)) (by omega) (by omega);rw[Dg.vl_dg _ _ (by omega),←fw,Int.toNat_of_nonneg (by omega)] at this;exact this
 have HSD:Hid (∀w1,yB w w1→ ¬n≤E→yC 106 #[.slice bo lb cb,yi (n-E)] w1 (cG w1 (dX M (E-n)))):=fun w1 b hn=>by
  have:=kD _ _ (n-E).toNat w1 (hb.l b) (Dg.small_dg _ _ (by omega)) (by omega) (by omega);rw[Dg.vl_dg _ _ (by omega),Int.toNat_of_nonneg (by omega),show n-E= -(E-n) by omega,←eM] at this
  rw[show n-E= -(E-n) by omega]
  exact this
 have HN0:Hid (¬n≤E→eZ N (E-n)=N):=fun h=>if_pos (by omega)
 have HD0:Hid (n≤E→dX M (E-n)=M):=fun h=>if_neg (by omega)
 have RA:Hid (Rd _ _ _ _):=ha.l b1;have RB:Hid (Rd _ _ _ _):=hb.l b1;have W1:IntKind.i64.wrap (E-n)=E-n:=IntWalk.i64_in _ ⟨by omega,by omega⟩;have W2:IntKind.i64.wrap (n-E)=n-E:=IntWalk.i64_in _ ⟨by omega,by omega⟩;obtain⟨X,hX⟩: ∃X,eZ N (E-n)=X:=⟨_,rfl⟩;obtain⟨Y,hY⟩: ∃Y,dX M (E-n)=Y:=⟨_,rfl⟩;rw[hX] at HIN HSN HN0⊢;rw[hY] at HIN HSD HD0⊢;clear ha hb hla hlb hX hY hY0 hM;have c1:=l1.c 1 rfl;have c2:=l1.c 2 rfl;have c3:=l1.c 3 rfl
 by_cases hn:n≤E
 ·obtain rfl:=HD0.out hn
  go_enter func87,ntmps87
  go_wp2_with fail
  go_quiet (fail)
  have bd:=aL b1 nq;have rb:=Rd.l RB.out (aL (Below.refl _ _) nq)
  go_wp2_with fail
  refine(HSN.out _ bd hn).mono ?_;rintro z w2 ⟨v2,rfl,r2,b2⟩;have b02:=aa bd b2;have rb2:=rb.l b2
  go_wp2_with fail
  refine(HIN.out _ _ _ r2 rb2).mono ?_;rintro z w3 ⟨v3,v4,rfl,r3,r4,b3⟩;have b03:=aa b02 b3
  go_wp2
  go_ret3
  exact⟨_,_,_,rfl,r3,r4,rb2.l b3,b03⟩
 ·have hnf:decide (n≤E)=false:=by simp;omega
  obtain rfl:=HN0.out hn
  go_enter func87,ntmps87
  go_wp2_with fail
  go_quiet (fail)
  have bd:=aL b1 nq;have ra:=Rd.l RA.out (aL (Below.refl _ _) nq)
  go_wp2_with fail
  refine(HSD.out _ bd hn).mono ?_;rintro z w2 ⟨v2,rfl,r2,b2⟩;have b02:=aa bd b2;have ra2:=ra.l b2
  go_wp2_with fail
  refine(HIN.out _ _ _ ra2 r2).mono ?_;rintro z w3 ⟨v3,v4,rfl,r3,r4,b3⟩;have b03:=aa b02 b3
  go_wp2
  go_ret3
  exact⟨_,_,_,rfl,r3,r4,r2.l b3,b03⟩
theorem Rd.setC {w:World}{k:IntKind}{v:Value}{zs:List Nat}(h:Rd w k v zs){b i:Nat}{x:Value}(hx:w.cell? ⟨b,i,none⟩=some x)(hn: ∀n:Int,x≠ .int k n)(y:Value):Rd (w.setCell ⟨b,i,none⟩ y) k v zs:=by
 obtain⟨ao,cap,rfl,h1,h2,h3⟩:=h;refine⟨ao,cap,rfl,h1,h2,fun hp=> ?_⟩
 obtain⟨g,off,rfl,hc⟩:=h3 hp;refine⟨g,off,rfl,fun j hj=> ?_⟩
 have hj:=hc j hj;have hne:(⟨b,i,none⟩:Addr)≠⟨g,off+j,none⟩:=by
  intro e;rw[←e,hx] at hj;exact hn _ (Option.some.inj hj)
 exact(World.cell?_setCell_other _ _ _ _ hne).trans hj
theorem ZQ (n wh pt:Nat)(w:World)(hn:n=16*wh+pt)(hpt:pt<16)(hnl:n≤1000000):
  yC 50 #[yi n] w fun e w'=> ∃v,e= .returned v∧Own w' w.heap.size 3 .i64 v (Dg.dg 65536 (2^n))∧yB w w':=by
 have hd:=C6 wh pt hpt;rw[←hn] at hd;obtain⟨i0,hi,hz0,hz1,hz2⟩:=info_parts Tryz.infoI64;have hq:(n:Int)/16=(wh:Int):=by omega
 have hr:(n:Int) % 16=(pt:Int):=by omega
 have hwl:wh≤1000000:=by omega
 have HD:Hid ((List.replicate (wh+1) 0).set wh (2^pt)=Dg.dg 65536 (2^n)):=hd;clear hd hn
 go_enter func50,ntmps50
 go_wp2_with (at_make;refine wpList_make_full _ rfl _ _ 29 rfl w.heap.size 3 i0 (yi 0) 1 underlying29 hi hz0 hz1 _ _ _ _ (wh+1) rfl rfl (by omega) (by omega) ?b2 ?b3 (Nat.le_refl _) ?_)
 case b2=>rw[hz2];omega
 case b3=>unfold maxLen;omega
 intro w0 hown0 hgrow0;have own0:=gL hown0;have bel0:yB w w0:=(Below.refl _ _).grown hgrow0 (Nat.le_refl _) (fun k h=>by cases h)
 clear hown0 hgrow0
 go_wp2
 go_loop [4,5] (fun dv iv=> ∃k d:Nat,k≤pt∧iv=yi k∧dv=yi d∧Hid (d=2^k)) (fun _ iv=>pt-(intOf iv).toNat)
 case atStart=>exact⟨0,1,Nat.zero_le _,rfl,rfl,rfl⟩
 case round=>
  obtain⟨k,d,hk,rfl,rfl,hdk⟩:=hrel;have hdl:d≤65536:=by
   rw[hdk.out];have:2^k≤2^15:=Nat.pow_le_pow_right (by omega) (by omega);omega
  by_cases hlt:k<pt
  ·go_wp2
   go_round
   case rel=>exact⟨k+1,2*d,by omega,by go_num,by go_num,by rw[show d=2^k from hdk.out,Nat.pow_succ];exact Nat.mul_comm _ _⟩
   case measure=>simp[intOf];omega
  ·have hke:k=pt:=by omega
   subst hke;have hc:=own0.c wh (by simp);have hf:=own0.f wh;have own2:=own0.store wh d;have bel2:=bel0.setCell (p:=⟨w.heap.size,wh,none⟩) (by exact Nat.le_refl _) (yi (d:Int));have hdd:=hdk.out;rw[show(List.replicate (wh+1) 0).set wh d=Dg.dg 65536 (2^n) from by rw[hdd];exact HD.out] at own2
   have HO:Hid _:=own2;have rd2:=own2.rd;clear hdd own2
   go_wp2
   go_ret
   exact⟨_,rfl,HO.out,bel2⟩
theorem nh (R D L G:Int)(gr:Bool)(w:World):
  yC 52 #[ygV R D L G gr] w (yR w (yi (xg R))):=by
 have bA:=af w (.cells (ygA R D L G gr) 40);unfold xg
 by_cases h:R=16
 ·rw[if_pos h]
  subst h
  go_enter func52,ntmps52
  go_wp2
  go_ret
  exact⟨rfl,bA⟩
 ·rw[if_neg h]
  have e:(R==16)=false:=by simp;exact h
  go_enter func52,ntmps52
  go_wp2
  go_ret
  exact⟨rfl,bA⟩
theorem KW (neg odd:Bool)(half:Int)(w:World):
  yC 88 #[yi 1,.bool neg,.bool odd,yi half] w fun z w'=>z= .returned (.bool (gY 1 half odd neg))∧w'=w:=by
 unfold gY
 by_cases h:0<half
 ·go_enter func88,ntmps88
  go_wp2
  go_ret
  simp
 ·by_cases h0:half=0
  ·subst h0
   cases odd
   ·go_enter func88,ntmps88
    go_wp2
    go_ret
    simp
   ·go_enter func88,ntmps88
    go_wp2
    go_ret
    simp
  ·have e:(half==0)=false:=by simp;exact h0
   go_enter func88,ntmps88
   go_wp2
   go_ret
   simp;omega
theorem KX (neg odd:Bool)(half:Int)(w:World):
  yC 88 #[yi 2,.bool neg,.bool odd,yi half] w fun z w'=>z= .returned (.bool (gY 2 half odd neg))∧w'=w:=by
 unfold gY
 go_enter func88,ntmps88
 go_wp2
 go_ret
 simp
theorem KY (neg odd:Bool)(half:Int)(w:World):
  yC 88 #[yi 3,.bool neg,.bool odd,yi half] w fun z w'=>z= .returned (.bool (gY 3 half odd neg))∧w'=w:=by
 unfold gY
 go_enter func88,ntmps88
 go_wp2
 go_ret
 simp
theorem KZ (neg odd:Bool)(half:Int)(w:World):
  yC 88 #[yi 4,.bool neg,.bool odd,yi half] w fun z w'=>z= .returned (.bool (gY 4 half odd neg))∧w'=w:=by
 unfold gY
 go_enter func88,ntmps88
 go_wp2
 go_ret
 simp
theorem K3 (neg odd:Bool)(half:Int)(w:World):
  yC 88 #[yi 5,.bool neg,.bool odd,yi half] w fun z w'=>z= .returned (.bool (gY 5 half odd neg))∧w'=w:=by
 unfold gY
 go_enter func88,ntmps88
 go_wp2
 go_ret
 simp
theorem Od {way:Int}(hw:iC way=true)(neg odd:Bool)(half:Int)(w:World):
  yC 88 #[yi way,.bool neg,.bool odd,yi half] w fun z w'=>z= .returned (.bool (gY way half odd neg))∧w'=w:=by
 rcases zi hw with rfl|rfl|rfl|rfl|rfl
 ·exact KW neg odd half w
 ·exact KX neg odd half w
 ·exact KY neg odd half w
 ·exact KZ neg odd half w
 ·exact K3 neg odd half w
end Go.Proofs.YtpgijbdgljkeeaaGreatDoor
