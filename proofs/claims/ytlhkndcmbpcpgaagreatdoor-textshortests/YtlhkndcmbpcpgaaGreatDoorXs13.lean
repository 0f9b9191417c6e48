/- Texts laid together. -/
import Derived.Test.YtlhkndcmbpcpgaaGreatDoorXs06
import Derived.Test.YtlhkndcmbpcpgaaGreatDoorXs08
set_option maxRecDepth 100000
set_option maxHeartbeats 6400000
namespace Go.Proofs.YtlhkndcmbpcpgaaGreatDoor
open _root_.Go.Proofs.Tryz
open Go.RowKit
theorem MD (va:Value)(xs:List Nat)(n f o P Q:Nat)(w:World)(ha:Rd w .i64 va xs)(D:Dg.Small 65536 xs)(b5:xs.length≤1000000)(T:n=16*f+o)(ba:o<16)(b9:n≤100000000)(s:P=2^o)(F:Q=2^ (16-o)):
  yC 53 #[va,yi n] w (Si w (Dg.vl 65536 xs/2^n)):=by
 have t:P*Q=65536:=by rw[s,F,←Nat.pow_add,show o+(16-o)=16 from by omega]
 have U:65536^f*P=2^n:=by rw[T,s,Nat.pow_add,Nat.pow_mul]
 have B:0<P:=by rw[s];exact Nat.pow_pos (by omega)
 have ab:0<Q:=by rw[F];exact Nat.pow_pos (by omega)
 have b0:P≤65536:=by rw[←t];exact Nat.le_mul_of_pos_right _ ab
 have ac:Q≤65536:=by rw[←t];exact Nat.le_mul_of_pos_left _ B
 obtain⟨ao,ca,rfl,-,-,a0⟩:=ha;obtain⟨i0,hi,a6,a7,a8⟩:=info_parts Tryz.infoI64;have hq:(n:Int)/16=(f:Int):=by omega
 have hr:(n:Int) % 16=(o:Int):=by omega
 have bd:f≤100000000:=by omega
 have Z:Hid _:=t;have a9:Hid _:=U;have Y:Hid _:=s
 by_cases al:xs.length≤f
 ·have hz:Dg.vl 65536 xs/2^n=0:=by
   apply Nat.div_eq_of_lt;have h1:=Dg.vl_lt 65536 xs D;have N:65536^xs.length≤65536^f:=Nat.pow_le_pow_right (by omega) al;have h3:65536^f≤65536^f*P:=Nat.le_mul_of_pos_right _ B;omega
  rw[hz];clear hz T t U s F
  go_enter func53,ntmps53
  go_wp2
  go_ret
  exact⟨_,rfl,(aQ _ 0 0 _).rd,(fun a n c h=>by cases h),Below.refl _ _⟩
 ·have b2:(65536:Int)/(P:Int)=(Q:Int):=by
   have:65536/P=Q:=by rw[←t];exact Nat.mul_div_cancel_left _ B
   rw[←this];exact(Int.natCast_ediv 65536 P).symm
  clear T t U s F
  go_enter func53,ntmps53
  go_wp2
  go_loop [5,6] (fun dv q=> ∃k d:Nat,k≤o∧q=yi k∧dv=yi d∧Hid (d=2^k)) (fun _ q=>o-(intOf q).toNat)
  case atStart=>exact⟨0,1,Nat.zero_le _,rfl,rfl,rfl⟩
  case round=>
   obtain⟨k,d,hk,rfl,rfl,G⟩:=hrel;have ae:d≤65536:=by
    rw[G.out];have:2^k≤2^15:=Nat.pow_le_pow_right (by omega) (by omega);omega
   by_cases b6:k<o
   ·go_wp2
    go_round
    case rel=>exact⟨k+1,2*d,by omega,by go_num,by go_num,by rw[show d=2^k from G.out,Nat.pow_succ];exact Nat.mul_comm _ _⟩
    case measure=>simp[intOf];omega
   ·have an:k=o:=by omega
    subst an;have ad:d=P:=G.out.trans Y.out.symm;subst ad;clear G ae Y
    go_wp2
    go_loopw [7,8] (fun ov q wr=> ∃j:Nat,f+j≤xs.length∧q=yi ((f+j:Nat):Int)∧Own wr w.heap.size 3 .i64 ov ((low d Q (xs.drop f)).take j)∧yB w wr) (fun _ q _=>xs.length-(intOf q).toNat)
    case atStart=>exact⟨0,by omega,by go_num,aQ _ _ _ _,Below.refl _ _⟩
    case round=>
     obtain⟨j,hj,rfl,own,r⟩:=hrel
     by_cases ap:f+j<xs.length
     ·obtain⟨b,be,rfl,O⟩:=a0 (by omega)
      have hx:=cell_later r (O (f+j) ap);have J:=fun h:f+j+1<xs.length=>cell_later r (O (f+j+1) h)
      have ay:=D (f+j);have az:=D (f+j+1);have K: ¬f+j+1<xs.length→xs.getD (f+j+1) 0=0:=fun h=>Dg.getD_of_le _ _ (by omega)
      have A:=XR d Q (xs.drop f) j (by simp;omega);rw[ui,ui,←Nat.add_assoc] at A;obtain⟨x,ex⟩: ∃x,xs.getD (f+j) 0=x:=⟨_,rfl⟩;obtain⟨y,ey⟩: ∃y,xs.getD (f+j+1) 0=y:=⟨_,rfl⟩;obtain⟨M,L⟩: ∃M,(low d Q (xs.drop f)).take j=M:=⟨_,rfl⟩;have b3:M.length≤1000000:=by rw[←L];simp[mA];omega
      rw[ex] at hx ay A;rw[ey] at J az K A;rw[L] at A own;have E:Hid _:=A;have b1:=r.size;obtain⟨p,I⟩: ∃p,x/d=p:=⟨_,rfl⟩;obtain⟨g,H⟩: ∃g,y % d=g:=⟨_,rfl⟩;have bb:(x:Int)/(d:Int)=(p:Int):=by rw[←I];exact(Int.natCast_ediv x d).symm
      have a2:(y:Int) % (d:Int)=(g:Int):=by rw[←H];exact(Int.natCast_emod y d).symm
      have bc:p≤65536:=by rw[←I];have:=Nat.div_le_self x d;omega
      have b7:g<d:=by rw[←H];exact Nat.mod_lt _ B
      rw[I,H] at E;have av:g*Q≤65536*65536:=Nat.mul_le_mul (by omega) ac;have ax:(g:Int)*(Q:Int)≤4294967296:=by rw[←Int.natCast_mul];omega
      have aw:0≤(g:Int)*(Q:Int):=by rw[←Int.natCast_mul];omega
      clear ex ey L O a0 A I H av
      by_cases N:f+j+1<xs.length
      ·have a5:=J N
       clear J K;have X:=fun m=>Own.l own (aL (Below.refl wr.heap.size wr) m)
       go_wp2
       go_quiet (fail)
       go_wp2_with (at_builtin;refine wpList_append_own _ rfl _ _ 26 rfl w.heap.size 3 i0 (yi 0) 1 8 underlying26 hi a6 a7 a8 rfl (by decide) _ _ _ rfl (World.ownsRow.alloc (X _) _) ⟨wr.heap.size,0,none⟩ 1 1 [yi ((p:Int)+(g:Int)*(Q:Int))] rfl rfl ?c1 ?c2 ?c3 ?c4 ?c5 ?_)
       case c1=>exact cell_one_new _ _ _
       case c2=>intro u C;simp at C;subst C;rfl
       case c3=>unfold maxLen;omega
       case c4=>omega
       case c5=>simp;omega
       intro v' w3 z v _;have e0:((p:Int)+(g:Int)*(Q:Int))=((p+g*Q:Nat):Int):=by rw[Int.natCast_add,Int.natCast_mul]
       rw[e0] at z v;have R:=iW (aL r _) (X _) z v;clear z v own X e0
       go_wp2
       go_roundw
       case rel=>exact⟨j+1,by omega,by go_num,by rw[E.out];exact R.1,R.2⟩
       case measure=>simp[intOf];omega
      ·have a5:=K N
       subst a5;have ar:g=0:=by
        have:(g:Int)=0:=by rw[←a2];simp
        omega
       subst ar;simp only[Nat.zero_mul,Nat.add_zero] at E;clear J K a2 ax aw
       go_wp2_with (at_builtin;refine wpList_append_own _ rfl _ _ 26 rfl w.heap.size 3 i0 (yi 0) 1 8 underlying26 hi a6 a7 a8 rfl (by decide) _ _ _ rfl (World.ownsRow.alloc own _) ⟨wr.heap.size,0,none⟩ 1 1 [yi ((p:Int))] rfl rfl ?d1 ?d2 ?d3 ?d4 ?d5 ?_)
       case d1=>exact cell_one_new _ _ _
       case d2=>intro u C;simp at C;subst C;rfl
       case d3=>unfold maxLen;omega
       case d4=>omega
       case d5=>simp;omega
       intro v' w3 z v _;have R:=iW r own z v;clear z v own
       go_wp2
       go_roundw
       case rel=>exact⟨j+1,by omega,by go_num,by rw[E.out];exact R.1,R.2⟩
       case measure=>simp[intOf];omega
     ·have b4:f+j=xs.length:=by omega
      rw[List.take_of_length_le (by rw[mA];simp;omega)] at own;have a4:=Ug d Q (xs.drop f) Z.out (fun i=>by rw[ui];exact D _)
      have W:Dg.vl 65536 (low d Q (xs.drop f))=Dg.vl 65536 xs/2^n:=by
       have:=Y8 d Q B (xs.drop f);rw[Z.out] at this;rw[this,aa7 65536 (by omega) xs f (by omega) D,Nat.div_div_eq_div_mul,a9.out]
      have aq:(low d Q (xs.drop f)).length≤1000000:=by rw[mA];simp;omega
      obtain⟨ls,a1⟩: ∃ls,low d Q (xs.drop f)=ls:=⟨_,rfl⟩;rw[a1] at own a4 W aq;have HV:Hid _:=W;clear a1 W;obtain⟨oo,oc,rfl⟩:=own.rd.shape;have hF:=JH own
      go_wp2_with fail
      refine(i9 _ _ _ _ _ own.rd).mono ?_;rintro e w' ⟨m,rfl,S,rfl⟩;have b8:=S.1;have HF:Hid (Far w.heap.size (.slice oo m m)):=LP hF m m;clear hF;have a3:=uE (cap':=m) 65536 (by omega) own.rd a4 S (Nat.le_refl _) (by unfold maxLen;omega);rw[HV.out] at a3;clear S
      go_wp2
      go_ret
      exact⟨_,rfl,a3,HF.out,r⟩
def jp (w:World)(base:Nat)(v:Value)(bs:List Bool):Prop:=w.ownsRow base 4 1 v bs.length (bs.map Value.bool)
theorem Tryz.infoB:(Tryz.prog.info? 4).map (fun i=>(i.zero,i.size,i.bytes))=some (some (.bool false),1,1):=by kernel_rfl
def qV (ts:List Nat):Nat→List Bool
 |0=>[]
 |n+1=>qV ts n++[decide (fU ts n=1)]
theorem kS (a:List Nat): ∀n,(qV a n).length=n
 |0=>rfl
 |n+1=>by rw[qV,List.length_append,kS a n];rfl
theorem wW (a:List Nat): ∀n i,i<n→(qV a n)[i]? =some (decide (fU a i=1))
 |0,_,h=>absurd h (Nat.not_lt_zero _)
 |n+1,i,h=>by
  rw[qV]
  by_cases b:i<n
  ·rw[List.getElem?_append_left (by rw[kS];exact b)]
   exact wW a n i b
  ·have:i=n:=by omega
   subst this;rw[List.getElem?_append_right (by rw[kS];exact Nat.le_refl _),kS,Nat.sub_self];rfl
theorem Mu {P:Program}(t:TypeId)(s:ByteArray)(p:Nat)(h:P.underlying t=some .string)(a:p<s.size)(W:World):
  (Instr.index t (.string s) (yi p)).run P W= .ok (.int .u8 (((jr s).getD p 0:Nat):Int)) W:=by
 rw[run_index_string W t s .i64 p h,dif_pos ⟨by omega,by omega⟩]
 congr 2
 have b:p<s.data.size:=a;rw[jr,List.getD_eq_getElem?_getD,List.getElem?_map,Array.getElem?_toList,Array.getElem?_eq_getElem b];rfl
theorem Mv {w wr b:World}{x:Bool}{a:List Bool}{e f:Value}(d:yB w wr)(j:jp wr w.heap.size e a)
  (i:b.ownsRow w.heap.size 4 1 f (a.length+1) ((a.map Value.bool)++[.bool x]))
  (g:(wr.alloc (.cells #[.bool x] 4)).grownBy b e.ownBlock):
  jp b w.heap.size f (a++[x])∧yB w b:=by
 have c:yB wr (wr.alloc (.cells #[.bool x] 4)):=(Below.refl _ _).alloc (Nat.le_refl _) _;refine⟨?_, ?_⟩
 ·unfold jp
  simpa using i
 ·refine(aa d c).grown g (Nat.le_trans d.size c.size) (fun k h=> ?_)
  exact(World.ownsRow.lt j k h).1
theorem jp.l {w w':World}{base:Nat}{v:Value}{c:List Bool}(h:jp w base v c)(e:yB w w'):jp w' base v c:=by
 obtain⟨i,a⟩:=h;refine⟨i, ?_⟩
 rcases a with a| ⟨g,cap,d,j,f,b,r⟩
 ·exact .inl a
 ·refine .inr ⟨g,cap,d,j,f, ?_,r⟩
  rw[e.block g ?_]
  ·exact b
  ·rw[Array.getElem?_eq_some_iff] at b
   exact b.1
theorem T7: ∀j,j<8→2^ (7-j)/2=if j+1<8 then 2^ (7-(j+1)) else 0:=by decide
theorem P3 (k:Nat)(m:1≤k∧k≤8)(s:ByteArray)(w:World)(H:s.size=szN k):
  yC 16 #[yi k,.string s] w fun z w'=> ∃v,z= .returned v∧jp w' w.heap.size v (qV (wG k s) (8*szN k))∧yB w w':=by
 obtain⟨i0,hi,ad,ae,al⟩:=info_parts Tryz.infoB;have M:Hid (∀(i:Nat) f,i<szN k→yC 51 #[yi k,yi i] f (yR f (yi ((plN k i:Nat):Int)))):=fun i f h=>IF k m i h f
 have P:Hid (∀p W,p<s.size→(Instr.index 9 (.string s) (yi (p:Int))).run Tryz.prog W= .ok (.int .u8 (((jr s).getD p 0:Nat):Int)) W):=fun p W h=>Mu 9 s p underlying9 h W
 have y:Hid (∀i,i<szN k→(wG k s).getD i 0=(jr s).getD (plN k i) 0∧plN k i<szN k):=fun i h=>⟨Kh k _ i (by rw[oV,H]) (by rw[oV,H];exact h),Co m h⟩
 have a5:=xi k _ (zU s);have O:Hid (Dg.Small 256 (wG k s)):=a5;have ab:=(fZ m).2.2.1;obtain⟨sz,U⟩: ∃x,szN k=x:=⟨_,rfl⟩;obtain⟨d,X⟩: ∃x,wG k s=x:=⟨_,rfl⟩;rw[U] at M y ab H⊢;rw[X] at y O⊢;clear a5 U X m
 go_enter func16,ntmps16
 go_wp2
 go_loopw [5,6] (fun L J wr=> ∃i:Nat,i≤sz∧J=yi i∧jp wr w.heap.size L (qV d (8*i))∧yB w wr) (fun _ J _=>sz-(intOf J).toNat)
 case atStart=>exact⟨0,by omega,rfl,World.ownsRow_nil _ _ _ 1,Below.refl _ _⟩
 case round=>
  obtain⟨i,ar,rfl,own,e⟩:=hrel
  by_cases a3:i<sz
  ·have o:=P.out (plN k i)
   obtain⟨a7,ac⟩:=y.out i a3;have o:=fun W=>P.out (plN k i) W (by omega)
   rw[←a7] at o;have Z:=O.out i;obtain⟨c,C⟩: ∃c,d.getD i 0=c:=⟨_,rfl⟩;obtain⟨pp,T⟩: ∃c,plN k i=c:=⟨_,rfl⟩;have G:=fun f=>M.out i f a3
   rw[T] at o G;rw[C] at o Z;have N:Hid _:=G;have HC:Hid (d.getD i 0=c):=C;have b1:IntKind.i64.wrap (c:Int)=(c:Int):=IntWalk.i64_in _ ⟨by omega,by omega⟩;clear G a7 ac T C
   go_wp2_with fail
   refine(N.out _).mono ?_;rintro z w2 ⟨rfl,A⟩;have an:=own.l A;have a8:=aa e A;clear own e A N
   go_wp2
   go_loopw [5,8] (fun L K wr=> ∃j a:Nat,j≤8∧Hid (a=if j<8 then 2^ (7-j) else 0)∧K=yi (a:Int)∧a≤128∧jp wr w.heap.size L (qV d (8*i+j))∧yB w wr) (fun _ K _=>(intOf K).toNat)
   case atStart=>exact⟨0,128,by omega,rfl,rfl,by omega,an,a8⟩
   case round=>
    obtain⟨j,a,hj,t,rfl,ax,own,e⟩:=hrel
    by_cases F:j<8
    ·have n:a=2^ (7-j):=by have:=t.out;rwa [if_pos F] at this
     have a1:0<a:=by rw[n];exact Nat.pow_pos (by omega)
     obtain⟨b,B⟩: ∃b,decide (fU d (8*i+j)=1)=b:=⟨_,rfl⟩;have Y:fU d (8*i+j)=c/a % 2:=by
      unfold fU;rw[show(8*i+j)/8=i from by omega,show(8*i+j) % 8=j from by omega,HC.out,n]
     have a6:qV d (8*i+(j+1))=qV d (8*i+j)++[b]:=by rw[←B,show 8*i+(j+1)=8*i+j+1 from by omega];rfl
     obtain⟨r,D⟩: ∃r,c/a % 2=r:=⟨_,rfl⟩;obtain⟨q,eq⟩: ∃q,c/a=q:=⟨_,rfl⟩;have ay:(c:Int)/(a:Int)=(q:Int):=by rw[←eq];exact(Int.natCast_ediv c a).symm
     have az:q<256:=by rw[←eq];exact Nat.lt_of_le_of_lt (Nat.div_le_self _ _) Z
     have b0:(q:Int) % 2=(r:Int):=by rw[←D,eq];omega
     have ao:((r:Int)==1)=b:=by
      rw[←B,Y,D]
      by_cases h:r=1
      ·subst h;rfl
      ·rw[decide_eq_false h];simp;omega
     have av:((a:Int) != 0)=true:=by rw[bne_iff_ne];omega
     have a9:(a:Int)/2=((a/2:Nat):Int):=by omega
     have I:=T7 j F;rw[←n] at I;have g:Hid (_∧_):=⟨I,a6⟩;have a2:=kS d (8*i+j);obtain⟨E,Q⟩: ∃E,qV d (8*i+j)=E:=⟨_,rfl⟩;rw[Q] at own a2 g;have aq:E.length≤200:=by omega
     obtain⟨kh,S⟩: ∃x,a/2=x:=⟨_,rfl⟩;rw[S] at a9 g;have aw:kh<a:=by omega
     have ap:=e.size;clear B Y a6 D eq I a2 Q S n t
     go_wp2_with (at_builtin;refine wpList_append_own _ rfl _ _ 59 rfl w.heap.size 4 i0 (.bool false) 1 1 underlying59 hi ad ae al rfl (by decide) _ _ _ rfl (World.ownsRow.alloc own _) ⟨wr.heap.size,0,none⟩ 1 1 [.bool b] rfl rfl ?c1 ?c2 ?c3 ?c4 ?c5 ?_)
     case c1=>exact cell_one_new _ _ _
     case c2=>intro u hu;simp at hu;subst hu;rfl
     case c3=>unfold maxLen;omega
     case c4=>omega
     case c5=>simp;omega
     intro v' w3 a4 a0 _;have R:=Mv e own a4 a0;clear a4 a0 own
     go_wp2
     go_roundw
     case rel=>exact⟨j+1,kh,by omega,g.out.1,rfl,by omega,by rw[g.out.2];exact R.1,R.2⟩
     case measure=>simp[intOf];omega
    ·have a1:a=0:=by have:=t.out;rwa [if_neg F] at this
     have HJ:Hid (j=8):=(by omega:j=8);subst a1
     go_wp2
     go_roundw
     case rel=>
      have:=HJ.out;subst this;exact⟨i+1,by omega,by go_num,own,e⟩
     case measure=>simp[intOf];omega
  ·have HI:Hid (i=sz):=(by omega:i=sz)
   go_wp2
   go_ret
   have:=HI.out;subst this;exact⟨_,rfl,own,e⟩
theorem TG.l {w d e:World}{bn a:Nat}{ng:Bool}{c:List Value}{v:Value}{m:Nat}(h:TG w bn a ng c v m d)(b:yB d e):TG w bn a ng c v m e:=
 ⟨h.q.l b,h.f.l b,cell_later b h.n,aa h.b b,h.r.l b⟩
theorem refDP_geq_mg:
  (∀(g o E L M O Q:Int) (q r:Bool) (z B:Option Addr) (d f y A:Nat) (X Y Z:Nat) (t:ak) (w:World) (cm:Int) (_:(q==r)=false) (_:cm≥0) (_:((d:Int)==0)=false∧((f:Int)==0)=false∧min g o=E∨((d:Int)==0)=true∧((f:Int)==0)=false∧o=E∨((d:Int)==0)=false∧((f:Int)==0)=true∧g=E∨((d:Int)==0)=true∧((f:Int)==0)=true∧g=E) (_:IntKind.i64.wrap (g-E)=L) (_:IntKind.i64.wrap (o-E)=M) (_:max 0 L=O) (_:max 0 M=Q)
  (_: ∀a,yB w a→yC 93 #[.slice z d y,yi O] a (cG a X))
  (_: ∀a,yB w a→yC 93 #[.slice B f A,yi Q] a (cG a Y))
  (_: ∀j i m k a,yB w a→Rd a .i64 (yS j X i) (Dg.dg 65536 X)→Rd a .i64 (yS m Y k) (Dg.dg 65536 Y)→yC 23 #[yS j X i,yS m Y k] a (yR a (yi cm)))
  (_: ∀j i m k a,yB w a→Rd a .i64 (yS j X i) (Dg.dg 65536 X)→Rd a .i64 (yS m Y k) (Dg.dg 65536 Y)→yC 100 #[yS j X i,yS m Y k] a (cG a Z))
  (_: ∀G F a,yB w a→Rd a .i64 (yS G Z F) (Dg.dg 65536 Z)→yC 20 #[ydV q (yS G Z F) E] a (Xi w.heap.size a t)),
  yC 62 #[ydV q (.slice z d y) g,ydV r (.slice B f A) o] w (di w t))∧
  (∀(g o E L M O Q:Int) (q r:Bool) (z B:Option Addr) (d f y A:Nat) (X Y Z:Nat) (t:ak) (w:World) (cm:Int) (_:(q==r)=false) (_: ¬cm≥0) (_:((d:Int)==0)=false∧((f:Int)==0)=false∧min g o=E∨((d:Int)==0)=true∧((f:Int)==0)=false∧o=E∨((d:Int)==0)=false∧((f:Int)==0)=true∧g=E∨((d:Int)==0)=true∧((f:Int)==0)=true∧g=E) (_:IntKind.i64.wrap (g-E)=L) (_:IntKind.i64.wrap (o-E)=M) (_:max 0 L=O) (_:max 0 M=Q)
  (_: ∀a,yB w a→yC 93 #[.slice z d y,yi O] a (cG a X))
  (_: ∀a,yB w a→yC 93 #[.slice B f A,yi Q] a (cG a Y))
  (_: ∀j i m k a,yB w a→Rd a .i64 (yS j X i) (Dg.dg 65536 X)→Rd a .i64 (yS m Y k) (Dg.dg 65536 Y)→yC 23 #[yS j X i,yS m Y k] a (yR a (yi cm)))
  (_: ∀j i m k a,yB w a→Rd a .i64 (yS j X i) (Dg.dg 65536 X)→Rd a .i64 (yS m Y k) (Dg.dg 65536 Y)→yC 100 #[yS m Y k,yS j X i] a (cG a Z))
  (_: ∀G F a,yB w a→Rd a .i64 (yS G Z F) (Dg.dg 65536 Z)→yC 20 #[ydV r (yS G Z F) E] a (Xi w.heap.size a t)),
  yC 62 #[ydV q (.slice z d y) g,ydV r (.slice B f A) o] w (di w t)):=by
 refine⟨?_, ?_⟩;have _z:Mgk 0:=mgkI 0
 all_goals
  intro g o E L M O Q q r z B d f y A X Y Z t w cm hs hc hc ce cg ch ci HU HV HC HP HB;replace HU:Hid _:=HU;replace HV:Hid _:=HV;replace HC:Hid _:=HC;replace HP:Hid _:=HP;replace HB:Hid _:=HB;obtain⟨W5,a6,q1,q2,q3,b4⟩:=lG w (ydL q (.slice z d y) g) 28 (ydL r (.slice B f A) o) 28 (ydL false yN 0) 28;replace a6:Hid _:=a6
  go_enter func62,ntmps62
  go_upto_region 1 with fail
  rw[a6.out];clear a6;have c7:=q1.c 1 rfl;have c8:=q1.c 2 rfl;have c9:=q2.c 1 rfl;have bj:=q2.c 2 rfl
  rcases hc with⟨ay,az,hE⟩| ⟨ay,az,hE⟩| ⟨ay,az,hE⟩| ⟨ay,az,hE⟩
  all_goals try rw[hE] at c8
  all_goals try rw[hE] at bj
  all_goals
   go_upto_region 6 with fail
   clear hE;clear c7 c8 c9 bj;have a1:yB W5 W5.drew:=(Below.refl _ _).drew;have a7:=q1.l a1;have a8:=q2.l a1;have b1:=q3.l a1;have a4:=aa b4 a1;clear q1 q2 q3 b4 a1;refine wp_region_held_drew (S:=fun wq=>au wq w.heap.size 28 (ydL q (.slice z d y) g)∧au wq (w.heap.size+1) 28 (ydL r (.slice B f A) o)) (by kernel_rfl) ⟨a7,a8⟩ (fun b=> ?_)
   generalize W5.drew=cc at a7 a8 b1 a4 b⊢;refine tq 0 (.pointer (some ⟨w.heap.size,1,none⟩)) rfl (fun _ _=>by kernel_rfl) b ?_
   refine tq 1 (.slice z d y) rfl (fun _ u=>gU 26 (.tmp 25) rfl w.heap.size 1 (by kernel_rfl) _ _ underlying26 rfl (u.1.c 1 rfl)) b ?_
   refine tq 2 (.pointer (some ⟨w.heap.size,2,none⟩)) rfl (fun _ _=>by kernel_rfl) b ?_
   refine tq 3 (yi g) rfl (fun _ u=>gU 3 (.tmp 27) rfl w.heap.size 2 (by kernel_rfl) _ _ underlying3 rfl (u.1.c 2 rfl)) b ?_
   refine tq 4 (yi E) rfl (fun _ _=>by kernel_rfl) b ?_
   refine tq 5 (yi L) rfl (fun _ _=>by go_simp) b ?_
   refine tq 6 (yi O) rfl (fun _ _=>by go_simp) b ?_
   refine tq 8 (.pointer (some ⟨w.heap.size+1,1,none⟩)) rfl (fun _ _=>by kernel_rfl) b ?_
   refine tq 9 (.slice B f A) rfl (fun _ u=>gU 26 (.tmp 33) rfl (w.heap.size+1) 1 (by kernel_rfl) _ _ underlying26 rfl (u.2.c 1 rfl)) b ?_
   refine tq 10 (.pointer (some ⟨w.heap.size+1,2,none⟩)) rfl (fun _ _=>by kernel_rfl) b ?_
   refine tq 11 (yi o) rfl (fun _ u=>gU 3 (.tmp 35) rfl (w.heap.size+1) 2 (by kernel_rfl) _ _ underlying3 rfl (u.2.c 2 rfl)) b ?_
   refine tq 12 (yi E) rfl (fun _ _=>by kernel_rfl) b ?_
   refine tq 13 (yi M) rfl (fun _ _=>by go_simp) b ?_
   refine tq 14 (yi Q) rfl (fun _ _=>by go_simp) b ?_
   refine wpAnyH_ready (rs:=[7]) (by kernel_rfl) (by simp) ?_;refine AllReadyH.cons rfl (fun K p=> ?_) AllReadyH.nil
   go_simp
   refine(HU.out _ a4).mono ?_;rintro zz co ⟨cj,rfl,b9,a2⟩;have b2:=a7.l a2;have b3:=a8.l a2;have bl:=b1.l a2;have aq:=aa a4 a2;obtain⟨j,i,N⟩:=b9.shape;subst N;clear a7 a8 b1 a4 a2 HU;refine p.out _ _ ⟨b2,b3⟩ (fun c2=> ?_)
   clear p K;refine wpAnyH_ready (rs:=[15]) (by kernel_rfl) (by simp) ?_;refine AllReadyH.cons rfl (fun K p=> ?_) AllReadyH.nil
   go_simp
   refine(HV.out _ aq).mono ?_;rintro zz cp ⟨ck,rfl,ad,U⟩;have a9:=b2.l U;have ab:=b3.l U;have bm:=bl.l U;have ba:=b9.l U;have ar:=aa aq U;obtain⟨m,k,N⟩:=ad.shape;subst N;clear b2 b3 bl b9 aq U HV;refine p.out _ _ ⟨a9,ab⟩ (fun aw=> ?_)
   clear p K;refine tq 16 (yS j X i) rfl (fun _ _=>by kernel_rfl) aw ?_
   refine tq 17 (yS m Y k) rfl (fun _ _=>by kernel_rfl) aw ?_
   refine wpAnyH_done (by kernel_rfl) ?_ _;clear b c2 aw;simp only[Act.put,List.getElem_toArray,List.getElem_cons_succ,List.getElem_cons_zero,List.setIfInBounds_toArray,List.set_cons_zero,List.set_cons_succ];have c0:=a9.c 0 rfl;have c1:=ab.c 0 rfl
   go_wp2_with fail
   refine(HC.out _ _ _ _ _ ar ba ad).mono ?_;rintro zz bf ⟨rfl,H⟩
   first| (rename Mgk 0=>_z;have b5:=a9.l H)| (have b5:=ab.l H)
   have bn:=bm.l H;have bt:=ba.l H;have bv:=ad.l H;have bg:=aa ar H;clear a9 ab bm ba ad ar H HC c0 c1
   first| (rename Mgk 0=>_z;go_upto_region 10 with fail)| (go_upto_region 11 with fail)
   have T:yB bf bf.drew:=(Below.refl _ _).drew;have a3:=b5.l T;have b6:=bn.l T;have an:=bt.l T;have ap:=bv.l T;have a5:=aa bg T;clear b5 bn bt bv bg T
   first| (rename Mgk 0=>_z;refine wp_region_held_drew (S:=fun wq=>au wq w.heap.size 28 (ydL q (.slice z d y) g)) (by kernel_rfl) a3 (fun b=> ?_))| (refine wp_region_held_drew (S:=fun wq=>au wq (w.heap.size+1) 28 (ydL r (.slice B f A) o)) (by kernel_rfl) a3 (fun b=> ?_))
   generalize bf.drew=cd at a3 b6 an ap a5 b⊢
   first| (rename Mgk 0=>_z;refine tk 0 (.pointer (some ⟨w.heap.size,0,none⟩)) rfl (by kernel_rfl) (fun _ _ _ h=>h) (fun _ _=>by kernel_rfl) b ?_)| (refine tk 0 (.pointer (some ⟨w.heap.size+1,0,none⟩)) rfl (by kernel_rfl) (fun _ _ _ h=>h) (fun _ _=>by kernel_rfl) b ?_)
   first| (rename Mgk 0=>_z;refine tk 1 (.bool q) rfl (by kernel_rfl) (fun _ _ _ h=>h) (fun _ u=>gU 4 (.tmp 58) rfl w.heap.size 0 (by kernel_rfl) _ _ underlying4 rfl (u.c 0 rfl)) b ?_)| (refine tk 1 (.bool r) rfl (by kernel_rfl) (fun _ _ _ h=>h) (fun _ u=>gU 4 (.tmp 66) rfl (w.heap.size+1) 0 (by kernel_rfl) _ _ underlying4 rfl (u.c 0 rfl)) b ?_)
   first| (rename Mgk 0=>_z;refine tk 2 (yS j X i) rfl (by kernel_rfl) (fun _ _ _ h=>h) (fun _ _=>by kernel_rfl) b ?_)| (refine tk 2 (yS m Y k) rfl (by kernel_rfl) (fun _ _ _ h=>h) (fun _ _=>by kernel_rfl) b ?_)
   first| (rename Mgk 0=>_z;refine tk 3 (yS m Y k) rfl (by kernel_rfl) (fun _ _ _ h=>h) (fun _ _=>by kernel_rfl) b ?_)| (refine tk 3 (yS j X i) rfl (by kernel_rfl) (fun _ _ _ h=>h) (fun _ _=>by kernel_rfl) b ?_)
   refine tq 5 (yi E) rfl (fun _ _=>by kernel_rfl) b ?_
   refine wpAnyH_ready (rs:=[4]) (by kernel_rfl) (by simp) ?_;refine AllReadyH.cons rfl (fun K p=> ?_) AllReadyH.nil
   go_simp
   refine(HP.out _ _ _ _ _ a5 an ap).mono ?_;rintro zz cr ⟨cl,rfl,ae,W⟩;have b7:=a3.l W;have bp:=b6.l W;have bw:=an.l W;have bx:=ap.l W;have av:=aa a5 W;obtain⟨G,F,N⟩:=ae.shape;subst N;clear a3 b6 an ap a5 W HP;refine p.out _ _ b7 (fun ax=> ?_)
   clear p K
   first| (rename Mgk 0=>_z;refine tk 6 (ydV q (yS G Z F) E) rfl (by kernel_rfl) (fun _ _ _ h=>h) (fun _ _=>by kernel_rfl) ax ?_)| (refine tk 6 (ydV r (yS G Z F) E) rfl (by kernel_rfl) (fun _ _ _ h=>h) (fun _ _=>by kernel_rfl) ax ?_)
   refine wpAnyH_ready (rs:=[7]) (by kernel_rfl) (by simp) ?_;refine AllReadyH.cons rfl (fun K p=> ?_) AllReadyH.nil
   go_simp
   refine(HB.out _ _ _ av ae).mono ?_;rintro zz a0 ⟨cn,rfl,al,I,hF⟩;have b8:=b7.l I;have R:=bp.l I;have bb:=bw.l I;have bd:=bx.l I;have be:=ae.l I;have bh:=aa av I;obtain⟨D,C,N⟩:=al.shape;subst N;clear b7 bp bw bx ae av I HB;refine p.out _ _ b8 (fun c3=> ?_)
   clear p K;refine wpAnyH_ready (rs:=[8]) (by kernel_rfl) (by simp) ?_;refine AllReadyH.cons rfl (fun K p=> ?_) AllReadyH.nil
   have J:But (w.heap.size+1+1) a0 (a0.setCells (w.heap.size+1+1) 0 (ydL t.s (yS D t.n C) t.e)):=de _ _ _ _;have b0:a0.there (w.heap.size+1+1) 0 3:=dD R;have bq:au (a0.setCells (w.heap.size+1+1) 0 (ydL t.s (yS D t.n C) t.e)) (w.heap.size+1+1) 28 (ydL t.s (yS D t.n C) t.e):=R.sets _ rfl;have c5:=J.rd bb (cq bb (Dg.norm_dg _ _ (by omega)) R (fun x v n hn=>by simp at v;rcases v with rfl|rfl|rfl<;>simp;all_goals omega))
   have c6:=J.rd bd (cq bd (Dg.norm_dg _ _ (by omega)) R (fun x v n hn=>by simp at v;rcases v with rfl|rfl|rfl<;>simp;all_goals omega))
   have ca:=J.rd be (cq be (Dg.norm_dg _ _ (by omega)) R (fun x v n hn=>by simp at v;rcases v with rfl|rfl|rfl<;>simp;all_goals omega))
   have bz:=J.rd al (cq al (Dg.norm_dg _ _ (by omega)) R (fun x v n hn=>by simp at v;rcases v with rfl|rfl|rfl<;>simp;all_goals omega))
   have bs:=J.loc b8 (by omega);have bi:=J.below bh (by omega);rw[if_pos (by kernel_rfl)]
   first| (rename Mgk 0=>_z;refine wp_store_mid 28 (.tmp 4) (.tmp 65) rfl (w.heap.size+1+1) 0 (ydA t.s (yS D t.n C) t.e) (by kernel_rfl) (by kernel_rfl) b0 (by kernel_rfl) (by simp[Value.oneCell']) ?_)| (refine wp_store_mid 28 (.tmp 4) (.tmp 73) rfl (w.heap.size+1+1) 0 (ydA t.s (yS D t.n C) t.e) (by kernel_rfl) (by kernel_rfl) b0 (by kernel_rfl) (by simp[Value.oneCell']) ?_)
   refine p.out _ _ bs (fun c4=> ?_)
   clear p K;clear R bb bd be al b8 bh J b0;refine wpAnyH_done (by kernel_rfl) ?_ _;clear b ax c3 c4;change Exit.then _ _ _ _ (World.setCells a0 (w.heap.size+1+1) 0 (ydL t.s (yS D t.n C) t.e));generalize World.setCells a0 (w.heap.size+1+1) 0 (ydL t.s (yS D t.n C) t.e)=cb at bs bq c5 c6 ca bz bi⊢;simp only[Act.put,List.getElem_toArray,List.getElem_cons_succ,List.getElem_cons_zero];have hl:=run_loadVar_mid (P:=Tryz.prog) _ (w.heap.size+1+1) 0 28 (ydL t.s (yS D t.n C) t.e) _ bq.range underlying28 rfl (by kernel_rfl)
   go_wp2
   exact bodyPost_ret (br results62 rfl hl) rfl ⟨_,rfl,bz,hF.out,bi⟩
end Go.Proofs.YtlhkndcmbpcpgaaGreatDoor
