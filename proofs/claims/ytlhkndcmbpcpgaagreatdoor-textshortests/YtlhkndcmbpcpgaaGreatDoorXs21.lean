/- Texts laid together. -/
import Derived.Test.YtlhkndcmbpcpgaaGreatDoorXs16
import Derived.Test.YtlhkndcmbpcpgaaGreatDoorXs19
set_option maxRecDepth 100000
set_option maxHeartbeats 6400000
namespace Go.Proofs.YtlhkndcmbpcpgaaGreatDoor
open _root_.Go.Proofs.Tryz
open Go.RowKit
theorem aF {zs:List Nat}(h:chk zs=0):Dg.Norm zs∧zs.length≤1200:=by
 unfold chk at h
 by_cases a:0<zs.length∧zs.getD (zs.length-1) 0=0
 ·rw[if_pos a] at h;omega
 ·rw[if_neg a] at h
  by_cases b:1200<zs.length
  ·rw[if_pos b] at h;omega
  ·refine⟨fun c e=>a ⟨List.length_pos_iff.2 c,e⟩,by omega⟩
theorem Jq {xs a b:List Nat}{k c x y:Nat}(h:Z7 xs a b k c)(o:k<xs.length)(j:xs.getD k 0=x)(l:a.getD k 0=y)(p:x<4294967296)(q:y<4294967296):
  Z7 xs a (b.set k ((x+4294967296-y-c) % 4294967296)) (k+1) (brw x y c):=by
 obtain⟨g,i,m,n⟩:=h;refine⟨by simpa using g,Dg.small_set i _ _ (Nat.mod_lt _ (by omega)),RN _ _ _, ?_⟩;rw[sQ _ _ _ (by omega),pO xs,pO a,j,l];have e:x+4294967296*brw x y c=(x+4294967296-y-c) % 4294967296+y+c:=by unfold brw;split<;>omega
 have d:4294967296^k*(x+4294967296*brw x y c)=4294967296^k*((x+4294967296-y-c) % 4294967296+y+c):=by rw[e]
 have f:4294967296^ (k+1)*brw x y c=4294967296^k*(4294967296*brw x y c):=by rw[Nat.pow_succ,Nat.mul_assoc]
 rw[Nat.mul_add,Nat.mul_add,Nat.mul_add] at d;rw[f];omega
theorem zL (N O:Value)(xs a:List Nat)(w:World)(Q:Rd w .u32 N xs)(R:Rd w .u32 O a)(M:Dg.Small 4294967296 xs)(sb:Dg.Small 4294967296 a)(a4:xs.length≤1000000)(a5:a.length≤xs.length)(I:Dg.vl 4294967296 a≤Dg.vl 4294967296 xs):
  yC 196 #[N,O] w (Num w (Dg.vl 4294967296 xs-Dg.vl 4294967296 a)):=by
 obtain⟨i0,T,a0,a1,a2⟩:=info_parts Tryz.infoU32;obtain⟨ao,ca,rfl,-,-,p⟩:=Q;obtain⟨bo,cb,rfl,-,-,t⟩:=R;have P:Hid _:=I;clear I
 go_enter func196,ntmps196
 go_wp2_with (at_make;refine wpList_make_full _ rfl _ _ 47 rfl w.heap.size 105 i0 (.int .u32 0) 1 underlying47 T a0 a1 _ _ _ _ xs.length rfl rfl (by omega) (by omega) ?A ?b3 (Nat.le_refl _) ?_)
 case A=>rw[a2];omega
 case b3=>unfold maxLen;omega
 intro w0 F E;have K:=gL F;have B:yB w w0:=(Below.refl _ _).grown E (Nat.le_refl _) (fun k h=>by cases h)
 clear F E
 go_wp2
 go_loopw [6,15] (fun r l wr=> ∃(k c:Nat) (i:List Nat),k≤a.length∧l=yi k∧r= .int .u32 c∧Own wr w.heap.size 105 .u32 (.slice (some ⟨w.heap.size,0,none⟩) xs.length xs.length) i∧Z7 xs a i k c∧yB w wr)
  (fun _ l _=>a.length-(intOf l).toNat)
 case atStart=>exact⟨0,0,_,Nat.zero_le _,rfl,rfl,K,⟨by simp,Dg.small_replicate _ _ (by omega),by omega,by simp[Dg.vl]⟩,B⟩
 case round=>
  clear K B;obtain⟨k,c,i,U,rfl,rfl,own,d,g⟩:=hrel;have G:=d.1;have q:=d.2.2.1
  by_cases X:k<a.length
  ·obtain⟨b,a3,rfl,n⟩:=p (by omega)
   obtain⟨A,a6,rfl,C⟩:=t (by omega);have z:=cell_later g (n k (by omega));have hy:=cell_later g (C k (by omega));have Z:=own.c k (by omega);have S:=own.f k;have o:=M k;have J:=sb k;obtain⟨x,j⟩: ∃x,xs.getD k 0=x:=⟨_,rfl⟩;obtain⟨y,s⟩: ∃y,a.getD k 0=y:=⟨_,rfl⟩;have v:=Jq d (by omega) j s (by omega) (by omega);rw[j] at z o;rw[s] at hy J;clear j s n C p t
   go_wp2_with fail
   refine(zA x y c _ o J q).mono ?_;rintro e w' ⟨rfl,rfl⟩
   go_wp2
   go_roundw
   case rel=>exact⟨k+1,_,_,by omega,by go_num,rfl,own.store k _,v,g.setCell (by exact Nat.le_refl _) _⟩
   case measure=>simp[intOf];omega
  ·have u:k=a.length:=by omega
   subst u
   go_wp2
   go_loopw [6,9] (fun r l wr=> ∃(k c:Nat) (i:List Nat),a.length≤k∧k≤xs.length∧l=yi k∧r= .int .u32 c∧Own wr w.heap.size 105 .u32 (.slice (some ⟨w.heap.size,0,none⟩) xs.length xs.length) i∧Z7 xs a i k c∧yB w wr)
    (fun _ l _=>xs.length-(intOf l).toNat)
   case atStart=>exact⟨a.length,c,i,Nat.le_refl _,by omega,rfl,rfl,own,d,g⟩
   case round=>
    clear own d g G q;obtain⟨k,c,i,W,U,rfl,rfl,own,d,g⟩:=hrel;have G:=d.1;have q:=d.2.2.1
    by_cases X:k<xs.length
    ·obtain⟨b,a3,rfl,n⟩:=p (by omega)
     have z:=cell_later g (n k (by omega));have Z:=own.c k (by omega);have S:=own.f k;have o:=M k;obtain⟨x,j⟩: ∃x,xs.getD k 0=x:=⟨_,rfl⟩;have v:=Jq d (by omega) j (Dg.getD_of_le a k W) (by omega) (by omega);rw[j] at z o;clear j n p t
     go_wp2_with fail
     refine(zA x 0 c _ o (by omega) q).mono ?_;rintro e w' ⟨rfl,rfl⟩
     go_wp2
     go_roundw
     case rel=>exact⟨k+1,_,_,by omega,by omega,by go_num,rfl,own.store k _,v,g.setCell (by exact Nat.le_refl _) _⟩
     case measure=>simp[intOf];omega
    ·have u:k=xs.length:=by omega
     subst u;have D:=Z8 d (by omega) P.out;have L:=own.rd
     go_wp2_with fail
     refine(jD _ _ _ _ _ L).mono ?_;rintro e w' ⟨m,rfl,Y,rfl⟩;have H:=jW 4294967296 (by omega) own d.2.1 Y;rw[D] at H;clear L D own
     go_wp2
     go_ret
     exact⟨_,rfl,H,g⟩
theorem gn (a:Addr)(W:World):(store a Value.nilFunc).run Tryz.prog W=stored Tryz.prog W a Value.nilFunc .plain:=run_store _ W a _ _ rfl
def bU (t:ak):ak×Int:=
 if 1200< (Dg.dg 4294967296 (bare t).n).length then(⟨false,0,0⟩,2) else if(bare t).e< -20000∨20000< (bare t).e then(⟨false,0,0⟩,3) else(bare t,0)
theorem Loc.apart {w:World}{b c:Nat}{a d e:Value}(h:Loc w b a d e)(q:c≠b)(n o p:Value):
  Loc (((w.setCell ⟨c,0,none⟩ n).setCell ⟨c,1,none⟩ o).setCell ⟨c,2,none⟩ p) b a d e:=by
 obtain⟨m,⟨f,g,i⟩,j,k,l⟩:=h;refine⟨by simpa using m,⟨?_, ?_, ?_⟩,by simpa using j,by simpa using k,by simpa using l⟩
 ·rw[World.cell?_setCell_other (h:=by simp),World.cell?_setCell_other (h:=by simp),World.cell?_setCell_other (h:=by simp)];exact f
 ·rw[World.cell?_setCell_other (h:=by simp),World.cell?_setCell_other (h:=by simp),World.cell?_setCell_other (h:=by simp)];exact g
 ·rw[World.cell?_setCell_other (h:=by simp),World.cell?_setCell_other (h:=by simp),World.cell?_setCell_other (h:=by simp)];exact i
theorem kL (v:Value)(t:ak)(w:World)(hv:Dv w v t)(O:(Dg.dg 4294967296 t.n).length≤500000)(P: -1000000≤t.e∧t.e≤1000000)(Z:Tab w)(T:tz t.n≤1000000):
  yC 119 #[v] w (gR w (bU t)):=by
 have j:Hid (∀q,yB w q→yC 155 #[v] q (jN q (bare t))):=fun q a=>II v t q (hv.l a) O P (Z.l a) T
 obtain⟨s0,rfl,S⟩:=hv;obtain⟨D,H,rfl⟩:=S.shape;obtain⟨C,n,e⟩:=t;simp only at S O P T⊢j;obtain⟨m,hm⟩: ∃m,(Dg.dg 4294967296 n).length=m:=⟨_,rfl⟩;rw[hm] at j⊢;obtain⟨⟨i,bn,h⟩,a0⟩: ∃bt,bare ⟨C,n,e⟩=bt:=⟨_,rfl⟩;unfold bU;rw[a0] at j⊢;simp only at j⊢;clear a0 hm S O P T Z;have o:=(aA w (.bool C) (.slice D m H) (yi e) 191).l (af _ (.cells (ydA false yN 0) 41));have d:=aA (w.alloc (.cells (ydA C (.slice D m H) e) 191)) (.bool false) yN (yi 0) 41;have k:=aa (af w (.cells (ydA C (.slice D m H) e) 191)) (af _ (.cells (ydA false yN 0) 41));rw[World.size_alloc] at d
 by_cases Y:1200< (Dg.dg 4294967296 bn).length
 ·rw[if_pos Y]
  go_enter func119,ntmps119
  go_wp2_with fail
  refine(j.out _ k).mono ?_;rintro x q ⟨s,rfl,p,a⟩;have o:=o.l a;have d:=d.l a;have r:=aa k a;rw[World.size_alloc,World.size_alloc] at p;obtain⟨g,f,B⟩:=p.rd.shape;subst B;obtain⟨Q,⟨E,F,G⟩,L,M,N⟩:=id o;obtain⟨R,⟨I,J,K⟩,U,W,X⟩:=id d;clear k a j
  go_wp2
  obtain⟨-,⟨y,z,A⟩,-⟩:=aD (d.apart (c:=w.heap.size) (by omega) (.bool i) (yT g bn f) (yi h)) (.bool false) yN (yi 0);have u:=am (am r (Nat.le_refl _) (.bool i) (yT g bn f) (yi h)) (show w.heap.size≤w.heap.size+1 by omega) (.bool false) yN (yi 0)
  refine bodyPost_ret (v:= .tuple #[.agg #[(.bool false),yN,(yi 0)],yi 2]) (by simp[results,results119,go_sem,y,z,A]) rfl ?_;exact⟨_,rfl,aQ _ _ _ _,u⟩
 ·rw[if_neg Y]
  by_cases h2:h< -20000
  ·rw[if_pos (Or.inl h2)]
   go_enter func119,ntmps119
   go_wp2_with fail
   refine(j.out _ k).mono ?_;rintro x q ⟨s,rfl,p,a⟩;have o:=o.l a;have d:=d.l a;have r:=aa k a;rw[World.size_alloc,World.size_alloc] at p;obtain⟨g,f,B⟩:=p.rd.shape;subst B;obtain⟨Q,⟨E,F,G⟩,L,M,N⟩:=id o;obtain⟨R,⟨I,J,K⟩,U,W,X⟩:=id d;clear k a j
   go_wp2
   obtain⟨-,⟨y,z,A⟩,-⟩:=aD (d.apart (c:=w.heap.size) (by omega) (.bool i) (yT g bn f) (yi h)) (.bool false) yN (yi 0);have u:=am (am r (Nat.le_refl _) (.bool i) (yT g bn f) (yi h)) (show w.heap.size≤w.heap.size+1 by omega) (.bool false) yN (yi 0)
   refine bodyPost_ret (v:= .tuple #[.agg #[(.bool false),yN,(yi 0)],yi 3]) (by simp[results,results119,go_sem,y,z,A]) rfl ?_;exact⟨_,rfl,aQ _ _ _ _,u⟩
  ·by_cases h3:20000<h
   ·rw[if_pos (Or.inr h3)]
    go_enter func119,ntmps119
    go_wp2_with fail
    refine(j.out _ k).mono ?_;rintro x q ⟨s,rfl,p,a⟩;have o:=o.l a;have d:=d.l a;have r:=aa k a;rw[World.size_alloc,World.size_alloc] at p;obtain⟨g,f,B⟩:=p.rd.shape;subst B;obtain⟨Q,⟨E,F,G⟩,L,M,N⟩:=id o;obtain⟨R,⟨I,J,K⟩,U,W,X⟩:=id d;clear k a j
    go_wp2
    obtain⟨-,⟨y,z,A⟩,-⟩:=aD (d.apart (c:=w.heap.size) (by omega) (.bool i) (yT g bn f) (yi h)) (.bool false) yN (yi 0);have u:=am (am r (Nat.le_refl _) (.bool i) (yT g bn f) (yi h)) (show w.heap.size≤w.heap.size+1 by omega) (.bool false) yN (yi 0)
    refine bodyPost_ret (v:= .tuple #[.agg #[(.bool false),yN,(yi 0)],yi 3]) (by simp[results,results119,go_sem,y,z,A]) rfl ?_;exact⟨_,rfl,aQ _ _ _ _,u⟩
   ·rw[if_neg (by omega)]
    go_enter func119,ntmps119
    go_wp2_with fail
    refine(j.out _ k).mono ?_;rintro x q ⟨s,rfl,p,a⟩;have o:=o.l a;have d:=d.l a;have r:=aa k a;rw[World.size_alloc,World.size_alloc] at p;obtain⟨g,f,B⟩:=p.rd.shape;subst B;obtain⟨Q,⟨E,F,G⟩,L,M,N⟩:=id o;obtain⟨R,⟨I,J,K⟩,U,W,X⟩:=id d;clear k a j
    go_wp2
    obtain⟨-,⟨y,z,A⟩,-⟩:=aD (d.apart (c:=w.heap.size) (by omega) (.bool i) (yT g bn f) (yi h)) (.bool i) (yT g bn f) (yi h);have a1:=(p.apart3 (b:=w.heap.size) (by omega) (.bool i) (yT g bn f) (yi h)).apart3 (b:=w.heap.size+1) (by omega) (.bool i) (yT g bn f) (yi h);have u:=am (am r (Nat.le_refl _) (.bool i) (yT g bn f) (yi h)) (show w.heap.size≤w.heap.size+1 by omega) (.bool i) (yT g bn f) (yi h)
    refine bodyPost_ret (v:= .tuple #[.agg #[(.bool i),(yT g bn f),(yi h)],yi 0]) (by simp[results,results119,go_sem,y,z,A]) rfl ?_;exact⟨_,rfl,a1.lower (by omega),u⟩
theorem di.near {w:World}{t:ak}{e:Ending}{w':World}(h:di w t e w'):dr w t e w':=by
 obtain⟨s,a,b,-,c⟩:=h;exact⟨s,a,b,c⟩
open Go.Shelf Go.RowKit
shelf_lay Lays.n145 Nm 145 at Tryz as lays145
shelf_lay Lays.n103 Nm 103 at Tryz as lays103
shelf_lay Lays.n172 Nm 172 at Tryz as lays172
shelf_lay LaysM.n171 Nm 171 at Tryz as lays171
def powN:String:=(Rows.textShortestsRow.laid.map (fun p=>p.1)).getD 2 ""
def TxW (w:World):Prop:=Tab w∧(∃m:Int,w.cell? ⟨lays145_ren.g 1,0,none⟩=some (yi m))∧Lib.TabIs Tryz.prog w powN .u64 Lib.pow10Tab
theorem TxW.l {w w':World}(h:TxW w)(a:yB w w'):TxW w':=by
 obtain⟨b,⟨m,c⟩,d⟩:=h;exact⟨b.l a,⟨m,cell_later a c⟩,Lib.tabBelow_of_tabIs d w' a⟩
theorem drewN_below (w:World)(n:Nat):yB w (w.drewN n):=⟨rfl,rfl,rfl,Nat.le_refl _,fun _ _=>rfl⟩
theorem cut_any (s a:ByteArray)(w:World)(d:s.size≤1000)(b:TxW w):
  yC 140 #[.string s,.string a] w (yR w (.tuple #[.string ⟨(Lib.cut s.data.toList a.data.toList).1.toArray⟩,.string ⟨(Lib.cut s.data.toList a.data.toList).2.1.toArray⟩,.bool (Lib.cut s.data.toList a.data.toList).2.2])):=by
 obtain⟨-,⟨m,c⟩,-⟩:=b;refine(Any.strings_Cut lays145 s a m w (by omega) c).mono ?_;rintro z w' ⟨rfl,n,rfl⟩;exact⟨rfl,drewN_below w n⟩
theorem prefix_any (s p:ByteArray)(w:World):
  yC 139 #[.string s,.string p] w (yR w (.tuple #[.string ⟨(Lib.trimPrefix s.data.toList p.data.toList).toArray⟩,.bool (Lib.hasPrefix s.data.toList p.data.toList)])):=by
 refine(Any.strings_CutPrefix lays103 s p w).mono ?_;rintro z w' ⟨rfl,rfl⟩;exact⟨rfl,Below.refl _ _⟩
theorem atoi_any (s:ByteArray)(n:Int)(w:World)(a:s.size≤18)(h:Lib.atoi s.data.toList=some n):
  yC 167 #[.string s] w (yR w (.tuple #[yi n,.nilIface])):=by
 refine(Any.strconv_Atoi lays172 s n a h w).mono ?_;rintro z w' ⟨rfl,t,rfl⟩;exact⟨rfl,Joins.below_bytesWorld _ w _ t (Nat.le_refl _)⟩
theorem itoa_any (n:Int)(w:World)(a: -9223372036854775808≤n)(b:n≤9223372036854775807)(c:TxW w):
  yC 49 #[yi n] w (yR w (.string ⟨(Lib.itoa n).toArray⟩)):=by
 refine(Any.strconv_Itoa lays171 n a b w c.2.2).mono ?_;rintro z w' ⟨rfl,k,os,rfl⟩;exact⟨rfl,Lib.below_grow _ w (Nat.le_refl _) k os⟩
theorem FD {R D L G:Int}(a: ¬R=2)(b: ¬R=16):bk R D L G=6:=if_neg (fun h=>h.elim a b)
abbrev MW:=gcheck2_any_mg.1
abbrev Ky:=gcheck2_any_mg.2
theorem vE (R D L G:Int)(gr:Bool)(w:World):
  yC 116 #[ygV R D L G gr] w (yR w (yi (bk R D L G))):=by
 by_cases b:R=2
 ·subst b
  exact MW D L G gr w
 ·by_cases a:R=16
  ·subst a
   exact Ky D L G gr w
  ·rw[FD b a]
   have c:=af w (.cells (ygA R D L G gr) 54);have d:(R != 2)=true:=by simp;exact b
   have e:(R != 16)=true:=by simp;exact a
   go_enter func116,ntmps116
   go_wp2
   go_ret
   exact⟨rfl,c⟩
def eA (xs ys:List Nat)(E:Int):Int:=if chk xs=0 then(if chk ys=0 then(if ys.length=0∨eJ 20000 E=true then 3 else 0) else chk ys) else chk xs
theorem Uu (xs c:List Nat)(E e:Int):jg (eA xs c E) e=nL (chk xs) (chk c) c.length (eJ 20000 E) e:=by
 unfold jg eA nL
 by_cases a:chk xs=0
 ·rw[if_pos a,if_pos a]
  by_cases b:chk c=0
  ·rw[if_pos b,if_pos b]
   by_cases d:c.length=0∨eJ 20000 E=true
   ·rw[if_pos d,if_pos d,if_neg (by omega)]
   ·rw[if_neg d,if_neg d,if_pos rfl]
  ·rw[if_neg b,if_neg b,if_neg b]
 ·rw[if_neg a,if_neg a,if_neg a]
def ac0 (way:Int):Value:=if iC way=true then .func (.func (T4 way)) #[] #[] else .nilFunc
theorem PI (way:Int)(b:World)(r:Nat)(a:b.heap[r]? =some (.map Yd 5)):(Instr.lookup 219 (.map (some r)) (yi way) false).run Tryz.prog b= .ok (ac0 way) b:=by
 by_cases h:iC way=true
 ·rcases zi h with rfl|rfl|rfl|rfl|rfl
  ·exact pj underlying219 underlying3 a 1 rfl
  ·exact pj underlying219 underlying3 a 2 rfl
  ·exact pj underlying219 underlying3 a 3 rfl
  ·exact pj underlying219 underlying3 a 4 rfl
  ·exact pj underlying219 underlying3 a 5 rfl
 ·have d: ¬(1≤way∧way≤5):=fun c=>h (decide_eq_true c)
  unfold ac0;rw[if_neg h];refine Yc underlying219 underlying3 a way ?_ ?_
  ·kernel_rfl
  ·simp[Yd,Instr.findNow,XI,show¬way=1 by omega,show¬way=2 by omega,show¬way=3 by omega,show¬way=4 by omega,show¬way=5 by omega]
theorem PK {way:Int}(h:iC way=true)(a:Int)(c b:Bool)(d:World):yC (T4 way) #[.agg #[yi a,.bool c,.bool b]] d (yR d (.bool (gY way a c b))):=by
 rcases zi h with rfl|rfl|rfl|rfl|rfl
 ·exact Yf a c b d
 ·exact Yg a c b d
 ·exact Yh a c b d
 ·exact Yi a c b d
 ·exact Yj a c b d
theorem PO {way:Int}(h:iC way=true)(a:Array Value)(W:World):Sem.run Tryz.prog (callFunc (T4 way) a) W= .ok (.enter (T4 way) a) W:=by
 rcases zi h with rfl|rfl|rfl|rfl|rfl
 ·exact enter_of func170 (by kernel_rfl) rfl a W
 ·exact enter_of func171 (by kernel_rfl) rfl a W
 ·exact enter_of func172 (by kernel_rfl) rfl a W
 ·exact enter_of func173 (by kernel_rfl) rfl a W
 ·exact enter_of func174 (by kernel_rfl) rfl a W
def eE (xs ys:List Nat)(E R D L G way:Int):Int:=
 if jg (eA xs ys E) (bk R D L G)=0 then(if iC way=true then 0 else 6) else jg (eA xs ys E) (bk R D L G)
def df (xs ys:List Nat)(E R D L G:Int)(gr qs:Bool)(way:Int):fz:=
 if eE xs ys E R D L G way=0 then(if xs.length=0 then⟨false,0,0,true,false,false⟩ else cI R D L G gr qs (Dg.vl 4294967296 xs) (Dg.vl 4294967296 ys) E way) else oI
theorem gO {xs a:List Nat}{E:Int}(h:eA xs a E=0):chk xs=0∧chk a=0∧0<a.length∧ -20000≤E∧E≤20000:=by
 unfold eA at h
 by_cases b:chk xs=0
 ·rw[if_pos b] at h
  by_cases d:chk a=0
  ·rw[if_pos d] at h
   by_cases e:a.length=0∨eJ 20000 E=true
   ·rw[if_pos e] at h
    cases h
   ·have f: ¬eJ 20000 E=true:=fun c=>e (Or.inr c)
    unfold eJ at f;simp at f;refine⟨b,d, ?_,by omega,by omega⟩;have: ¬a.length=0:=fun c=>e (Or.inl c)
    omega
  ·rw[if_neg d] at h
   exact absurd h d
 ·rw[if_neg b] at h
  exact absurd h b
theorem ac1 {zs a:List Nat}{i:Nat}(h:WI zs a i)(l:zs.length≤2*i):a=Bg zs:=by
 obtain⟨e,f⟩:=h;apply List.ext_getElem (by rw[Cq];exact e);intro k g j;have b:k<zs.length:=by omega
 have c:a.getD k 0=a[k]:=by simp[List.getD_eq_getElem?_getD,g]
 have d:(Bg zs).getD k 0=(Bg zs)[k]:=by simp only[List.getD_eq_getElem?_getD,List.getElem?_eq_getElem j,Option.getD_some]
 rw[←c,←d,f k b,if_pos (by omega),Fl zs k b]
def kU (k:Nat)(ng:Bool)(e f:Nat):List Nat:=jT k (iS (1+exN k) (frN k) f (iS 1 (exN k) e (if ng then iS 0 1 1 (List.replicate (szN k) 0) else List.replicate (szN k) 0)))
abbrev KF:=fieldsOf_set_mg.1
abbrev KG:=fieldsOf_set_mg.2
def aS (xs:List Nat)(e:Int):Int:=if chk xs=0 then(if e< -20000∨20000<e then 3 else 0) else chk xs
theorem bL {xs:List Nat}{e:Int}(h:aS xs e=0):chk xs=0∧ -20000≤e∧e≤20000:=by
 unfold aS at h
 by_cases a:chk xs=0
 ·rw[if_pos a] at h
  by_cases b:e< -20000∨20000<e
  ·rw[if_pos b] at h;omega
  ·exact⟨a,by omega,by omega⟩
 ·rw[if_neg a] at h;exact absurd h a
theorem qB (v:Value)(t:ak)(w:World)(l:Dv w v t):yC 184 #[v] w (yR w (yi (dJ t))):=by
 obtain⟨o,rfl,d⟩:=l;obtain⟨j,k,rfl⟩:=d.shape;obtain⟨i,n,e⟩:=t;have g:=Dg.dg_nil_iff 4294967296 n (by omega);simp only at d⊢;unfold dJ;simp only;obtain⟨m,c⟩: ∃m,(Dg.dg 4294967296 n).length=m:=⟨_,rfl⟩;have a:m=0↔n=0:=by rw[←c,List.length_eq_zero_iff];exact g
 rw[c];have b:=af w (.cells (ydA i (.slice j m k) e) 191);clear c d g
 by_cases h:n=0
 ·rw[if_pos h]
  have f:=a.2 h;subst f;clear a h
  go_enter func184,ntmps184
  go_wp2
  go_ret
  exact⟨rfl,b⟩
 ·rw[if_neg h]
  have f:((m:Int)==0)=false:=by
   have: ¬m=0:=fun e=>h (a.1 e)
   simp;exact this
  clear a h
  cases i
  ·go_enter func184,ntmps184
   go_wp2
   go_ret
   exact⟨rfl,b⟩
  ·go_enter func184,ntmps184
   go_wp2
   go_ret
   exact⟨rfl,b⟩
theorem gN {t:ak}(h:t.n≠0):(bare t).n≠0∧(bare t).e=t.e+(tz t.n:Int)∧(bare t).e+(bitLen (bare t).n:Int)=t.e+(bitLen t.n:Int):=by
 obtain⟨m,a⟩:=fO h;have e:(bare t).n=2*m+1∧(bare t).e=t.e+(tz t.n:Int):=by
  unfold bare;rw[if_neg h];exact⟨lI a,rfl⟩
 have b:bitLen t.n=tz t.n+bitLen (2*m+1):=by
  have:=Ad (2*m+1) (tz t.n) (by omega)
  rwa [←a] at this
 refine⟨by omega,e.2, ?_⟩;rw[e.1,e.2,b];omega
theorem lU {n:Nat}(h:n≠0)(E:Int):dY n 1 E=(bitLen n:Int)-1+E:=by
 obtain⟨b,a,d⟩:=uB n h;have e:=(BC n 1 0 (bitLen n-1) h (by omega)).1 (by simpa using a);have f: ¬((bitLen n:Nat):Int)≤dY n 1 0+((0:Nat):Int):=fun c=>by
  have:=(BC n 1 0 (bitLen n) h (by omega)).2 c;simp at this;omega
 rw[qD];omega
theorem nW {R D L G:Int}{gr qs:Bool}{N M:Nat}{E way:Int}(g:1≤D)(m:L≤G)(j:N≠0)(i:M≠0)(k:(cI R D L G gr qs N M E way).ov=false)(a:(cI R D L G gr qs N M E way).un=false∨gr=true):
  ((cI R D L G gr qs N M E way).d=0∧(cI R D L G gr qs N M E way).p=0)∨((cI R D L G gr qs N M E way).d≠0∧L≤(cI R D L G gr qs N M E way).p∧(cI R D L G gr qs N M E way).p≤G∧(cI R D L G gr qs N M E way).d<2^ (ai R*D.toNat)∧(2^ (ai R*(D-1).toNat)≤(cI R D L G gr qs N M E way).d∨(gr=true∧(cI R D L G gr qs N M E way).p=L))):=by
 rw[kJ gr qs N M E way g m j i] at k a⊢;simp only at k a⊢;have l:=of_decide_eq_false k
 by_cases f:io R D (fM R D L gr qs N M E way)=0
 ·exact .inl ⟨f,if_pos f⟩
 ·refine .inr ⟨f, ?_⟩
  rw[if_neg f];have r:=rP R D L gr N M E g j i;have n:=KL R D L gr qs N M E way;have q:fM R D L gr qs N M E way≤cH R D L gr N M E+1:=by
   unfold fM
   split<;>omega
  have o:2^ (ai R*(D-1).toNat)<2^ (ai R*D.toNat):=by
   refine Nat.pow_lt_pow_right (by omega) ?_;exact Nat.mul_lt_mul_of_pos_left (by omega) (by have:=eN R;omega)
  have hcut:L≤dj R D L gr N M E∧(dj R D L gr N M E=aT R D (dY N M E)∨(gr=true∧dj R D L gr N M E=L)):=by
   unfold dj
   by_cases b:(decide (aT R D (dY N M E)<L)&&gr)=true
   ·rw[if_pos b]
    exact⟨Int.le_refl _,.inr ⟨(Bool.and_eq_true_iff.1 b).2,rfl⟩⟩
   ·rw[if_neg b]
    refine⟨?_,.inl rfl⟩
    rcases a with a|a
    ·have:=of_decide_eq_false a
     omega
    ·rw[a,Bool.and_true] at b
     have: ¬aT R D (dY N M E)<L:=fun c=>b (decide_eq_true c)
     omega
  unfold io gD at*
  by_cases e:fM R D L gr qs N M E way=2^ (ai R*D.toNat)
  ·rw[if_pos e] at l⊢
   rw[if_pos e];exact⟨by omega,by omega,o,.inl (Nat.le_refl _)⟩
  ·rw[if_neg e] at l⊢
   rw[if_neg e];refine⟨hcut.1,by omega,by omega, ?_⟩
   rcases hcut.2 with h|h
   ·refine .inl (Nat.le_trans ?_ n)
    have:=mt (xx R D (aT R D (dY N M E)) N M E g j i).1 (Int.lt_irrefl _);rw[pP] at this;unfold cH shP;rw[h];omega
   ·exact .inr h
theorem fI (a:ak):(bare a).n=0↔a.n=0:=by
 by_cases h:a.n=0
 ·unfold bare
  rw[if_pos h];exact⟨fun _=>h,fun _=>rfl⟩
 ·unfold bare
  rw[if_neg h];obtain⟨m,c⟩:=fO h;have:=lI c;exact⟨fun b=>by simp only at b;omega,fun b=>absurd b h⟩
theorem N7 (n:Int)(R sz a:Nat)(D L G b:Int)(gr:Bool)(F:Nat)(ng:Bool)(e f:Nat)(s:ByteArray)(w:World)(U:s.size=sz)
  (y:yJ 35 #[yi n] (.tuple #[ylV R D L G gr sz a b F,yi 0]))
  (A:yJ 112 #[ylV R D L G gr sz a b F,.string s] (yfV ng e f)):
  yC 67 #[yi n,.string s] w (yR w (.tuple #[ylV R D L G gr sz a b F,yfV ng e f,yi 0])):=by
 have Y:=cD;have Z:=gn;have H:=af w (.cells (yzA 0 0 0 0 false 0 0 0) 93);have t:=af (w.alloc (.cells (yzA 0 0 0 0 false 0 0 0) 93)) (.cells (yfA false 0 0) 134);have u:=(ah w (yzL 0 0 0 0 false 0 0 0) 93).l t;have r:=ah (w.alloc (.cells (yzA 0 0 0 0 false 0 0 0) 93)) (yfL false 0 0) 134;have B:=aa H t;rw[World.size_alloc] at r;clear H t;have S:Hid _:=y;have T:Hid _:=A;clear y A
 go_enter func67,ntmps67
 go_wp2_with fail
 refine(S.out _).mono ?_;rintro z c ⟨rfl,i⟩;have o:=af c (.cells (ylA R D L G gr sz a b F) 93);have K:=((u.l i).l o).drew;have M:=((r.l i).l o).drew;have v:=ah c (ylL R D L G gr sz a b F) 93;have C:=(aa (aa B i) o).drew;have N:=v.drew;have W:w.heap.size≠c.heap.size:=Nat.ne_of_lt (u.l i).lt;have X:w.heap.size+1≠c.heap.size:=Nat.ne_of_lt (r.l i).lt;obtain⟨p0,p1,p2,p3,p4,p5,p6,p7,p8⟩:=v.cs9;have a0:((s.size:Int) != (sz:Int))=false:=by rw[U];simp
 go_wp2_with fail
 go_region_held3 (fun h=>h.cell? ⟨c.heap.size,0,none⟩=some (yi R)∧h.cell? ⟨c.heap.size,1,none⟩=some (yi D)∧h.cell? ⟨c.heap.size,2,none⟩=some (yi L)∧h.cell? ⟨c.heap.size,3,none⟩=some (yi G)∧h.cell? ⟨c.heap.size,4,none⟩=some (.bool gr)∧h.cell? ⟨c.heap.size,5,none⟩=some (yi sz)∧h.cell? ⟨c.heap.size,6,none⟩=some (yi a)∧h.cell? ⟨c.heap.size,7,none⟩=some (yi b)∧h.cell? ⟨c.heap.size,8,none⟩=some (.func (.func F) #[] #[])) (go_keep) (first
  | (go_at_call 112;refine(T.out _).mono ?_;rintro z x ⟨rfl,k⟩;have g:=K.l k;have j:=M.l k;have O:=N.l k;have E:=aa C k;obtain⟨x0,x1,x2,x3,x4,x5,x6,x7,x8⟩:=g.cs9;have a1:=g.f 0;have a2:=g.f 1;have a3:=g.f 2;have a4:=g.f 3;have a5:=g.f 4;have a6:=g.f 5;have a7:=g.f 6;have a8:=g.f 7;have a9:=g.f 8;obtain⟨y0,y1,y2⟩:=j.cs3;have ab:=j.f 0;have ac:=j.f 1;have ad:=j.f 2;obtain⟨s0,s1,s2,s3,s4,s5,s6,s7,s8⟩:=O.cs9))
 have d:w.heap.size+1≠w.heap.size:=Nat.succ_ne_self _;have I:au ((((((((((((x.setCell ⟨w.heap.size,0,none⟩ (yi R)).setCell ⟨w.heap.size,1,none⟩ (yi D)).setCell ⟨w.heap.size,2,none⟩ (yi L)).setCell ⟨w.heap.size,3,none⟩ (yi G)).setCell ⟨w.heap.size,4,none⟩ (.bool gr)).setCell ⟨w.heap.size,5,none⟩ (yi sz)).setCell ⟨w.heap.size,6,none⟩ (yi a)).setCell ⟨w.heap.size,7,none⟩ (yi b)).setCell ⟨w.heap.size,8,none⟩ (.func (.func F) #[] #[])).setCell ⟨w.heap.size+1,0,none⟩ (.bool ng)).setCell ⟨w.heap.size+1,1,none⟩ (yi e)).setCell ⟨w.heap.size+1,2,none⟩ (.int .u64 f)) w.heap.size 93 (ylL R D L G gr sz a b F):=((((((((((((g.set 0 (yi R)).set 1 (yi D)).set 2 (yi L)).set 3 (yi G)).set 4 (.bool gr)).set 5 (yi sz)).set 6 (yi a)).set 7 (yi b)).set 8 (.func (.func F) #[] #[])).off d 0 (.bool ng)).off d 1 (yi e)).off d 2 (.int .u64 f));have J:au ((((((((((((x.setCell ⟨w.heap.size,0,none⟩ (yi R)).setCell ⟨w.heap.size,1,none⟩ (yi D)).setCell ⟨w.heap.size,2,none⟩ (yi L)).setCell ⟨w.heap.size,3,none⟩ (yi G)).setCell ⟨w.heap.size,4,none⟩ (.bool gr)).setCell ⟨w.heap.size,5,none⟩ (yi sz)).setCell ⟨w.heap.size,6,none⟩ (yi a)).setCell ⟨w.heap.size,7,none⟩ (yi b)).setCell ⟨w.heap.size,8,none⟩ (.func (.func F) #[] #[])).setCell ⟨w.heap.size+1,0,none⟩ (.bool ng)).setCell ⟨w.heap.size+1,1,none⟩ (yi e)).setCell ⟨w.heap.size+1,2,none⟩ (.int .u64 f)) (w.heap.size+1) 134 (yfL ng e f):=((((((((((((j.off (Ne.symm d) 0 (yi R)).off (Ne.symm d) 1 (yi D)).off (Ne.symm d) 2 (yi L)).off (Ne.symm d) 3 (yi G)).off (Ne.symm d) 4 (.bool gr)).off (Ne.symm d) 5 (yi sz)).off (Ne.symm d) 6 (yi a)).off (Ne.symm d) 7 (yi b)).off (Ne.symm d) 8 (.func (.func F) #[] #[])).set 0 (.bool ng)).set 1 (yi e)).set 2 (.int .u64 f));have m:=(((ag _ (w.heap.size+1) 0 (.bool ng)).trans (ag _ (w.heap.size+1) 1 (yi e))).trans (ag _ (w.heap.size+1) 2 (.int .u64 f))).below ((((((((((ag x w.heap.size 0 (yi R)).trans (ag _ w.heap.size 1 (yi D))).trans (ag _ w.heap.size 2 (yi L))).trans (ag _ w.heap.size 3 (yi G))).trans (ag _ w.heap.size 4 (.bool gr))).trans (ag _ w.heap.size 5 (yi sz))).trans (ag _ w.heap.size 6 (yi a))).trans (ag _ w.heap.size 7 (yi b))).trans (ag _ w.heap.size 8 (.func (.func F) #[] #[]))).below E (Nat.le_refl _)) (Nat.le_succ _);have p:=run_loadVar_mid (P:=Tryz.prog) _ w.heap.size 0 93 (ylL R D L G gr sz a b F) _ I.range underlying93 rfl (by kernel_rfl);have q:=run_loadVar_mid (P:=Tryz.prog) _ (w.heap.size+1) 0 134 (yfL ng e f) _ J.range underlying134 rfl (by kernel_rfl);have Q:Hid (_∧_∧_):=⟨p,q,m⟩;clear p q m I J g j O E K M v N C u r B o i k
 go_wp2
 obtain⟨p,q,m⟩:=Q.out;exact bodyPost_ret (kg results67 rfl rfl rfl p q) rfl ⟨rfl,m⟩
def ae3 (w:World)(s:ByteArray)(r:Nat)(tv av:Value)(wr:World):Prop:=
 ∃(p:Nat) (T:ByteArray),tv= .string T∧adS s T p∧T.size=r∧Own wr w.heap.size 105 .u32 av (Dg.dg 4294967296 (pv s p))∧yB w wr
theorem ja (f:Value)(t:ak)(w:World)(b:Rd w .i64 f (Dg.dg 65536 t.n)):yC 63 #[ydV t.s f t.e] w (yR w (.agg #[.bool (dB t).s,f,yi (dB t).e])):=by
 obtain⟨j,k,rfl⟩:=b.shape;obtain⟨g,n,e⟩:=t;have d:=Dg.dg_nil_iff 65536 n (by omega);simp only at b⊢;unfold dB;simp only;have a:(0< (Dg.dg 65536 n).length)↔0<n:=by
  rw[List.length_pos_iff,Ne,d];omega
 obtain⟨m,c⟩: ∃m,(Dg.dg 65536 n).length=m:=⟨_,rfl⟩;rw[c] at a b⊢;clear b
 by_cases h:0<n
 ·have i:=a.2 h
  rw[decide_eq_true h,Bool.and_true];clear a h c d
  cases g
  ·go_enter func63,ntmps63
   go_wp2
   go_returns
   exact⟨rfl,aa (af w _) (af _ _)⟩
  ·go_enter func63,ntmps63
   go_wp2
   go_returns
   exact⟨rfl,aa (af w _) (af _ _)⟩
 ·have i: ¬0<m:=fun e=>h (a.1 e)
  rw[decide_eq_false h,Bool.and_false];clear a h c d
  cases g
  ·go_enter func63,ntmps63
   go_wp2
   go_returns
   exact⟨rfl,aa (af w _) (af _ _)⟩
  ·go_enter func63,ntmps63
   go_wp2
   go_returns
   exact⟨rfl,aa (af w _) (af _ _)⟩
theorem RT (R D L G:Int)(gr s:Bool)(a:Option Addr)(d b:Nat)(e:Int)(w:World)
  (k:yH w 184 #[ydV s (.slice a d b) e] (yi 0)):
  yC 157 #[ygV R D L G gr,ydV s (.slice a d b) e] w (D7 w true 0 L):=by
 replace k:Hid _:=k;have m:=aa (aa (af w (.cells (ygA R D L G gr) 193)) (af _ (.cells (ydA s (.slice a d b) e) 191))) (af _ (.cells #[yN,yi 0] 196));have o:=((ah w (ygL R D L G gr) 193).l (af _ (.cells (ydA s (.slice a d b) e) 191))).l (af _ (.cells #[yN,yi 0] 196));have i:=(ah (w.alloc (.cells (ygA R D L G gr) 193)) (ydL s (.slice a d b) e) 191).l (af _ (.cells #[yN,yi 0] 196));have n:=ah ((w.alloc (.cells (ygA R D L G gr) 193)).alloc (.cells (ydA s (.slice a d b) e) 191)) [yN,yi 0] 196;simp only[World.size_alloc] at i n;obtain⟨A,B,C⟩:=i.cs3
 go_enter func157,ntmps157
 go_wp2_with fail
 refine(k.out _ m).mono ?_;rintro z j ⟨rfl,g⟩;clear A B C;have u:=o.l g;have J:=i.l g;have h:=n.l g;have p:=aa m g;clear o i n m g;have K:=u.c 2 rfl;have E:=h.c 0 rfl;have H:=h.f 0;have F:=h.c 1 rfl;have I:=h.f 1
 go_wp2
 have r:But (w.heap.size+1+1) j ((j.setCell ⟨w.heap.size+1+1,0,none⟩ yN).setCell ⟨w.heap.size+1+1,1,none⟩ (yi L)):=(ag j (w.heap.size+1+1) 0 yN).trans (ag _ (w.heap.size+1+1) 1 (yi L));have t:au ((j.setCell ⟨w.heap.size+1+1,0,none⟩ yN).setCell ⟨w.heap.size+1+1,1,none⟩ (yi L)) (w.heap.size+1+1) 196 [yN,yi L]:=(h.set 0 yN).set 1 (yi L);have q:=r.below p (show w.heap.size≤w.heap.size+1+1 by omega)
 obtain⟨x,y⟩:=t.cs2;refine bodyPost_ret (v:= .tuple #[.agg #[yN,yi L],.bool true]) (by simp[results,results157,go_sem,x,y]) rfl ?_;exact⟨_,rfl,aQ _ _ _ _,q⟩
theorem Og {R D L G:Int}{gr:Bool}{n:Nat}{e:Int}(c:bk R D L G=0)(i:bitLen n≤40000)(f: -100000≤e)(g:e≤100000):
  -341000≤cP R D L gr n e∧cP R D L gr n e≤341000∧ -341000≤(ai R:Int)*cP R D L gr n e∧(ai R:Int)*cP R D L gr n e≤341000:=by
 obtain⟨h,a,b,j,k,-,-,-,-⟩:=cB c;have d:=Bp (R:=R) (D:=D) (t:=(bitLen n:Int)-1+e) a b (by omega) (by omega);unfold cP
 split
 ·unfold ai
  split<;>simp<;>omega
 ·exact d
theorem Zr (R D L G:Int)(gr s:Bool)(t:Option Addr)(A x:Nat)(p:Int)(g h i:Bool)(wd B I c:Int)(a0 rs:Bool)(q:Nat)(o:Int)(w:World)
  (HA: ¬B=0→rs=false∧q=0∧o=0∧c=B) (HB:B=0→ ¬I=0→rs=false∧q=0∧o=0∧c=I) (HC:B=0→I=0→a0=true→rs=false∧q=0∧o=0∧c=3)
  (U:yH w 36 #[.slice t A x] (yi B))
  (HG:yJ 116 #[ygV R D L G gr] (yi I))
  (HF: ∀w1,yC 117 #[yi p,yi 20000] w1 fun z w'=>z= .returned (.bool a0)∧w'=w1)
  (HM:B=0→I=0→a0=false→yJ 118 #[ygV R D L G gr,.bool s,.agg #[.slice t A x,yi p]] (ydV s (.slice t A x) (wd*p)))
  (HS:B=0→I=0→a0=false→ ∀w1,yB w w1→yC 119 #[ydV s (.slice t A x) (wd*p)] w1 (gR w1 (⟨rs,q,o⟩,c))):
  yC 69 #[ypV s (.slice t A x) p g h i,ygV R D L G gr] w (gR w (⟨rs,q,o⟩,c)):=by
 replace HA:Hid _:=HA;replace HB:Hid _:=HB;replace HC:Hid _:=HC;replace U:Hid _:=U;replace HG:Hid _:=HG;replace HF:Hid _:=HF;replace HM:Hid _:=HM;replace HS:Hid _:=HS;have j:=aa (aa (af w (.cells (ypA s (.slice t A x) p g h i) 141)) (af _ (.cells (ygA R D L G gr) 54))) (af _ (.cells (ydA false yN 0) 41));have m:=((ah w (ypL s (.slice t A x) p g h i) 141).l (af _ (.cells (ygA R D L G gr) 54))).l (af _ (.cells (ydA false yN 0) 41));have y:=(ah (w.alloc (.cells (ypA s (.slice t A x) p g h i) 141)) (ygL R D L G gr) 54).l (af _ (.cells (ydA false yN 0) 41));have u:=ah ((w.alloc (.cells (ypA s (.slice t A x) p g h i) 141)).alloc (.cells (ygA R D L G gr) 54)) (ydL false yN 0) 41;simp only[World.size_alloc] at y u
 by_cases M:B=0
 ·have a2:Hid _:=HB.out M
  have a3:Hid _:=HC.out M;have a5:Hid _:=HM.out M;have a7:Hid _:=HS.out M;clear HA HB HC HM HS;subst M
  by_cases X:I=0
  ·have a4:Hid _:=a3.out X
   have a6:Hid _:=a5.out X;have a8:Hid _:=a7.out X;clear a2 a3 a5 a7;subst X
   cases a0
   ·have ae:Hid _:=a6.out rfl
    have al:Hid _:=a8.out rfl;clear a4 a6 a8;have E:=m.c 1 rfl
    go_enter func69,ntmps69
    go_wp2_with fail
    refine(U.out _ j).mono ?_;rintro z Q ⟨rfl,a⟩;clear E;have C:=m.l a;have k:=y.l a;have e:=u.l a;have r:=aa j a;clear m y u j a;obtain⟨S,g,h,i,T⟩:=k.cs5
    go_wp2_with fail
    refine(HG.out _).mono ?_;rintro z w3 ⟨rfl,d⟩;have Y:=C.l d;have a1:=k.l d;have b:=e.l d;have W:=aa r d;clear C k e r d;clear S g h i T;obtain⟨y0,E,y2⟩:=Y.cs3;obtain⟨S,g,h,i,T⟩:=a1.cs5
    go_wp2_with fail
    refine(HF.out _).mono ?_;rintro z w4 ⟨rfl,rfl⟩
    go_wp2_with fail
    refine(ae.out _).mono ?_;rintro z w5 ⟨rfl,n⟩;clear S g h i T y0 E y2;have ad:=Y.l n;have ac:=a1.l n;have ab:=b.l n;have a9:=aa W n;clear Y a1 b W n;have av:w.heap.size+1+1<w5.heap.size:=ab.lt
    go_wp2_with fail
    refine(al.out _ a9).mono ?_;rintro z w6 ⟨vr,rfl,o6,n⟩;have ax:=ad.l n;have aq:=ac.l n;have H:=ab.l n;have an:=aa a9 n;clear ad ac ab a9 n;obtain⟨so,Z,ap⟩:=o6.rd.shape;subst ap;have d0:=H.c 0 rfl;have f0:=H.f 0;have d1:=H.c 1 rfl;have f1:=H.f 1;have d2:=H.c 2 rfl;have f2:=H.f 2
    go_wp2
    have F:But (w.heap.size+1+1) w6 (((w6.setCell ⟨w.heap.size+1+1,0,none⟩ (.bool rs)).setCell ⟨w.heap.size+1+1,1,none⟩ (yT so q Z)).setCell ⟨w.heap.size+1+1,2,none⟩ (yi o)):=((ag w6 (w.heap.size+1+1) 0 (.bool rs)).trans (ag _ (w.heap.size+1+1) 1 (yT so q Z))).trans (ag _ (w.heap.size+1+1) 2 (yi o));have K:au (((w6.setCell ⟨w.heap.size+1+1,0,none⟩ (.bool rs)).setCell ⟨w.heap.size+1+1,1,none⟩ (yT so q Z)).setCell ⟨w.heap.size+1+1,2,none⟩ (yi o)) (w.heap.size+1+1) 41 (ydL rs (yT so q Z) o):=((H.set 0 (.bool rs)).set 1 (yT so q Z)).set 2 (yi o);have J:=F.below an (show w.heap.size≤w.heap.size+1+1 by omega)
    have oX:=F.own o6 H (by decide);obtain⟨N,O,P⟩:=K.cs3;refine bodyPost_ret (v:= .tuple #[ydV rs (yT so q Z) o,yi c]) (by simp[results,results69,go_sem,N,O,P]) rfl ?_;exact⟨_,rfl,oX.lower (by omega),J⟩
   ·obtain⟨h1,h2,h3,h4⟩:=a4.out rfl
    clear a4 a6 a8;subst h1 h2 h3 h4;have E:=m.c 1 rfl
    go_enter func69,ntmps69
    go_wp2_with fail
    refine(U.out _ j).mono ?_;rintro z Q ⟨rfl,a⟩;clear E;have C:=m.l a;have k:=y.l a;have e:=u.l a;have r:=aa j a;clear m y u j a;obtain⟨S,g,h,i,T⟩:=k.cs5
    go_wp2_with fail
    refine(HG.out _).mono ?_;rintro z w3 ⟨rfl,d⟩;have Y:=C.l d;have a1:=k.l d;have b:=e.l d;have W:=aa r d;clear C k e r d;clear S g h i T;have y2:=Y.c 2 rfl
    go_wp2_with fail
    refine(HF.out _).mono ?_;rintro z w4 ⟨rfl,rfl⟩;clear y2;have d0:=b.c 0 rfl;have f0:=b.f 0;have d1:=b.c 1 rfl;have f1:=b.f 1;have d2:=b.c 2 rfl;have f2:=b.f 2
    go_wp2
    have F:But (w.heap.size+1+1) w4 (((w4.setCell ⟨w.heap.size+1+1,0,none⟩ (.bool false)).setCell ⟨w.heap.size+1+1,1,none⟩ yN).setCell ⟨w.heap.size+1+1,2,none⟩ (yi 0)):=((ag w4 (w.heap.size+1+1) 0 (.bool false)).trans (ag _ (w.heap.size+1+1) 1 yN)).trans (ag _ (w.heap.size+1+1) 2 (yi 0));have K:au (((w4.setCell ⟨w.heap.size+1+1,0,none⟩ (.bool false)).setCell ⟨w.heap.size+1+1,1,none⟩ yN).setCell ⟨w.heap.size+1+1,2,none⟩ (yi 0)) (w.heap.size+1+1) 41 (ydL false yN 0):=((b.set 0 (.bool false)).set 1 yN).set 2 (yi 0);have J:=F.below W (show w.heap.size≤w.heap.size+1+1 by omega)
    obtain⟨N,O,P⟩:=K.cs3;refine bodyPost_ret (v:= .tuple #[ydV false yN 0,yi 3]) (by simp[results,results69,go_sem,N,O,P]) rfl ?_;exact⟨_,rfl,aQ _ _ _ _,J⟩
  ·obtain⟨h1,h2,h3,h4⟩:=a2.out X
   clear a2 a3 a5 a7;have ar:(I==0)=false:=by simp[X]
   subst h1 h2 h3 h4;have E:=m.c 1 rfl
   go_enter func69,ntmps69
   go_wp2_with fail
   refine(U.out _ j).mono ?_;rintro z Q ⟨rfl,a⟩;clear E;have C:=m.l a;have k:=y.l a;have e:=u.l a;have r:=aa j a;clear m y u j a;obtain⟨S,g,h,i,T⟩:=k.cs5
   go_wp2_with fail
   refine(HG.out _).mono ?_;rintro z w3 ⟨rfl,d⟩;have Y:=C.l d;have a1:=k.l d;have b:=e.l d;have W:=aa r d;clear C k e r d;clear S g h i T;have d0:=b.c 0 rfl;have f0:=b.f 0;have d1:=b.c 1 rfl;have f1:=b.f 1;have d2:=b.c 2 rfl;have f2:=b.f 2
   go_wp2
   have F:But (w.heap.size+1+1) w3 (((w3.setCell ⟨w.heap.size+1+1,0,none⟩ (.bool false)).setCell ⟨w.heap.size+1+1,1,none⟩ yN).setCell ⟨w.heap.size+1+1,2,none⟩ (yi 0)):=((ag w3 (w.heap.size+1+1) 0 (.bool false)).trans (ag _ (w.heap.size+1+1) 1 yN)).trans (ag _ (w.heap.size+1+1) 2 (yi 0));have K:au (((w3.setCell ⟨w.heap.size+1+1,0,none⟩ (.bool false)).setCell ⟨w.heap.size+1+1,1,none⟩ yN).setCell ⟨w.heap.size+1+1,2,none⟩ (yi 0)) (w.heap.size+1+1) 41 (ydL false yN 0):=((b.set 0 (.bool false)).set 1 yN).set 2 (yi 0);have J:=F.below W (show w.heap.size≤w.heap.size+1+1 by omega)
   obtain⟨N,O,P⟩:=K.cs3;refine bodyPost_ret (v:= .tuple #[ydV false yN 0,yi c]) (by simp[results,results69,go_sem,N,O,P]) rfl ?_;exact⟨_,rfl,aQ _ _ _ _,J⟩
 ·obtain⟨h1,h2,h3,h4⟩:=HA.out M
  clear HA HB HC HM HS;have aw:(B==0)=false:=by simp[M]
  subst h1 h2 h3 h4;have E:=m.c 1 rfl
  go_enter func69,ntmps69
  go_wp2_with fail
  refine(U.out _ j).mono ?_;rintro z Q ⟨rfl,a⟩;clear E;have C:=m.l a;have k:=y.l a;have e:=u.l a;have r:=aa j a;clear m y u j a;have d0:=e.c 0 rfl;have f0:=e.f 0;have d1:=e.c 1 rfl;have f1:=e.f 1;have d2:=e.c 2 rfl;have f2:=e.f 2
  go_wp2
  have F:But (w.heap.size+1+1) Q (((Q.setCell ⟨w.heap.size+1+1,0,none⟩ (.bool false)).setCell ⟨w.heap.size+1+1,1,none⟩ yN).setCell ⟨w.heap.size+1+1,2,none⟩ (yi 0)):=((ag Q (w.heap.size+1+1) 0 (.bool false)).trans (ag _ (w.heap.size+1+1) 1 yN)).trans (ag _ (w.heap.size+1+1) 2 (yi 0));have K:au (((Q.setCell ⟨w.heap.size+1+1,0,none⟩ (.bool false)).setCell ⟨w.heap.size+1+1,1,none⟩ yN).setCell ⟨w.heap.size+1+1,2,none⟩ (yi 0)) (w.heap.size+1+1) 41 (ydL false yN 0):=((e.set 0 (.bool false)).set 1 yN).set 2 (yi 0);have J:=F.below r (show w.heap.size≤w.heap.size+1+1 by omega)
  obtain⟨N,O,P⟩:=K.cs3;refine bodyPost_ret (v:= .tuple #[ydV false yN 0,yi c]) (by simp[results,results69,go_sem,N,O,P]) rfl ?_;exact⟨_,rfl,aQ _ _ _ _,J⟩
theorem mL.l {w w':World}{b:Nat}{d e f g i j:Value}(h:mL w b d e f g i j)(a:yB w w'):mL w' b d e f g i j:=by
 obtain⟨c,⟨k,m,n,o,p,q⟩,r,s,t,u,v,x⟩:=h;refine⟨Nat.lt_of_lt_of_le c a.size,⟨cell_later a k,cell_later a m,cell_later a n,cell_later a o,cell_later a p,cell_later a q⟩, ?_, ?_, ?_, ?_, ?_, ?_⟩
 all_goals rw[a.frozen (by exact c)];assumption
theorem ZB6.l {w w':World}{b:Nat}(h:ZB6 w b)(a:yB w w'):ZB6 w' b:=by
 obtain⟨c,e,d⟩:=h;exact⟨Nat.lt_of_lt_of_le c a.size,e,(a.block b c).trans d⟩
theorem Ag.l {W a:World}{base:Nat}{v:Value}(h:Ag W base v)(e:yB W a):Ag a base v:=by
 obtain⟨p,b,c,d⟩:=h;exact⟨p,b,c,d.l e⟩
def BT (W:World)(base:Nat)(v:Value):Prop:= ∃p,v= .pointer (some ⟨p,0,none⟩)∧base≤p∧mL W p (.bool false) yN (yi 0) (.bool false) yN (yi 0)∧ZB6 W p
def V4 (W:World)(base:Nat)(v:Value):Prop:= ∃p,v= .pointer (some ⟨p,0,none⟩)∧base≤p∧Loc W p (.bool false) yN (yi 0)∧ZB W p
theorem BT.l {W a:World}{base:Nat}{v:Value}(h:BT W base v)(b:yB W a):BT a base v:=by
 obtain⟨p,c,d,e,f⟩:=h;exact⟨p,c,d,e.l b,f.l b⟩
theorem V4.l {W a:World}{base:Nat}{v:Value}(h:V4 W base v)(b:yB W a):V4 a base v:=by
 obtain⟨p,c,d,e,f⟩:=h;exact⟨p,c,d,e.l b,f.l b⟩
theorem RB6.l {W a:World}{v:Value}{x y:ak}(h:RB6 W v x y)(b:yB W a):RB6 a v x y:=by
 obtain⟨p,q,c,d,e⟩:=h;exact⟨p,q,c,d.l b,e.l b⟩
theorem shift1_any (m:Nat)(o:Option Addr)(k:Nat)(a:World)(c:(Dg.dg 4294967296 m).length≤900000)(b:Rd a .u32 (yT o m k) (Dg.dg 4294967296 m)):yC 43 #[yT o m k,yi 1] a (NmR a (m*2)):=by
 have:=eO _ _ 1 a b (Dg.small_dg _ _ (by omega)) (by omega) (by omega) (by omega);rw[Dg.vl_dg _ _ (by omega),CE m 1 (by omega)] at this;exact this.mono fun _ _ h=>num_nmR h
def prR (g:Bool)(H C:Nat)(P:Int)(k:Nat):ByteArray:=tpS g (oW (prQ H C k)) k ⟨(Lib.itoa (prN H C P k)).toArray⟩
theorem goes_up {l B:Nat}{o n:Bool}(h:B<l*2):gY 1 (dm ((l*2:Nat):Int) ((B:Nat):Int)) o n=true:=by
 unfold gY dm;rw[if_pos rfl,if_neg (by omega),if_pos (by omega)];rfl
theorem goes_not {l B:Nat}{o n:Bool}(h:l*2<B):gY 1 (dm ((l*2:Nat):Int) ((B:Nat):Int)) o n=false:=by
 unfold gY dm;rw[if_pos rfl,if_pos (by omega)];rfl
theorem round_out {R D L G E k:Int}{gr qs:Bool}{N M d:Nat}(f:dj R D L gr N M E=k)(e:d≠0)
  (g:(cH R D L gr N M E=d∧gF R D L gr N M E*2<dX M (shP R D L gr N M E))∨(cH R D L gr N M E+1=d∧dX M (shP R D L gr N M E)<gF R D L gr N M E*2)):
  (cI R D L G gr qs N M E 1).s=qs∧(cI R D L G gr qs N M E 1).d=io R D d∧(cI R D L G gr qs N M E 1).p=gD R D d k∧(cI R D L G gr qs N M E 1).ov=decide (G<gD R D d k):=by
 have h:fM R D L gr qs N M E 1=d:=by
  unfold fM rf
  rcases g with⟨a,b⟩| ⟨a,b⟩
  ·rw[goes_not b,if_neg (by rintro⟨-,c⟩;cases c),a]
  ·rw[goes_up b,if_pos ⟨decide_eq_false (by omega),rfl⟩,a]
 unfold cI;rw[h,if_neg e,f];exact⟨rfl,rfl,rfl,rfl⟩
theorem near_round {R D L G E k:Int}{gr qs:Bool}{N M d:Nat}(hD:1≤D)(hN:N≠0)(O:M≠0)(h0:d≠0)
  (C:d<2^ (ai R*D.toNat)) (hk:L≤k) (P:2^ (ai R*(D-1).toNat)≤d∨(gr=true∧k=L))
  (v:eZ N (E-(ai R:Int)*k)*(2*2^ (ai R*D.toNat))<d*dX M (E-(ai R:Int)*k)*(2*2^ (ai R*D.toNat))+d*dX M (E-(ai R:Int)*k))
  (u:d*dX M (E-(ai R:Int)*k)*(2*2^ (ai R*D.toNat))<eZ N (E-(ai R:Int)*k)*(2*2^ (ai R*D.toNat))+d*dX M (E-(ai R:Int)*k)):
  (cI R D L G gr qs N M E 1).s=qs∧(cI R D L G gr qs N M E 1).d=d∧(cI R D L G gr qs N M E 1).p=k∧(cI R D L G gr qs N M E 1).ov=decide (G<k):=by
 obtain⟨w1,w4⟩:=eN R;obtain⟨n,hn⟩: ∃n,E-(ai R:Int)*k=n:=⟨_,rfl⟩;rw[hn] at v u;have J:0<dX M n:=by rw[eM];exact Nat.mul_pos (Nat.pos_of_ne_zero O) (bG _)
 have H:=qD N M E;have U:=fun j=>BD N M n j hN O
 obtain⟨W,i⟩: ∃W,ai R=W:=⟨_,rfl⟩;rw[i] at w1 w4 hn v u C P;have eD:((W*D.toNat:Nat):Int)=(W:Int)*D:=by rw[Int.natCast_mul,show((D.toNat:Nat):Int)=D by omega]
 have ap:((W*(D-1).toNat:Nat):Int)=(W:Int)*(D-1):=by rw[Int.natCast_mul,show(((D-1).toNat:Nat):Int)=D-1 by omega]
 have eT:2^ (W*D.toNat)=2^ (W*(D-1).toNat)*2^W:=by
  rw[←Nat.pow_add,←Nat.mul_succ];congr 2;omega
 have ad:2≤2^W:=by
  have:2^1≤2^W:=Nat.pow_le_pow_right (by omega) w1;omega
 have Q:=U (W*D.toNat);have o:=U (W*(D-1).toNat);have al:0<2^ (W*(D-1).toNat):=bG _;have a0: ∀q,d<2^ (W*D.toNat)→io R D d=d∧gD R D d q=q:=fun q h=>by
  unfold io gD;rw[i,if_neg (by omega),if_neg (by omega)];exact⟨rfl,rfl⟩
 have y: ∀(hp:(eZ N n/dX M n=d∧eZ N n % dX M n*2<dX M n)∨(eZ N n/dX M n+1=d∧dX M n<eZ N n % dX M n*2)),
   (2^ (W*(D-1).toNat)≤eZ N n/dX M n∨(gr=true∧k=L))→
   (cI R D L G gr qs N M E 1).s=qs∧(cI R D L G gr qs N M E 1).d=d∧(cI R D L G gr qs N M E 1).p=k∧(cI R D L G gr qs N M E 1).ov=decide (G<k):=fun hp hq=>by
  have a7: ¬2^ (W*D.toNat)≤eZ N n/dX M n:=by omega
  have F:dj R D L gr N M E=k:=by
   unfold dj
   by_cases c:2^ (W*(D-1).toNat)≤eZ N n/dX M n
   ·have p1:=o.1 c
    have p2: ¬((W*D.toNat:Nat):Int)≤dY N M 0+n:=fun x=>a7 (Q.2 x)
    have:=powerR_eq (R:=R) (D:=D) (k:=k) (t:=dY N M E) (by rw[i,H];omega) (by rw[i,H];omega);rw[this,decide_eq_false (by omega)];rfl
   ·obtain⟨rfl,rfl⟩:=hq.resolve_left c
    have p1: ¬((W*(D-1).toNat:Nat):Int)≤dY N M 0+n:=fun x=>c (o.2 x)
    have:=powerR_less (R:=R) (D:=D) (k:=k) (t:=dY N M E) (by rw[i,H];omega);rw[decide_eq_true this];rfl
  have Z:shP R D L gr N M E=n:=by
   unfold shP;rw[F,i,hn]
  have:=round_out (G:=G) (qs:=qs) F h0 (by unfold cH gF;rw[Z];exact hp);rw[(a0 k C).1,(a0 k C).2] at this;exact this
 generalize hA:eZ N n=A at v u U Q o y;generalize ab:dX M n=B at v u U Q o y J;generalize ae:2^ (W*D.toNat)=T at v u C eT Q a0 y;generalize a8:2^ (W*(D-1).toNat)=m0 at P eT o al y;have a6:d*B≤T*B:=Nat.mul_le_mul_right _ (Nat.le_of_lt C);have ar:0<T:=by omega
 rcases Nat.lt_or_ge A (d*B) with a7|av
 ·obtain⟨s,X⟩: ∃s,d*B=A+s:=⟨d*B-A,by omega⟩
  have ao:0<s:=by omega
  have Y:s*(2*T)<d*B:=by
   rw[X,Nat.add_mul] at u;rw[X];omega
  have k2:s*2<B:=by
   refine Nat.lt_of_mul_lt_mul_right (a:=T) ?_
   calc s*2*T=s*(2*T):=by rw[Nat.mul_assoc]
    _<d*B:=Y
    _≤T*B:=a6
    _=B*T:=Nat.mul_comm _ _
  obtain⟨e,rfl⟩: ∃e,d=e+1:=⟨d-1,by omega⟩;have eA:A=B*e+(B-s):=by rw[Nat.succ_mul,Nat.mul_comm e] at X;omega
  have w:A/B=e:=by rw[eA,Nat.mul_add_div J,Nat.div_eq_of_lt (by omega),Nat.add_zero]
  have q2:A % B=B-s:=by rw[eA,Nat.mul_add_mod,Nat.mod_eq_of_lt (by omega)]
  by_cases c:m0≤e∨(gr=true∧k=L)
  ·exact y (.inr ⟨by rw[w],by rw[q2];omega⟩) (by rw[w];exact c)
  ·have a1:m0=e+1:=by
    rcases P with h|h
    ·have:=fun h=>c (.inl h)
     omega
    ·exact absurd (.inr h) c
   have cg: ¬(gr=true∧k=L):=fun h=>c (.inr h)
   have eK:E-(W:Int)*(k-1)=n+(W:Int):=by rw[Int.mul_sub,Int.mul_one];omega
   have I:eZ N (n+(W:Int))*B=2^W*A*dX M (n+(W:Int)):=by
    rw[←hA,←ab,fw,fw,eM,eM];have e1:(n+(W:Int)).toNat+(-n).toNat=W+n.toNat+(-(n+(W:Int))).toNat:=by omega
    have l:N*2^ (n+(W:Int)).toNat*(M*2^ (-n).toNat)=N*M*2^ ((n+(W:Int)).toNat+(-n).toNat):=by rw[Nat.pow_add];ac_rfl
    have r:2^W*(N*2^n.toNat)*(M*2^ (-(n+(W:Int))).toNat)=N*M*2^ (W+n.toNat+(-(n+(W:Int))).toNat):=by rw[Nat.pow_add,Nat.pow_add];ac_rfl
    rw[l,r,e1]
   have K:0<dX M (n+(W:Int)):=by rw[eM];exact Nat.mul_pos (Nat.pos_of_ne_zero O) (bG _)
   have S:=BD N M (n+(W:Int)) (W*(D-1).toNat) hN O;rw[a8] at S;generalize a9:eZ N (n+(W:Int))=m at I S;generalize ac:dX M (n+(W:Int))=b at I K S;obtain⟨f,ax⟩: ∃f,f=T*b-m:=⟨_,rfl⟩;have f1:T*b*B=2^W*(e+1)*B*b:=by rw[eT,a1];ac_rfl
   have f2:2^W*(e+1)*B*b=2^W*A*b+2^W*s*b:=by rw[Nat.mul_assoc (2^W),X,Nat.mul_add,Nat.add_mul]
   have f3:m≤T*b:=Nat.le_of_mul_le_mul_right (c:=B) (by rw[I,f1,f2];omega) J;have f4:T*b=m+f:=by omega
   have f5:f*B=2^W*s*b:=by
    have:(m+f)*B=2^W*A*b+2^W*s*b:=by rw[←f4,f1,f2]
    rw[Nat.add_mul,I] at this;omega
   have f6:2^W*s*2<B:=by
    refine Nat.lt_of_mul_lt_mul_right (a:=e+1) ?_
    calc 2^W*s*2*(e+1)=s*(2*((e+1)*2^W)):=by ac_rfl
     _=s*(2*T):=by rw[eT,a1]
     _< (e+1)*B:=Y
     _=B*(e+1):=Nat.mul_comm _ _
   have f7:f*2<b:=by
    refine Nat.lt_of_mul_lt_mul_right (a:=B) ?_
    calc f*2*B=2^W*s*2*b:=by rw[Nat.mul_right_comm,f5];ac_rfl
     _<B*b:=Nat.mul_lt_mul_of_pos_right f6 K
     _=b*B:=Nat.mul_comm _ _
   have f8:0<f:=by
    rcases Nat.eq_zero_or_pos f with z|z
    ·rw[z,Nat.zero_mul] at f5
     have:=Nat.mul_pos (Nat.mul_pos (bG W) ao) K;omega
    ·exact z
   obtain⟨g,rfl⟩: ∃g,T=g+1:=⟨T-1,by omega⟩;have a3:m=b*g+(b-f):=by rw[Nat.succ_mul,Nat.mul_comm g] at f4;omega
   have r1:m/b=g:=by rw[a3,Nat.mul_add_div K,Nat.div_eq_of_lt (by omega),Nat.add_zero]
   have r2:m % b=b-f:=by rw[a3,Nat.mul_add_mod,Nat.mod_eq_of_lt (by omega)]
   have aw:m0*2≤g+1:=by rw[eT];exact Nat.mul_le_mul_left _ ad
   have p1:=S.1 (by rw[r1];omega);have p2: ¬((W*(D-1).toNat:Nat):Int)≤dY N M 0+n:=fun x=>by
    have:=o.2 x;rw[w] at this;omega
   have a4:(W:Int)*(k-1)=(W:Int)*k-(W:Int):=by rw[Int.mul_sub,Int.mul_one]
   have aq:(W:Int)*(D-1)=(W:Int)*D-(W:Int):=by rw[Int.mul_sub,Int.mul_one]
   have an:=powerR_eq (R:=R) (D:=D) (k:=k-1) (t:=dY N M E) (by rw[i,H,a4];omega) (by rw[i,H,a4];omega);have F:dj R D L gr N M E=k-1:=by
    unfold dj;rw[an]
    by_cases h:k-1<L
    ·have hg:gr=false:=by
      cases gr
      ·rfl
      ·exact absurd ⟨rfl,by omega⟩ cg
     rw[hg,Bool.and_false];rfl
    ·rw[decide_eq_false h]
     rfl
   have Z:shP R D L gr N M E=n+(W:Int):=by
    unfold shP;rw[F,i];exact eK
   have a2:cH R D L gr N M E=g∧gF R D L gr N M E=b-f∧dX M (shP R D L gr N M E)=b:=by
    unfold cH gF;rw[Z,ac];rw[a9];exact⟨r1,r2,rfl⟩
   have:=round_out (G:=G) (qs:=qs) F (show g+1≠0 by omega) (.inr ⟨by rw[a2.1],by rw[a2.2.1,a2.2.2];omega⟩)
   have a5:io R D (g+1)=e+1∧gD R D (g+1) (k-1)=k:=by
    unfold io gD;rw[i,ae,a8,if_pos rfl,if_pos rfl];exact⟨a1,by omega⟩
   rw[a5.1,a5.2] at this;exact this
 ·obtain⟨s,rfl⟩: ∃s,A=d*B+s:=⟨A-d*B,by omega⟩
  have Y:s*(2*T)<d*B:=by
   rw[Nat.add_mul] at v;omega
  have k2:s*2<B:=by
   refine Nat.lt_of_mul_lt_mul_right (a:=T) ?_
   calc s*2*T=s*(2*T):=by rw[Nat.mul_assoc]
    _<d*B:=Y
    _≤T*B:=a6
    _=B*T:=Nat.mul_comm _ _
  have w:(d*B+s)/B=d:=by rw[Nat.mul_comm,Nat.mul_add_div J,Nat.div_eq_of_lt (by omega),Nat.add_zero]
  have q2:(d*B+s) % B=s:=by rw[Nat.mul_comm,Nat.mul_add_mod,Nat.mod_eq_of_lt (by omega)]
  exact y (.inl ⟨w,by rw[q2];exact k2⟩) (by rw[w];exact P)
end Go.Proofs.YtlhkndcmbpcpgaaGreatDoor
