/- Texts laid together. -/
import Derived.Test.YthhiidikgchdeaaGreatDoorKs01
import Derived.Test.YthhiidikgchdeaaGreatDoorKs02
set_option maxRecDepth 100000
set_option maxHeartbeats 3200000
namespace Go.Proofs.YthhiidikgchdeaaGreatDoor
open _root_.Go.Proofs.Tryz
open Go.RowKit
theorem AM (a b:Int)(w:World):yC 147 #[yi a,yi b] w fun e w'=>e= .returned (yi (dm a b))∧w'=w:=by
 unfold dm
 by_cases c:a<b
 ·rw[if_pos c]
  go_enter func147,ntmps147
  go_wp2
  go_ret
  exact⟨rfl,rfl⟩
 ·by_cases d:b<a
  ·rw[if_neg c,if_pos d]
   go_enter func147,ntmps147
   go_wp2
   go_ret
   exact⟨rfl,rfl⟩
  ·rw[if_neg c,if_neg d]
   go_enter func147,ntmps147
   go_wp2
   go_ret
   exact⟨rfl,rfl⟩
theorem RF (a b:Int)(w:World):yC 148 #[.int .u32 a,.int .u32 b] w fun e w'=>e= .returned (yi (dm a b))∧w'=w:=by
 unfold dm
 by_cases c:a<b
 ·rw[if_pos c]
  go_enter func148,ntmps148
  go_wp2
  go_ret
  exact⟨rfl,rfl⟩
 ·by_cases d:b<a
  ·rw[if_neg c,if_pos d]
   go_enter func148,ntmps148
   go_wp2
   go_ret
   exact⟨rfl,rfl⟩
  ·rw[if_neg c,if_neg d]
   go_enter func148,ntmps148
   go_wp2
   go_ret
   exact⟨rfl,rfl⟩
theorem ur (x y c:Nat)(w:World)(b:x<4294967296)(d:y<4294967296)(a:c≤1):
  yC 146 #[.int .u32 x,.int .u32 y,.int .u32 c] w fun e w'=>e= .returned (.tuple #[.int .u32 ((x+y+c) % 4294967296:Nat),.int .u32 ((x+y+c)/4294967296:Nat)])∧w'=w:=by
 go_enter func146,ntmps146
 go_wp2
 go_ret2
 exact⟨by go_num,rfl⟩
theorem zA (x y c:Nat)(w:World)(h:x<4294967296)(i:y<4294967296)(g:c≤1):
  yC 149 #[.int .u32 x,.int .u32 y,.int .u32 c] w fun e w'=>e= .returned (.tuple #[.int .u32 ((x+4294967296-y-c) % 4294967296:Nat),.int .u32 ((brw x y c:Nat):Int)])∧w'=w:=by
 have j:=NE x y c h i g;have k: ¬IntKind.u32.signed=true:=by decide
 have a:(((x:Int)-(y:Int)) % 4294967296-(c:Int)) % 4294967296=(((x+4294967296-y-c) % 4294967296:Nat):Int):=by omega
 obtain⟨d,b⟩: ∃d,(x+4294967296-y-c) % 4294967296=d:=⟨_,rfl⟩;rw[b] at a⊢;have f:Hid _:=a;clear a b
 go_enter func149,ntmps149
 go_wp2
 go_ret2
 exact⟨by rw[←f.out];rfl,rfl⟩
def Qv (xs ys ps:List Nat)(k c:Nat):Prop:=
 ps.length=xs.length+1∧Dg.Small 4294967296 ps∧c≤1∧Dg.vl 4294967296 (ps.take k)+4294967296^k*c=Dg.vl 4294967296 (xs.take k)+Dg.vl 4294967296 (ys.take k)
theorem sQ (l:List Nat)(k x:Nat)(h:k<l.length):Dg.vl 4294967296 ((l.set k x).take (k+1))=Dg.vl 4294967296 (l.take k)+4294967296^k*x:=by
 rw[Dg.vl_take_succ _ _ _ (by simpa using h),Dg.getD_set _ _ _ _ h,if_pos rfl,List.take_set_of_le (Nat.le_refl _)]
theorem pO (l:List Nat)(k:Nat):Dg.vl 4294967296 (l.take (k+1))=Dg.vl 4294967296 (l.take k)+4294967296^k*l.getD k 0:=by
 by_cases h:k<l.length
 ·exact Dg.vl_take_succ _ _ _ h
 ·rw[List.take_of_length_le (by omega),List.take_of_length_le (by omega),Dg.getD_of_le _ _ (by omega)];omega
theorem zq {xs a b:List Nat}{k c x y:Nat}(h:Qv xs a b k c)(o:k<xs.length)(g:xs.getD k 0=x)(i:a.getD k 0=y)(p:x<4294967296)(q:y<4294967296):
  Qv xs a (b.set k ((x+y+c) % 4294967296)) (k+1) ((x+y+c)/4294967296):=by
 obtain⟨d,f,m,n⟩:=h;refine⟨by simpa using d,Dg.small_set f _ _ (Nat.mod_lt _ (by omega)),by omega, ?_⟩;rw[sQ _ _ _ (by omega),pO xs,pO a,g,i];have e:4294967296^ (k+1)*((x+y+c)/4294967296)=4294967296^k*(4294967296*((x+y+c)/4294967296)):=by rw[Nat.pow_succ,Nat.mul_assoc]
 have j:4294967296^k*(x+y+c)=4294967296^k*((x+y+c) % 4294967296)+4294967296^k*(4294967296*((x+y+c)/4294967296)):=by
  rw[←Nat.mul_add,Nat.mod_add_div]
 have l:4294967296^k*(x+y+c)=4294967296^k*x+4294967296^k*y+4294967296^k*c:=by rw[Nat.mul_add,Nat.mul_add]
 rw[e];omega
theorem Nc {xs b a:List Nat}{c:Nat}(h:Qv xs b a xs.length c)(g:b.length≤xs.length):(a.set xs.length c).length=xs.length+1∧Dg.Small 4294967296 (a.set xs.length c)∧Dg.vl 4294967296 (a.set xs.length c)=Dg.vl 4294967296 xs+Dg.vl 4294967296 b:=by
 obtain⟨d,e,i,f⟩:=h;refine⟨by simpa using d,Dg.small_set e _ _ (by omega), ?_⟩;have:=sQ a xs.length c (by omega);rw[List.take_of_length_le (by simp;omega)] at this;rw[this];rw[List.take_of_length_le (Nat.le_refl xs.length),List.take_of_length_le g] at f;omega
def Z7 (xs ys ps:List Nat)(k c:Nat):Prop:=
 ps.length=xs.length∧Dg.Small 4294967296 ps∧c≤1∧Dg.vl 4294967296 (xs.take k)+4294967296^k*c=Dg.vl 4294967296 (ps.take k)+Dg.vl 4294967296 (ys.take k)
theorem Jq {xs a b:List Nat}{k c x y:Nat}(h:Z7 xs a b k c)(o:k<xs.length)(j:xs.getD k 0=x)(l:a.getD k 0=y)(p:x<4294967296)(q:y<4294967296):
  Z7 xs a (b.set k ((x+4294967296-y-c) % 4294967296)) (k+1) (brw x y c):=by
 obtain⟨g,i,m,n⟩:=h;refine⟨by simpa using g,Dg.small_set i _ _ (Nat.mod_lt _ (by omega)),RN _ _ _, ?_⟩;rw[sQ _ _ _ (by omega),pO xs,pO a,j,l];have e:x+4294967296*brw x y c=(x+4294967296-y-c) % 4294967296+y+c:=by unfold brw;split<;>omega
 have d:4294967296^k*(x+4294967296*brw x y c)=4294967296^k*((x+4294967296-y-c) % 4294967296+y+c):=by rw[e]
 have f:4294967296^ (k+1)*brw x y c=4294967296^k*(4294967296*brw x y c):=by rw[Nat.pow_succ,Nat.mul_assoc]
 rw[Nat.mul_add,Nat.mul_add,Nat.mul_add] at d;rw[f];omega
theorem Z8 {xs a b:List Nat}{c:Nat}(h:Z7 xs a b xs.length c)(j:a.length≤xs.length)(m:Dg.vl 4294967296 a≤Dg.vl 4294967296 xs):Dg.vl 4294967296 b=Dg.vl 4294967296 xs-Dg.vl 4294967296 a:=by
 obtain⟨d,f,l,g⟩:=h;rw[List.take_of_length_le (Nat.le_refl xs.length),List.take_of_length_le j,List.take_of_length_le (by omega)] at g;have k:=Dg.vl_lt 4294967296 b f;rw[d] at k;have i:c=0:=by
  rcases Nat.eq_zero_or_pos c with e|e
  ·exact e
  ·have:c=1:=by omega
   subst this;omega
 subst i;omega
theorem jF (J K:Value)(xs a:List Nat)(w:World)(N:Rd w .u32 J xs)(O:Rd w .u32 K a)(H:Dg.Small 4294967296 xs)(I:Dg.Small 4294967296 a)(na:Dg.Norm xs)(nb:Dg.Norm a):
  yC 110 #[J,K] w (yR w (yi (dm (Dg.vl 4294967296 xs) (Dg.vl 4294967296 a)))):=by
 obtain⟨ao,ca,rfl,Q,R,u⟩:=N;obtain⟨bo,cb,rfl,a1,S,D⟩:=O;unfold maxLen at R S;obtain⟨r,l⟩: ∃r,dm (Dg.vl 4294967296 xs) (Dg.vl 4294967296 a)=r:=⟨_,rfl⟩;have c:=AM (xs.length:Int) (a.length:Int) w
 by_cases B:xs.length<a.length
 ·have U:=Dg.vl_lt_of_len 4294967296 (by omega) xs a H nb B
  rw[gX (by omega)] at l;subst l;rw[gX (by omega)] at c;rw[gX (by omega)]
  go_enter func110,ntmps110
  go_wp2_with fail
  refine c.mono ?_;rintro e w' ⟨rfl,rfl⟩
  go_wp2
  go_ret
  exact⟨rfl,Below.refl _ _⟩
 ·by_cases C:a.length<xs.length
  ·have U:=Dg.vl_lt_of_len 4294967296 (by omega) a xs I na C
   rw[sO (by omega)] at c;rw[sO (by omega)];clear l
   go_enter func110,ntmps110
   go_wp2_with fail
   refine c.mono ?_;rintro e w' ⟨rfl,rfl⟩
   go_wp2
   go_ret
   exact⟨rfl,Below.refl _ _⟩
  ·have q:xs.length=a.length:=by omega
   rw[q,Bh] at c;rw[l];have A:Hid _:=l;have n:Hid _:=q;rw[q] at Q u⊢;clear l q B C
   go_enter func110,ntmps110
   go_wp2_with fail
   refine c.mono ?_;rintro e w' ⟨rfl,rfl⟩;clear c
   go_wp2
   go_loopw [6] (fun z wr=> ∃k:Nat,k≤a.length∧z=yi ((k:Int)-1)∧Hid (∀j,k≤j→xs.getD j 0=a.getD j 0)∧Below w'.heap.size w' wr) (fun z _=>(intOf z+1).toNat)
   case atStart=>exact⟨a.length,Nat.le_refl _,rfl,fun j o=>by rw[Dg.getD_of_le xs j (by rw[n.out];exact o),Dg.getD_of_le a j o],Below.refl _ _⟩
   case round=>
    obtain⟨k,hk,rfl,p,g⟩:=hrel
    by_cases P:k=0
    ·subst P
     have G:=Dg.eq_of_all xs a n.out (fun j=>p j (by omega))
     have T:r=0:=by rw[←A.out,G,Bh]
     subst T;clear G
     go_wp2
     go_ret
     exact⟨rfl,g⟩
    ·obtain⟨m,rfl⟩: ∃m,k=m+1:=⟨k-1,by omega⟩
     obtain⟨b,a3,rfl,E⟩:=u (by omega);obtain⟨b2,a4,rfl,F⟩:=D (by omega);have W:=cell_later g (E m (by omega));have Z:=cell_later g (F m (by omega));have d:xs.getD m 0<a.getD m 0→dm (Dg.vl 4294967296 xs) (Dg.vl 4294967296 a)= -1:=fun h=>
      gX (by have:=Dg.vl_lt_of_digit 4294967296 xs a m n.out (by rw[n.out];omega) p h H;omega)
     have f:a.getD m 0<xs.getD m 0→dm (Dg.vl 4294967296 xs) (Dg.vl 4294967296 a)=1:=fun h=>
      sO (by have:=Dg.vl_lt_of_digit 4294967296 a xs m n.out.symm (by omega) (fun j o=>(p j o).symm) h I;omega)
     rw[A.out] at d f;obtain⟨x,s⟩: ∃x,xs.getD m 0=x:=⟨_,rfl⟩;obtain⟨y,t⟩: ∃y,a.getD m 0=y:=⟨_,rfl⟩;have L:Hid _:=s;have M:Hid _:=t;rw[s] at W d f;rw[t] at Z d f;clear s t E F u D;have i:=fun wx=>RF (x:Int) (y:Int) wx
     have a2:((m+1:Nat):Int)-1=(m:Int):=by omega
     by_cases Y:x<y
     ·have v:=d Y
      subst v;rw[gX (by omega)] at i;clear d f
      go_wp2
      go_quiet ((go_at_call 148;exact Calls.quiet_of_same (i _)))
      go_wp2
      go_ret
      exact⟨rfl,aL g _⟩
     ·by_cases a0:y<x
      ·have v:=f a0
       subst v;rw[sO (by omega)] at i;clear d f
       go_wp2
       go_quiet ((go_at_call 148;exact Calls.quiet_of_same (i _)))
       go_wp2
       go_ret
       exact⟨rfl,aL g _⟩
      ·have X:x=y:=by omega
       subst X;rw[Bh] at i;clear d f
       go_wp2
       go_quiet ((go_at_call 148;exact Calls.quiet_of_same (i _)))
       go_wp2
       go_roundw
       case rel=>exact⟨m,by omega,by go_num,fun j o=>by
        by_cases e:j=m
        ·rw[e];exact L.out.trans M.out.symm
        ·exact p j (by omega),aL g _⟩
       case measure=>simp[intOf]
theorem aH (B n m:Nat)(a:2≤B)(h:n≤m):(Dg.dg B n).length≤(Dg.dg B m).length:=by
 refine Dg.dg_len_le B n _ a ?_;have:=Dg.vl_lt B (Dg.dg B m) (Dg.small_dg B m a);rw[Dg.vl_dg B m a] at this;omega
def jN (w:World)(t:ak)(e:Ending)(w':World):Prop:= ∃s,e= .returned (ydV t.s s t.e)∧Own w' w.heap.size 54 .u32 s (Dg.dg 4294967296 t.n)∧yB w w'
theorem Own.apart {w w':World}{base e b:Nat}{k:IntKind}{v:Value}{zs:List Nat}(h:Own w base e k v zs)(i:w.grownBy w' (some b))(n:b<base):Own w' base e k v zs:=by
 obtain⟨j,c⟩:=h;refine⟨j, ?_⟩
 rcases c with c| ⟨a,cap',f,m,g,d,r⟩
 ·exact .inl c
 ·refine .inr ⟨a,cap',f,m,g, ?_,r⟩
  have l:a<w.heap.size:=by
   rw[Array.getElem?_eq_some_iff] at d;exact d.1
  rw[i.block a l (by intro e;cases e;omega)]
  exact d
theorem Own.apart3 {w:World}{base e b:Nat}{k:IntKind}{v:Value}{zs:List Nat}(h:Own w base e k v zs)(a:b<base)(c d f:Value):
  Own (((w.setCell ⟨b,0,none⟩ c).setCell ⟨b,1,none⟩ d).setCell ⟨b,2,none⟩ f) base e k v zs:=
 ((h.apart (bI w b 0 c) a).apart (bI _ b 1 d) a).apart (bI _ b 2 f) a
theorem l9 (b:Bool)(a:Option Addr)(n c:Nat)(e:Int)(w:World):yC 64 (ydA b (.slice a n c) e) w (yR w (ydV b (.slice a n c) e)):=by
 go_enter func64,ntmps64
 go_wp2
 go_returns
 exact⟨rfl,(Below.refl _ _).alloc (Nat.le_refl _) _⟩
def au (w:World)(b:Nat)(ty:TypeId)(vs:List Value):Prop:=w.heap[b]? =some (.cells vs.toArray ty (0,0))
theorem au.lt {w:World}{b:Nat}{a:TypeId}{c:List Value}(h:au w b a c):b<w.heap.size:=(Array.getElem?_eq_some_iff.1 h).1
theorem ah (w:World)(b:List Value)(a:TypeId):au (w.alloc (.cells b.toArray a)) w.heap.size a b:=heap_alloc_new _ _
theorem au.c {w:World}{b:Nat}{e:TypeId}{a:List Value}(h:au w b e a)(i:Nat){v:Value}(d:a[i]? =some v):w.cell? ⟨b,i,none⟩=some v:=by
 unfold World.cell?;simp only;rw[h]
 simpa using d
theorem au.f {w:World}{b:Nat}{a:TypeId}{c:List Value}(h:au w b a c)(i:Nat):w.frozen? ⟨b,i,none⟩=false:=by
 unfold World.frozen?;simp only;rw[h];simp
theorem au.set {w:World}{b:Nat}{a:TypeId}{c:List Value}(h:au w b a c)(i:Nat)(x:Value):au (w.setCell ⟨b,i,none⟩ x) b a (c.set i x):=by
 have d:=h.lt;have e:w.heap[b]= .cells c.toArray a (0,0):=by simpa[au,Array.getElem?_eq_getElem d] using h
 show(w.heap.modify b _)[b]? =_
 rw[Array.getElem?_eq_getElem (by simpa using d),Array.getElem_modify_self,e];simp
theorem au.off {w:World}{b c:Nat}{a:TypeId}{d:List Value}(h:au w b a d)(f:c≠b)(i:Nat)(x:Value):au (w.setCell ⟨c,i,none⟩ x) b a d:=by
 unfold au;rw[Below.heap_setCell _ _ _ _ (fun e=>f e.symm)]
 exact h
def wF (b:Nat)(v:Value)(zs:List Nat):Prop:=0<zs.length→ ∀a n c,v= .slice (some a) n c→a.block≠b
theorem cq {w:World}{k:IntKind}{v:Value}{zs:List Nat}(h:Rd w k v zs)(o:Dg.Norm zs){b:Nat}{r:TypeId}{i:List Value}(m:au w b r i)(q: ∀x∈i,∀n:Int,n≠0→x≠ .int k n):wF b v zs:=fun f a n c p=>by
 obtain⟨s,cap,rfl,_,_,j⟩:=h;obtain⟨g,u,rfl,l⟩:=j f
 cases p
 have d:=l (zs.length-1) (by omega)
 show g≠b
 intro e;subst e;have t:zs.getD (zs.length-1) 0≠0:=o (by intro h;rw[h] at f;simp at f);unfold World.cell? at d;simp only at d;rw[m] at d;simp only[Option.isSome_none,Bool.false_eq_true,if_false,List.getElem?_toArray] at d;exact q _ (List.mem_of_getElem? d) _ (by omega) rfl
theorem Rd.set {w:World}{k:IntKind}{v:Value}{zs:List Nat}(h:Rd w k v zs){b:Nat}(p:wF b v zs)(i:Nat)(x:Value):Rd (w.setCell ⟨b,i,none⟩ x) k v zs:=by
 obtain⟨c,cap,rfl,d,e,f⟩:=h;refine⟨c,cap,rfl,d,e,fun a=> ?_⟩
 obtain⟨g,q,rfl,l⟩:=f a;have n:=p a _ _ _ rfl;refine⟨g,q,rfl,fun j m=> ?_⟩
 have o:g≠b:=n;unfold World.cell?;simp only;rw[Below.heap_setCell _ _ _ _ o];exact l j m
structure But (b:Nat) (w w':World):Prop where
 os:w'.os=w.os
 tape:w'.tape=w.tape
 output:w'.output=w.output
 size:w'.heap.size=w.heap.size
 block: ∀k,k≠b→w'.heap[k]? =w.heap[k]?
theorem ag (w:World)(b i:Nat)(x:Value):But b w (w.setCell ⟨b,i,none⟩ x):=
 ⟨rfl,rfl,rfl,by simp[World.setCell],fun _ a=>Below.heap_setCell _ _ _ _ a⟩
theorem But.trans {b:Nat}{w c d:World}(h:But b w c)(k:But b c d):But b w d:=
 ⟨k.os.trans h.os,k.tape.trans h.tape,k.output.trans h.output,k.size.trans h.size,fun i a=>(k.block i a).trans (h.block i a)⟩
theorem de (b:Nat): ∀(vs:List Value) (o:Nat) (w:World),But b w (w.setCells b o vs)
 | [],_,w=>⟨rfl,rfl,rfl,rfl,fun _ _=>rfl⟩
 |v::r,o,w=>by
  rw[World.setCells];exact(ag w b o v).trans (de b r (o+1) _)
theorem But.below {b B:Nat}{a w w':World}(h:But b w w')(k:Below B a w)(d:B≤b):Below B a w':=
 ⟨h.os.trans k.os,h.tape.trans k.tape,h.output.trans k.output,by rw[h.size];exact k.size,fun i c=>(h.block i (by omega)).trans (k.block i c)⟩
theorem But.loc {b c:Nat}{w w':World}{a:TypeId}{d:List Value}(h:But b w w')(k:au w c a d)(e:c≠b):au w' c a d:=(h.block c e).trans k
theorem But.c {b:Nat}{w w':World}(h:But b w w'){a:Addr}(d:a.block≠b):w'.cell? a=w.cell? a:=by
 unfold World.cell?;rw[h.block a.block d]
theorem But.rd {b:Nat}{w w':World}{k:IntKind}{v:Value}{zs:List Nat}(h:But b w w')(r:Rd w k v zs)(q:wF b v zs):Rd w' k v zs:=by
 obtain⟨f,cap,rfl,i,l,m⟩:=r;refine⟨f,cap,rfl,i,l,fun d=> ?_⟩
 obtain⟨g,e,rfl,n⟩:=m d;have p:=q d _ _ _ rfl;exact⟨g,e,rfl,fun j o=>(h.c (a:=⟨g,e+j,none⟩) p).trans (n j o)⟩
theorem Cd (b:Nat)(d:TypeId): ∀(vs us pre:List Value) (w:World),au w b d (pre++us)→us.length=vs.length→au (w.setCells b pre.length vs) b d (pre++vs)
 | [],us,pre,w,h,hl=>by
  obtain rfl:us=[]:=List.eq_nil_of_length_eq_zero hl;exact h
 |v::r,us,pre,w,h,hl=>by
  obtain⟨u,a,rfl⟩: ∃u a,us=u::a:=by
   cases us with
   |nil=>simp at hl
   |cons u a=>exact⟨u,a,rfl⟩
  rw[World.setCells];have e:=h.set pre.length v;have f:(pre++u::a).set pre.length v=(pre++[v])++a:=by simp
  rw[f] at e;have c:=Cd b d r a (pre++[v]) _ e (by simpa using hl);have g:(pre++[v]).length=pre.length+1:=by simp
  rw[g] at c;have i:pre++[v]++r=pre++v::r:=by simp
  rw[i] at c;exact c
theorem au.range {w:World}{b:Nat}{e:TypeId}{a:List Value}(h:au w b e a):w.rangeAt b 0 a:=fun j _ d=>by rw[Nat.zero_add];exact h.c j d
theorem au.there {w:World}{b:Nat}{e:TypeId}{a:List Value}(h:au w b e a)(n:Nat)(i:n=a.length):w.there b 0 n:=fun j g=>by
 have d:j<a.length:=by omega
 rw[Nat.zero_add];exact⟨by rw[h.c j (List.getElem?_eq_getElem d)];rfl,h.f j⟩
theorem au.sets {w:World}{b:Nat}{c:TypeId}{d:List Value}(h:au w b c d)(a:List Value)(e:d.length=a.length):au (w.setCells b 0 a) b c a:=by
 have:=Cd b c a d [] w h e
 simpa using this
theorem gU {P:Program}{o:Oper}{a:Act}{w:World}(t:TypeId)(x:Operand)(g:o.op= .load t x)(b i:Nat)(j:a.eval x= .pointer (some ⟨b,i,none⟩))(v:Value)(d:TypeDesc)(h:P.underlying t=some d)(k:d.isRow=false)(e:w.cell? ⟨b,i,none⟩=some v):(execOp a.eval o).run P w= .ok (.value v) w:=by
 have c:(isAgg t).run P w= .ok false w:=by
  unfold isAgg;rw[Sem.run_bind,run_underlying h w]
  cases d<;>simp_all
 have f:(loadVar t ⟨b,i,none⟩).run P w= .ok v w:=by
  simp[loadVar,Sem.run_bind,c,e]
 unfold execOp;simp[g,j,Instr.loadAt,Instr.sureAddr,f]
theorem dD {w:World}{b:Nat}{e:TypeId}{a:List Value}(h:au w b e a):w.there b 0 a.length:=fun j d=>by
 have:=h.c j (List.getElem?_eq_getElem d);have hf:=h.f j;simp[this,hf]
theorem CF (n k L j:Nat)(h:(Dg.dg 4294967296 n).length≤L)(l:k≤32*j):(Dg.dg 4294967296 (n*2^k)).length≤L+j:=by
 apply Dg.dg_len_le 4294967296 _ _ (by omega);have a:=Dg.vl_lt 4294967296 (Dg.dg 4294967296 n) (Dg.small_dg _ _ (by omega));rw[Dg.vl_dg _ _ (by omega)] at a;have f:4294967296^ (Dg.dg 4294967296 n).length≤4294967296^L:=Nat.pow_le_pow_right (by omega) h;have b:2^k≤4294967296^j:=by
  rw[show(4294967296:Nat)=2^32 from rfl,←Nat.pow_mul]
  exact Nat.pow_le_pow_right (by omega) (by omega)
 rw[Nat.pow_add];have e:0<4294967296^j:=Nat.pow_pos (by omega);generalize 4294967296^j=c at*;generalize 4294967296^L=d at*;have g:n*2^k≤n*c:=Nat.mul_le_mul_left _ b;have i:n*c<d*c:=Nat.mul_lt_mul_of_pos_right (by omega) e;omega
def Rv (w:World)(v:Value)(t:ak):Prop:= ∃s,v=(ydV t.s s t.e)∧Rd w .i64 s (Dg.dg 65536 t.n)
def ZB (w:World)(b:Nat):Prop:=b<w.heap.size∧ ∃ty,w.heap[b]? =some (.cells (ydA false yN 0) ty (0,0))
theorem ZB.rd {w:World}{b:Nat}{v:Value}{zs:List Nat}(h:ZB w b)(t:Rd w .i64 v zs)(r:Dg.Norm zs)(u x y:Value):
  Rd (((w.setCell ⟨b,0,none⟩ u).setCell ⟨b,1,none⟩ x).setCell ⟨b,2,none⟩ y) .i64 v zs:=by
 obtain⟨z,C,p⟩:=h;obtain⟨k,cap,rfl,l,m,n⟩:=t;refine⟨k,cap,rfl,l,m,fun g=> ?_⟩
 obtain⟨c,j,rfl,f⟩:=n g;refine⟨c,j,rfl,fun i q=> ?_⟩
 have A:c≠b:=by
  intro e;subst e;have a:=f (zs.length-1) (by omega);have B:=r (List.length_pos_iff.1 g);unfold World.cell? at a;simp only[p] at a;obtain⟨o,s⟩: ∃o,j+(zs.length-1)=o:=⟨_,rfl⟩;rw[s] at a;generalize zs.getD (zs.length-1) 0=d at*
  match o,a with
  |0,a=>simp at a
  |1,a=>simp at a
  |2,a=>simp at a;omega
  |o+3,a=>simp at a
 rw[World.cell?_setCell_other (h:=by simp),World.cell?_setCell_other (h:=by simp),World.cell?_setCell_other (h:=by simp)];exact f i q
theorem tk {P:Program}{md:Region.Mode}{ops:Array Oper}{Q:Exit→Act→World→Prop}{S:World→Prop}{d:Oper}{fuel:Nat}{e:Array Bool}{a:Act}{w:World}(i:Nat)(v:Value)(k:ops[i]? =some d)
  (b:(Region.noSelect ops&&(Region.free md ops e i&&((Region.ready md ops e).contains i&&Region.wanted d (yielded ops a.tmps))))=true)
  (g: ∀c a w,Q (.panic c) (a.put d.dst v) w→Q (.panic c) a w) (l: ∀f,S f→(execOp a.eval d).run P f= .ok (.value v) f) (j:S w)
  (h:wpAnyH P md ops Q S fuel (e.setIfInBounds i true) (a.put d.dst v) w):wpAnyH P md ops Q S (fuel+1) e a w:=by
 simp only[Bool.and_eq_true] at b;exact wpAnyH_take k b.1 b.2.1 b.2.2.1 g (Or.inl ⟨b.2.2.2,l⟩) j h
theorem br {P:Program}{c:Func}{a:Nat}{f:TypeId}{e:Array Value}{w:World}{b:Nat}{v:Value}(h:c.results= #[.cell a f])(d:e.getD a undef= .pointer (some ⟨b,0,none⟩))(g:(loadVar f ⟨b,0,none⟩).run P w= .ok v w):(results c e).run P w= .ok v w:=by
 rw[Array.getD_eq_getD_getElem?] at d;unfold results;simp[h,d,asAddr,g]
structure ik (w:World) (g:Nat) (zs:List Nat):Prop where
 c: ∀i,i<zs.length→w.cell? ⟨g,i,none⟩=some (.int .u8 ((zs.getD i 0:Nat):Int))
 f: ∀i,i<zs.length→w.frozen? ⟨g,i,none⟩=false
 lt:g<w.heap.size
theorem Eu {w w':World}{g i:Nat}(h:w'.heap[g]? =w.heap[g]?):w'.frozen? ⟨g,i,none⟩=w.frozen? ⟨g,i,none⟩:=by
 unfold World.frozen?;simp only[h]
def GsR (w:World)(g at0 top d1 d0 p0:Nat)(gv rv:Value)(wr:World):Prop:=
 ∃(t r:Nat),gv= .int .u64 t∧rv= .int .u64 r∧Hid (GsI top d1 d0 p0 t r)∧r<4294967296∧t≤4294967297∧wr.cell? ⟨g,at0,none⟩=some (.int .u32 p0)∧yB w wr
theorem TX (g i n pc:Nat)(C D Y:Nat)(p2 p1 l a d:Nat)(w:World)(hn:2≤n)(al:n≤2000000000)(_hil:i≤2000000000)
  (X:w.cell? ⟨g,i+n,none⟩=some (.int .u32 p2)) (W:w.cell? ⟨g,i+(n-1),none⟩=some (.int .u32 p1)) (P:w.cell? ⟨g,i+(n-2),none⟩=some (.int .u32 l))
  (e1:w.cell? ⟨C,D+(n-1),none⟩=some (.int .u32 a)) (Z:w.cell? ⟨C,D+(n-2),none⟩=some (.int .u32 d))
  (a3:p2<4294967296) (J:p1<4294967296) (T:l<4294967296) (ad:a<4294967296) (I:d<4294967296) (hd:2147483648≤a) (S:p2≤a):
  yC 174 #[.slice (some ⟨g,i,none⟩) (n+1) pc,.slice (some ⟨C,D,none⟩) n Y] w fun e w'=>
   ∃q:Nat,e= .returned (.int .u32 q)∧q<4294967296∧(∀k,k*(a*4294967296+d)≤(p2*4294967296+p1)*4294967296+l→k<4294967296→k≤q)∧q*(a*4294967296+d)≤(p2*4294967296+p1)*4294967296+l∧yB w w':=by
 have z:=KJ p2 p1 a3 J;obtain⟨f,K⟩: ∃f,p2*4294967296+p1=f:=⟨_,rfl⟩;rw[K] at z⊢;have ao:f<18446744073709551616:=by omega
 have c:=Z1 f a d l (by omega) T;obtain⟨L,A⟩: ∃q,f/a=q:=⟨_,rfl⟩;obtain⟨M,B⟩: ∃r,f % a=r:=⟨_,rfl⟩;have a5:M<a:=by rw[←B];exact Nat.mod_lt _ (by omega)
 have U:L≤4294967297:=by
  rw[←A];have:f/a<4294967298:=by rw[Nat.div_lt_iff_lt_mul (by omega)];omega
  omega
 have f1:(f:Int)/(a:Int)=(L:Int):=by rw[←A];exact(Int.natCast_ediv f a).symm
 have Q:(f:Int) % (a:Int)=(M:Int):=by rw[←B];exact(Int.natCast_emod f a).symm
 have g1:IntKind.u64.wrap a=(a:Int):=IntWalk.u64_in _ ⟨by omega,by omega⟩;rw[A,B] at c;have O:Hid _:=K;clear A B K;have n1:((n:Int)-1)=((n-1:Nat):Int):=by omega
 have n2:((n:Int)-2)=((n-2:Nat):Int):=by omega
 go_enter func174,ntmps174
 go_wp2
 go_quiet (fail)
 go_wp2
 go_quiet (fail)
 go_wp2
 go_quiet (fail)
 go_wp2
 go_loopw [9,10] (fun E rv wr=>GsR w g (i+(n-2)) f a d l E rv wr) (fun E _ _=>msr E)
 case atStart=>exact⟨L,M,rfl,by rw[Q],c,by omega,U,P,aL (aL (aL (Below.refl _ _) _) _) _⟩
 case round=>
  clear P c W X Z e1 f1 Q a5 U z;obtain⟨t,r,rfl,rfl,N,hr,an,R,u⟩:=hrel;have m:=N.out;have z:=KJ r l hr T
  by_cases G:4294967296≤t
  ·have c:=S9 m (by omega) (.inl G)
   have a0:(4294967296:Int)≤(t:Int):=by omega
   have m1:((t:Int)-1)=((t-1:Nat):Int):=by omega
   have p:Hid _:=c
   by_cases j:4294967296≤r+a
   ·have o:=Mk c j (by omega) O.out S J I
    have h:Hid _:=o;have a1:(4294967296:Int)≤(r:Int)+(a:Int):=by omega
    clear o c m j
    go_wp2
    go_ret
    exact⟨t-1,by first|rfl| (rw[Ap h.out.1];rfl),h.out.1,p.out.2,h.out.2,u⟩
   ·obtain⟨b,v⟩: ∃b,r+a=b:=⟨_,rfl⟩
    rw[v] at p j;have a7:(r:Int)+(a:Int)=(b:Int):=by omega
    have H:b<4294967296:=by omega
    have a8:(b:Int)<4294967296:=by omega
    have a6:decide ((4294967296:Int)≤(b:Int))=false:=by rw[decide_eq_false_iff_not];omega
    clear c m j v
    go_wp2
    go_roundw
    case rel=>exact⟨t-1,b,rfl,rfl,p.out,H,by omega,R,u⟩
    case measure=>simp[msr,intOf];omega
  ·have a0:(t:Int)<4294967296:=by omega
   have F:t<4294967296:=by omega
   have ac:decide ((4294967296:Int)≤(t:Int))=false:=by rw[decide_eq_false_iff_not];omega
   have ap:=uf F I;have ar:(t:Int)*(d:Int)≤18446744065119617025:=by rw[←Int.natCast_mul];omega
   have aq:0≤(t:Int)*(d:Int):=by rw[←Int.natCast_mul];omega
   have a9:r*4294967296+l<18446744073709551616:=by omega
   obtain⟨s,x⟩: ∃s,r*4294967296+l=s:=⟨_,rfl⟩;rw[x] at z a9
   by_cases y:s<t*d
   ·have a4:0<t:=by
     rcases Nat.eq_zero_or_pos t with e|e
     ·rw[e,Nat.zero_mul] at y;omega
     ·exact e
    have a2:(s:Int)< (t:Int)*(d:Int):=by rw[←Int.natCast_mul];omega
    have c:=S9 m a4 (.inr (by rw[x];exact y));clear G x y;have m1:((t:Int)-1)=((t-1:Nat):Int):=by omega
    have p:Hid _:=c
    by_cases j:4294967296≤r+a
    ·have o:=Mk c j (by omega) O.out S J I
     have h:Hid _:=o;have a1:(4294967296:Int)≤(r:Int)+(a:Int):=by omega
     clear o c m j
     go_wp2
     go_ret
     exact⟨t-1,by first|rfl| (rw[Ap h.out.1];rfl),h.out.1,p.out.2,h.out.2,u⟩
    ·obtain⟨b,v⟩: ∃b,r+a=b:=⟨_,rfl⟩
     rw[v] at p j;have a7:(r:Int)+(a:Int)=(b:Int):=by omega
     have H:b<4294967296:=by omega
     have a8:(b:Int)<4294967296:=by omega
     have a6:decide ((4294967296:Int)≤(b:Int))=false:=by rw[decide_eq_false_iff_not];omega
     clear c m j v
     go_wp2
     go_roundw
     case rel=>exact⟨t-1,b,rfl,rfl,p.out,H,by omega,R,u⟩
     case measure=>simp[msr,intOf];omega
   ·have a2:(t:Int)*(d:Int)≤(s:Int):=by rw[←Int.natCast_mul];omega
    have o:=Z2 m (by rw[x];omega);have h:Hid _:=o;have ae:decide ((s:Int)< (t:Int)*(d:Int))=false:=by rw[decide_eq_false_iff_not];omega
    clear G x y o m
    go_wp2
    go_ret
    exact⟨t,by first|rfl| (rw[Ap F];rfl),F,N.out.2,h.out,u⟩
end Go.Proofs.YthhiidikgchdeaaGreatDoor
