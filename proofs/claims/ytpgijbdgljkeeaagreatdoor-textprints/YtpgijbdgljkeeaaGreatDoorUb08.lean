/-
  Texts laid together: Ref8, Ty4.
-/
import Derived.Test.YtpgijbdgljkeeaaGreatDoorRows
import Derived.Test.YtpgijbdgljkeeaaGreatDoorUb04
import Derived.Test.YtpgijbdgljkeeaaGreatDoorUb05
set_option maxRecDepth 100000
set_option maxHeartbeats 3200000
namespace Go.Proofs.YtpgijbdgljkeeaaGreatDoor
open _root_.Go.Proofs.Tryz
open Go.RowKit
theorem strOf_size8 (l:List Nat):(cF l).size=l.length:=by simp[cF,ByteArray.size]
theorem EY (c:Nat)(l:List Nat):cF [c]++cF l=cF (c::l):=by
 apply ByteArray.ext;simp[cF]
theorem EZ (l:List Nat)(a:Nat):(cF l).extract a (cF l).size=cF (l.drop a):=by
 apply ByteArray.ext;rw[strOf_size8,ByteArray.data_extract];simp[cF,List.map_drop];exact List.take_of_length_le (by simp)
def txt (ds:List Nat):List Nat:=(ds.map (fun d=>48+d)).reverse
theorem Md (ds:List Nat)(d:Nat):txt (ds++[d])=(48+d)::txt ds:=by simp[txt]
theorem jL (ds:List Nat):(txt ds).length=ds.length:=by simp[txt]
def Xy (n m:Nat)(ds:List Nat)(j g:Nat):Prop:=Dg.Small 10 ds∧j≤4∧g<10^ (4-j)∧n=Dg.vl 10 ds+10^ds.length*(g+10^ (4-j)*m)
theorem Pu {n m:Nat}{ds:List Nat}(h:L5 n ds m):Xy n (m/10000) ds 0 (m % 10000):=by
 refine⟨h.1,by omega,by simp;omega, ?_⟩;rw[h.2];have:m % 10000+10^ (4-0)*(m/10000)=m:=by simpa using Nat.mod_add_div m 10000
 rw[this]
theorem IA {n m:Nat}{ds:List Nat}{j g:Nat}(h:Xy n m ds j g)(hj:j<4):Xy n m (ds++[g % 10]) (j+1) (g/10):=by
 obtain⟨h1,h2,h3,h4⟩:=h;have e:4-j=(4-(j+1))+1:=by omega
 rw[e,Nat.pow_succ] at h3 h4;refine⟨qP h1 (Nat.mod_lt _ (by omega)),by omega,by omega, ?_⟩;rw[Dg.vl_append];simp only[Dg.vl,List.length_append,List.length_cons,List.length_nil,Nat.pow_succ];rw[h4];generalize 10^ (4-(j+1))=p at*;have e2:g+p*10*m=g % 10+10*(g/10+p*m):=by
  have:=Nat.mod_add_div g 10;rw[Nat.mul_add,Nat.mul_comm p 10,Nat.mul_assoc];omega
 rw[e2,Nat.mul_add];simp only[Nat.mul_zero,Nat.add_zero];rw[Nat.mul_assoc];omega
theorem Mf {n m:Nat}{ds:List Nat}{g:Nat}(h:Xy n m ds 4 g):L5 n ds m:=by
 obtain⟨h1,h2,h3,h4⟩:=h;have:g=0:=by simpa using h3
 subst this;exact⟨h1,by simpa using h4⟩
theorem tQ (ds:List Nat)(i:Nat)(h:i<ds.length):(txt ds).getD i 0=48+ds.getD (ds.length-1-i) 0:=by
 have h2:ds.length-1-i<ds.length:=by omega
 simp[txt,List.getD_eq_getElem?_getD,h,h2]
theorem Cj (l:List Nat)(i:Nat)(h:i< (cF l).size)(hl: ∀j,l.getD j 0<256):((cF l)[i]'h).toNat=l.getD i 0:=by
 have h1:i<l.length:=by rw[strOf_size8] at h;exact h
 have:=hl i;simp only[List.getD_eq_getElem?_getD,List.getElem?_eq_getElem h1,Option.getD_some] at this⊢
 show((cF l).data[i]).toNat=_
 simp[cF,Nat.mod_eq_of_lt this]
theorem IB {n at':Nat}{ds:List Nat}(hO:L5 n ds 0)(hl:at'+1≤ds.length)(hz: ∀i,i<at'→ds.getD (ds.length-1-i) 0=0)(hs:at'+1=ds.length∨ds.getD (ds.length-1-at') 0≠0):
  cF ((txt ds).drop at')=oW n:=by
 have hn:=hO.2;simp only[Nat.mul_zero,Nat.add_zero] at hn;have hdrop:(txt ds).drop at'=txt (ds.take (ds.length-at')):=by
  unfold txt;rw[List.drop_reverse];simp[List.map_take]
 have hz2: ∀i,ds.length-at'≤i→ds.getD i 0=0:=fun i hi=>by
  by_cases h:i<ds.length
  ·have:=hz (ds.length-1-i) (by omega)
   rwa [show ds.length-1-(ds.length-1-i)=i from by omega] at this
  ·exact Dg.getD_of_le _ _ (by omega)
 rw[hdrop];unfold oW
 by_cases h0:n=0
 ·rw[if_pos h0]
  have hall: ∀i,ds.getD i 0=0:=by
   rcases hs with hs|hs
   ·have h1:Dg.vl 10 ds=0:=by omega
    have ht:=Dg.vl_take_drop 10 ds 1 (by omega);have hd:Dg.vl 10 (ds.take 1)=0:=by omega
    have h3:=Dg.vl_take_succ 10 ds 0 (by omega);simp only[Dg.vl,List.take_zero,Nat.zero_add,Nat.pow_zero,Nat.one_mul] at h3;intro i
    by_cases hi:i=0
    ·subst hi;omega
    ·exact hz2 i (by omega)
   ·exfalso
    have ht:=Dg.trim_eq 10 (by omega) ds (ds.length-at') hO.1 (by omega) hz2 (fun _=>by rw[show ds.length-at'-1=ds.length-1-at' from by omega];exact hs)
    rw[show Dg.vl 10 ds=0 from by omega,Dg.dg_zero] at ht
    have:=congrArg List.length ht;simp at this;omega
  rcases hs with hs|hs
  ·have h1:ds.length-at'=1:=by omega
   rw[h1,show ds.take 1=[0] from ?_]
   ·rfl
   ·rw[Dg.take_succ' ds 0 (by omega),hall 0];rfl
  ·exact absurd (hall _) hs
 ·rw[if_neg h0]
  have hlast:ds.getD (ds.length-at'-1) 0≠0:=by
   rcases hs with hs|hs
   ·intro e
    apply h0;rw[hn];refine Dg.vl_zeros 10 ds (fun i=> ?_)
    by_cases hi:i<ds.length-at'
    ·rw[show i=ds.length-at'-1 from by omega];exact e
    ·exact hz2 i (by omega)
   ·rwa [show ds.length-at'-1=ds.length-1-at' from by omega]
  rw[Dg.trim_eq 10 (by omega) ds (ds.length-at') hO.1 (by omega) hz2 (fun _=>hlast),←hn]
  rfl
def afk (w:World)(L n m:Nat)(av sv:Value)(wr:World):Prop:=
 ∃(ds:List Nat) (S:ByteArray),Rd wr .i64 av (Dg.dg 65536 m)∧sv= .string S∧Hid (S=cF (txt ds))∧L5 n ds m∧ds.length≤16*L∧(Dg.dg 65536 m).length≤L∧yB w wr
def acY (w w1:World)(n m base0:Nat)(sv gv jv:Value)(wr:World):Prop:=
 ∃(ds:List Nat) (S:ByteArray) (j g:Nat),gv=yi ((g:Nat):Int)∧jv=yi ((j:Nat):Int)∧j≤4∧ds.length=base0+j∧g<10000∧sv= .string S∧Hid (S=cF (txt ds))∧S.size=base0+j∧Xy n m ds j g∧yB w wr∧yB w1 wr
theorem So (w:World)(base e g:Nat)(hb:base≤w.heap.size):Own (w.alloc (.cells #[.int .u8 (48+(g:Int) % 10)] e)) base e .u8 (.slice (some ⟨w.heap.size,0,none⟩) 1 1) [48+g % 10]:=by
 have:=World.ownsRow_lit (e:=e) (size:=1) (base:=base) w #[.int .u8 (48+(g:Int) % 10)] 1 hb (by unfold maxLen;omega) rfl;have e1:(48+(g:Int) % 10)=((48+g % 10:Nat):Int):=by omega
 rw[e1] at this⊢;exact this
theorem Kc (va:Value)(n L:Nat)(w:World)(ha:Rd w .i64 va (Dg.dg 65536 n))(hL:(Dg.dg 65536 n).length≤L)(hLl:L≤100000):
  yC 109 #[va] w (yR w (.string (oW n))):=by
 have hnl:n<65536^L:=by
  have:=Dg.vl_lt 65536 (Dg.dg 65536 n) (Dg.small_dg _ _ (by omega));rw[Dg.vl_dg _ _ (by omega)] at this;exact Nat.lt_of_lt_of_le this (Nat.pow_le_pow_right (by omega) hL)
 have HNL:Hid (n<65536^L):=hnl;clear hnl;obtain⟨ao,ca,rfl⟩:=ha.shape
 go_enter func109,ntmps109
 go_wp2
 go_loopg [0,3] n (fun m av sv wr=>afk w L n m av sv wr)
 case atStart=>exact⟨[],_,ha,rfl,rfl,⟨Dg.small_nil _ (by omega),by simp[Dg.vl]⟩,by simp,hL,Below.refl _ _⟩
 case round=>
  obtain⟨ds,S,hr,rfl,hS,hO,hdl,hml,bel⟩:=hrel;obtain⟨ao2,ca2,rfl⟩:=hr.shape;have a1:yB wr (wr.alloc (.cells #[yi 10000] 3)):=(Below.refl _ _).alloc (Nat.le_refl _) _;have r1:=cE (w:=wr) (k:= .i64) (e:=3) [10000] #[yi 10000] rfl (by unfold maxLen;simp);have hin:=IU _ _ _ 10000 _ (hr.l a1) r1 (Dg.small_dg _ _ (by omega)) (by omega) (by omega) (by omega);rw[Dg.vl_dg _ _ (by omega)] at hin;simp only[show[10000].length=1 from rfl] at hin
  have hJ:=Pu hO;have hg4:gk % 10000<10000:=Nat.mod_lt _ (by omega);have hone:=Cv (gk % 10000) (by omega);have b1:=aa bel a1;have hSs:S.size=ds.length:=by rw[hS.out,strOf_size8,jL]
  clear r1
  go_wp2_with fail
  refine hin.mono ?_;rintro e w1 ⟨vq,vr,rfl,rq,rr,k1⟩;have b2:=aa b1 k1;clear hin;obtain⟨qo,qc,rfl⟩:=rq.shape;obtain⟨ro,rc,rfl⟩:=rr.shape;have hqn:(Dg.dg 65536 (gk/10000)).length≤L:=Nat.le_trans (aH _ _ _ (by omega) (Nat.div_le_self _ _)) hml;have hqz:=Dg.dg_nil_iff 65536 (gk/10000) (by omega);have hgd: ∀w2,yB w1 w2→gk % 10000≠0→(Dg.dg 65536 (gk % 10000)).length=1∧ ∃b off,ro=some ⟨b,off,none⟩∧w2.cell? ⟨b,off,none⟩=some (yi ((gk % 10000:Nat):Int)):=fun w2 k2 h0=>by
   rw[if_neg h0] at hone;obtain⟨-,-,hc⟩:=iQ rr;rw[hone] at hc⊢;obtain⟨b,off,e,hcell⟩:=hc (by simp);exact⟨rfl,b,off,e,cell_later k2 (by simpa using hcell 0 (by simp))⟩
  have hgz:gk % 10000=0→(Dg.dg 65536 (gk % 10000)).length=0:=fun h0=>by rw[h0];rfl
  obtain⟨g,hg⟩: ∃g,gk % 10000=g:=⟨_,rfl⟩;obtain⟨rl,hrl⟩: ∃rl,(Dg.dg 65536 (gk % 10000)).length=rl:=⟨_,rfl⟩;rw[hrl] at hgd hgz⊢;rw[hg] at hgd hgz hJ hg4;obtain⟨ql,hql⟩: ∃ql,(Dg.dg 65536 (gk/10000)).length=ql:=⟨_,rfl⟩;have HQ:Hid ((Dg.dg 65536 (gk/10000)).length=ql):=hql;have hq0:ql=0↔gk/10000=0:=by
   rw[←hql,←hqz];exact List.length_eq_zero_iff
  rw[hql] at rq hqn⊢;have hqlen:Rd w1 .i64 (.slice qo ql qc) (Dg.dg 65536 (gk/10000)):=rq;have HQ0:Hid (ql=0↔gk/10000=0):=hq0;have HSS:Hid (S.size=ds.length):=hSs;have hslen:S.size≤16*L:=by omega
  clear hone hqz hrl hg hql rr hr hq0 hSs hO a1 bel b1 rq;have fact:g=0∧rl=0∨rl=1∧ ∃b off,ro=some ⟨b,off,none⟩∧w1.cell? ⟨b,off,none⟩=some (yi ((g:Nat):Int)):=by
   by_cases h0:g=0
   ·exact .inl ⟨h0,hgz h0⟩
   ·obtain⟨h1,b,off,e,hc⟩:=hgd w1 (Below.refl _ _) h0
    exact .inr ⟨h1,b,off,e,hc⟩
  clear hgd hgz;have start:acY w w1 n (gk/10000) ds.length (.string S) (yi ((g:Nat):Int)) (yi ((0:Nat):Int)) w1:=⟨ds,S,0,g,rfl,rfl,by omega,by omega,hg4,rfl,hS,by rw[HSS.out];omega,hJ,b2,Below.refl _ _⟩
  rcases fact with⟨h0,hrl⟩| ⟨hrl,b,off,hro,hc⟩
  ·subst h0 hrl
   go_wp2
   go_loopw [3,6,7] (fun sv gv jv wr=>acY w w1 n (gk/10000) ds.length sv gv jv wr) (fun _ _ jv _=>(4-intOf jv).toNat)
   case atStart=>exact start
   case round=>
    clear start hJ b2;obtain⟨es,T,j,g2,rfl,rfl,hj4,hes,hg2,rfl,hT,hTs,hJ2,bel,bq⟩:=hrel;have HTS:Hid (T.size=ds.length+j):=hTs;have HES:Hid (es.length=ds.length+j):=hes;have hTl:T.size≤16*L+4:=by have:=HSS.out;omega
    clear hTs hes
    by_cases hj:j<4
    ·have own1:=So wr 0 5 g2 (Nat.zero_le _)
     have hcv:=lQ 205 9 underlying205 underlying5 underlying9 own1;have hsz1:(cF [48+g2 % 10]).size≤1:=by rw[strOf_size8];simp
     have hcs:cF [48+g2 % 10]++T=cF (txt (es++[g2 % 10])):=by rw[hT.out,EY,Md]
     have hcz:(cF [48+g2 % 10]++T).size=ds.length+(j+1):=by rw[hcs,strOf_size8,jL];have:=HES.out;simp;omega
     obtain⟨C,hC⟩: ∃C,cF [48+g2 % 10]=C:=⟨_,rfl⟩;rw[hC] at hcv hsz1 hcs hcz;have HCS:Hid (C++T=cF (txt (es++[g2 % 10]))):=hcs;have HCZ:Hid ((C++T).size=ds.length+(j+1)):=hcz;have b4:=bq.alloc bq.size (.cells #[.int .u8 (48+(g2:Int) % 10)] 5);have b3:=bel.alloc bel.size (.cells #[.int .u8 (48+(g2:Int) % 10)] 5);clear hC hcs hcz own1
     go_wp2
     go_roundw
     case rel=>exact⟨es++[g2 % 10],C++T,j+1,g2/10,by go_num,by go_num,by omega,by have:=HES.out;simp;omega,by omega,rfl,HCS.out,HCZ.out,IA hJ2 hj,b3,b4⟩
     case measure=>simp[intOf];omega
    ·have hj':j=4:=by omega
     subst hj';have hO2:=Mf hJ2
     by_cases hq:ql=0
     ·subst hq
      have hm0:gk/10000=0:=HQ0.out.1 rfl;rw[hm0] at hO2;obtain⟨E,hE⟩: ∃E,T.size=E:=⟨_,rfl⟩;have HE:Hid (es.length=E):=by show _=_;rw[←hE,HES.out,HTS.out]
      have hE4:4≤E:=by rw[←hE,HTS.out];omega
      have hfin: ∀k,k+1≤es.length→(∀i,i<k→es.getD (es.length-1-i) 0=0)→(k+1=es.length∨es.getD (es.length-1-k) 0≠0)→T.extract k T.size=oW n:=fun k h1 h2 h3=>by
       rw[hT.out,EZ];exact IB hO2 h1 h2 h3
      rw[hE] at hfin hTl;have hix: ∀k,k<es.length→ ∀w,(Instr.index 9 (.string T) (yi (k:Int))).run Tryz.prog w= .ok (.int .u8 ((48+es.getD (es.length-1-k) 0:Nat):Int)) w:=fun k hk w=>by
       have hks:k<T.size:=by rw[hE,←HE.out];exact hk
       rw[run_index_string w 9 T .i64 (k:Int) underlying9,dif_pos ⟨by omega,by omega⟩]
       congr 3
       have hts:k< (cF (txt es)).size:=by rw[strOf_size8,jL];exact hk
       have e1:(T[(k:Int).toNat]'(by omega)).toNat=((cF (txt es))[k]'hts).toNat:=by
        have:=hT.out;subst this;rfl
       rw[e1,Cj _ _ hts (fun j=> ?_),tQ es k hk]
       by_cases hjl:j<es.length
       ·rw[tQ es j hjl];have:=hO2.1 (es.length-1-j);omega
       ·rw[Dg.getD_of_le _ _ (by rw[jL];omega)];omega
      have HIX:Hid _:=hix;have HFIN:Hid _:=hfin;have hds:=hO2.1;clear hix hfin hJ2 hm0
      go_wp2
      go_loop [8] (fun iv=> ∃k:Nat,k+1≤E∧iv=yi k∧Hid (∀i,i<k→es.getD (es.length-1-i) 0=0)) (fun iv=>E-(intOf iv).toNat)
      case atStart=>exact⟨0,by omega,rfl,fun i hi=>by omega⟩
      case round=>
       obtain⟨k,hk,rfl,hz⟩:=hrel
       by_cases hl:k+1<E
       ·have hi1:=HIX.out k (by rw[HE.out];omega)
        have hd10:=hds (es.length-1-k);obtain⟨d,hd⟩: ∃d,es.getD (es.length-1-k) 0=d:=⟨_,rfl⟩;rw[hd] at hi1 hd10;have Hd:Hid (es.getD (es.length-1-k) 0=d):=hd;clear hd
        by_cases hd0:d=0
        ·subst hd0
         go_wp2
         go_round
         case rel=>exact⟨k+1,by omega,by go_num,fun i hi=>by
          by_cases e:i=k
          ·rw[e];exact Hd.out
          ·exact hz i (by omega)⟩
         case measure=>simp[intOf];omega
        ·have hne:((48+(d:Int))==48)=false:=by simp;omega
         have HF:Hid (T.extract k E=oW n):=HFIN.out k (by rw[HE.out];omega) hz (.inr (by rw[Hd.out];exact hd0))
         go_wp2
         go_ret
         exact⟨by rw[←HF.out];rfl,bel⟩
       ·have hke:k+1=E:=by omega
        have HF:Hid (T.extract k E=oW n):=HFIN.out k (by rw[HE.out];omega) hz (.inl (by rw[HE.out];exact hke));have hl2: ¬((k:Int)< (E:Int)-1):=by omega
        clear hke
        go_wp2
        go_ret
        exact⟨by rw[←HF.out];rfl,bel⟩
     ·have hqb:((ql:Int)==0)=false:=by simp;exact hq
      have hm0:gk/10000≠0:=fun e=>hq (HQ0.out.2 e)
      have hel:es.length≤16*L:=by
       have h1:10^es.length≤10^es.length*(gk/10000):=Nat.le_mul_of_pos_right _ (by omega);have h2:=hO2.2;have h3:2^es.length≤10^es.length:=Nat.pow_le_pow_left (by omega) _;have h4:(65536:Nat)^L=2^ (16*L):=by rw[Nat.pow_mul]
       have h5:=HNL.out;rw[h4] at h5;have:=(Nat.pow_lt_pow_iff_right (by omega:1<2)).1 (Nat.lt_of_le_of_lt (Nat.le_trans h3 (Nat.le_trans h1 (by omega))) h5);omega
      have hbw:Rd wr .i64 (.slice qo ql qc) (Dg.dg 65536 (gk/10000)):=hqlen.l bq;clear hqb
      go_wp2
      go_roundg (gk/10000)
      case measure=>exact Nat.div_lt_self (by omega) (by omega)
      case rel=>exact⟨es,T,hbw,rfl,hT,hO2,hel,by rw[HQ.out];exact hqn,bel⟩
  ·subst hrl hro
   go_wp2
   go_loopw [3,6,7] (fun sv gv jv wr=>acY w w1 n (gk/10000) ds.length sv gv jv wr) (fun _ _ jv _=>(4-intOf jv).toNat)
   case atStart=>exact start
   case round=>
    clear start hJ b2;obtain⟨es,T,j,g2,rfl,rfl,hj4,hes,hg2,rfl,hT,hTs,hJ2,bel,bq⟩:=hrel;have HTS:Hid (T.size=ds.length+j):=hTs;have HES:Hid (es.length=ds.length+j):=hes;have hTl:T.size≤16*L+4:=by have:=HSS.out;omega
    clear hTs hes
    by_cases hj:j<4
    ·have own1:=So wr 0 5 g2 (Nat.zero_le _)
     have hcv:=lQ 205 9 underlying205 underlying5 underlying9 own1;have hsz1:(cF [48+g2 % 10]).size≤1:=by rw[strOf_size8];simp
     have hcs:cF [48+g2 % 10]++T=cF (txt (es++[g2 % 10])):=by rw[hT.out,EY,Md]
     have hcz:(cF [48+g2 % 10]++T).size=ds.length+(j+1):=by rw[hcs,strOf_size8,jL];have:=HES.out;simp;omega
     obtain⟨C,hC⟩: ∃C,cF [48+g2 % 10]=C:=⟨_,rfl⟩;rw[hC] at hcv hsz1 hcs hcz;have HCS:Hid (C++T=cF (txt (es++[g2 % 10]))):=hcs;have HCZ:Hid ((C++T).size=ds.length+(j+1)):=hcz;have b4:=bq.alloc bq.size (.cells #[.int .u8 (48+(g2:Int) % 10)] 5);have b3:=bel.alloc bel.size (.cells #[.int .u8 (48+(g2:Int) % 10)] 5);clear hC hcs hcz own1
     go_wp2
     go_roundw
     case rel=>exact⟨es++[g2 % 10],C++T,j+1,g2/10,by go_num,by go_num,by omega,by have:=HES.out;simp;omega,by omega,rfl,HCS.out,HCZ.out,IA hJ2 hj,b3,b4⟩
     case measure=>simp[intOf];omega
    ·have hj':j=4:=by omega
     subst hj';have hO2:=Mf hJ2
     by_cases hq:ql=0
     ·subst hq
      have hm0:gk/10000=0:=HQ0.out.1 rfl;rw[hm0] at hO2;obtain⟨E,hE⟩: ∃E,T.size=E:=⟨_,rfl⟩;have HE:Hid (es.length=E):=by show _=_;rw[←hE,HES.out,HTS.out]
      have hE4:4≤E:=by rw[←hE,HTS.out];omega
      have hfin: ∀k,k+1≤es.length→(∀i,i<k→es.getD (es.length-1-i) 0=0)→(k+1=es.length∨es.getD (es.length-1-k) 0≠0)→T.extract k T.size=oW n:=fun k h1 h2 h3=>by
       rw[hT.out,EZ];exact IB hO2 h1 h2 h3
      rw[hE] at hfin hTl;have hix: ∀k,k<es.length→ ∀w,(Instr.index 9 (.string T) (yi (k:Int))).run Tryz.prog w= .ok (.int .u8 ((48+es.getD (es.length-1-k) 0:Nat):Int)) w:=fun k hk w=>by
       have hks:k<T.size:=by rw[hE,←HE.out];exact hk
       rw[run_index_string w 9 T .i64 (k:Int) underlying9,dif_pos ⟨by omega,by omega⟩]
       congr 3
       have hts:k< (cF (txt es)).size:=by rw[strOf_size8,jL];exact hk
       have e1:(T[(k:Int).toNat]'(by omega)).toNat=((cF (txt es))[k]'hts).toNat:=by
        have:=hT.out;subst this;rfl
       rw[e1,Cj _ _ hts (fun j=> ?_),tQ es k hk]
       by_cases hjl:j<es.length
       ·rw[tQ es j hjl];have:=hO2.1 (es.length-1-j);omega
       ·rw[Dg.getD_of_le _ _ (by rw[jL];omega)];omega
      have HIX:Hid _:=hix;have HFIN:Hid _:=hfin;have hds:=hO2.1;clear hix hfin hJ2 hm0
      go_wp2
      go_loop [8] (fun iv=> ∃k:Nat,k+1≤E∧iv=yi k∧Hid (∀i,i<k→es.getD (es.length-1-i) 0=0)) (fun iv=>E-(intOf iv).toNat)
      case atStart=>exact⟨0,by omega,rfl,fun i hi=>by omega⟩
      case round=>
       obtain⟨k,hk,rfl,hz⟩:=hrel
       by_cases hl:k+1<E
       ·have hi1:=HIX.out k (by rw[HE.out];omega)
        have hd10:=hds (es.length-1-k);obtain⟨d,hd⟩: ∃d,es.getD (es.length-1-k) 0=d:=⟨_,rfl⟩;rw[hd] at hi1 hd10;have Hd:Hid (es.getD (es.length-1-k) 0=d):=hd;clear hd
        by_cases hd0:d=0
        ·subst hd0
         go_wp2
         go_round
         case rel=>exact⟨k+1,by omega,by go_num,fun i hi=>by
          by_cases e:i=k
          ·rw[e];exact Hd.out
          ·exact hz i (by omega)⟩
         case measure=>simp[intOf];omega
        ·have hne:((48+(d:Int))==48)=false:=by simp;omega
         have HF:Hid (T.extract k E=oW n):=HFIN.out k (by rw[HE.out];omega) hz (.inr (by rw[Hd.out];exact hd0))
         go_wp2
         go_ret
         exact⟨by rw[←HF.out];rfl,bel⟩
       ·have hke:k+1=E:=by omega
        have HF:Hid (T.extract k E=oW n):=HFIN.out k (by rw[HE.out];omega) hz (.inl (by rw[HE.out];exact hke));have hl2: ¬((k:Int)< (E:Int)-1):=by omega
        clear hke
        go_wp2
        go_ret
        exact⟨by rw[←HF.out];rfl,bel⟩
     ·have hqb:((ql:Int)==0)=false:=by simp;exact hq
      have hm0:gk/10000≠0:=fun e=>hq (HQ0.out.2 e)
      have hel:es.length≤16*L:=by
       have h1:10^es.length≤10^es.length*(gk/10000):=Nat.le_mul_of_pos_right _ (by omega);have h2:=hO2.2;have h3:2^es.length≤10^es.length:=Nat.pow_le_pow_left (by omega) _;have h4:(65536:Nat)^L=2^ (16*L):=by rw[Nat.pow_mul]
       have h5:=HNL.out;rw[h4] at h5;have:=(Nat.pow_lt_pow_iff_right (by omega:1<2)).1 (Nat.lt_of_le_of_lt (Nat.le_trans h3 (Nat.le_trans h1 (by omega))) h5);omega
      have hbw:Rd wr .i64 (.slice qo ql qc) (Dg.dg 65536 (gk/10000)):=hqlen.l bq;clear hqb
      go_wp2
      go_roundg (gk/10000)
      case measure=>exact Nat.div_lt_self (by omega) (by omega)
      case rel=>exact⟨es,T,hbw,rfl,hT,hO2,hel,by rw[HQ.out];exact hqn,bel⟩
theorem rt_same {n d a B:Nat}(hd:0<d)(hB:0<B)(h:n*B=a*d):n/d=a/B∧n % d*B=a % B*d:=by
 have e1:a=B*(a/B)+a % B:=(Nat.div_add_mod a B).symm;have e2:a % B<B:=Nat.mod_lt _ hB;generalize a/B=q at e1⊢;generalize a % B=r at e1 e2⊢;have h2:n*B=d*q*B+r*d:=by rw[h,e1,Nat.add_mul];congr 1;ac_rfl
 have h3:d*q≤n:=Nat.le_of_mul_le_mul_right (c:=B) (by omega) hB;obtain⟨s,rfl⟩: ∃s,n=d*q+s:=⟨n-d*q,by omega⟩;have h4:s*B=r*d:=by rw[Nat.add_mul] at h2;omega
 have h5:s<d:=by
  refine Nat.lt_of_mul_lt_mul_right (a:=B) ?_;rw[h4,Nat.mul_comm d];exact Nat.mul_lt_mul_of_pos_right e2 hd
 refine⟨?_, ?_⟩
 ·rw[Nat.mul_add_div hd,Nat.div_eq_of_lt h5,Nat.add_zero]
 ·rw[Nat.mul_add_mod,Nat.mod_eq_of_lt h5,h4]
theorem half_same {a b j H:Nat}(hb:0<b)(hj:1≤j)(hH:H=if 0<a % b then a/b*2+1 else a/b*2):
  H/(10^j*2)=a/(b*10^j)∧(10^j*2<H % (10^j*2)*2↔b*10^j<a % (b*10^j)*2)∧(H % (10^j*2)*2=10^j*2↔a % (b*10^j)*2=b*10^j):=by
 obtain⟨i,rfl⟩: ∃i,j=i+1:=⟨j-1,by omega⟩;have eT:10^ (i+1)=2*(5*10^i):=by rw[Nat.pow_succ];omega
 have hT:0<5*10^i:=Nat.mul_pos (by omega) (Nat.pow_pos (by omega));rw[eT];generalize 5*10^i=T at hT⊢;have e1:a=b*(a/b)+a % b:=(Nat.div_add_mod a b).symm;have e2:a % b<b:=Nat.mod_lt _ hb;have hq:a/(b*(2*T))=a/b/(2*T):=(Nat.div_div_eq_div_mul _ _ _).symm;have hm:a % (b*(2*T))=a % b+b*(a/b % (2*T)):=Nat.mod_mul;rw[hq,hm];generalize a/b=W at e1 hH⊢;generalize a % b=r at e1 e2 hH⊢;have f1:W=2*T*(W/(2*T))+W % (2*T):=(Nat.div_add_mod _ _).symm;have f2:W % (2*T)<2*T:=Nat.mod_lt _ (by omega);generalize W/(2*T)=q at f1⊢;generalize W % (2*T)=m at f1 f2⊢;obtain⟨l,hl,hl2,hH⟩: ∃l,l≤1∧(l=0↔r=0)∧H=W*2+l:=by
  by_cases c:0<r
  ·exact⟨1,by omega,by omega,by rw[hH,if_pos c]⟩
  ·exact⟨0,by omega,by omega,by rw[hH,if_neg c];rfl⟩
 have g:H=2*T*2*q+(m*2+l):=by
  rw[hH];have:W*2=2*T*2*q+m*2:=by
   have:2*T*2*q=2*(2*T*q):=by ac_rfl
   omega
  omega
 have g2:m*2+l<2*T*2:=by omega
 have k1:H/(2*T*2)=q:=by rw[g,Nat.mul_add_div (by omega),Nat.div_eq_of_lt g2,Nat.add_zero]
 have k2:H % (2*T*2)=m*2+l:=by rw[g,Nat.mul_add_mod,Nat.mod_eq_of_lt g2]
 rw[k1,k2];have n1:b*(2*T)=2*(b*T):=by ac_rfl
 rw[n1];refine⟨rfl, ?_, ?_⟩
 ·constructor
  ·intro h
   have:T≤m:=by omega
   rcases Nat.lt_or_ge T m with c|c
   ·have:=Nat.mul_le_mul_left b c
    rw[Nat.mul_succ] at this;omega
   ·obtain rfl:T=m:=by omega
    have:0<r:=by omega
    omega
  ·intro h
   rcases Nat.lt_or_ge m T with c|c
   ·have:=Nat.mul_le_mul_left b c
    rw[Nat.mul_succ] at this;omega
   ·rcases Nat.lt_or_ge T m with d|d
    ·omega
    ·obtain rfl:T=m:=by omega
     have:0<r:=by omega
     omega
 ·constructor
  ·intro h
   obtain rfl:l=0:=by omega
   obtain rfl:r=0:=hl2.1 rfl;obtain rfl:m=T:=by omega
   omega
  ·intro h
   rcases Nat.lt_trichotomy m T with c|c|c
   ·have:=Nat.mul_le_mul_left b c
    rw[Nat.mul_succ] at this;omega
   ·subst c
    have:r=0:=by omega
    have:l=0:=hl2.2 this;omega
   ·have:=Nat.mul_le_mul_left b c
    rw[Nat.mul_succ] at this;omega
theorem dg_cross (xn:Nat)(e n:Int):scA xn e n*2^ (-e).toNat*10^ (-n).toNat=xn*2^e.toNat*scB e n*10^n.toNat:=by
 unfold scA scB;obtain⟨np,h1⟩: ∃k,n.toNat=k:=⟨_,rfl⟩;obtain⟨nm,h2⟩: ∃k,(-n).toNat=k:=⟨_,rfl⟩;obtain⟨ep,h3⟩: ∃k,e.toNat=k:=⟨_,rfl⟩;obtain⟨em,h4⟩: ∃k,(-e).toNat=k:=⟨_,rfl⟩;obtain⟨tp,h5⟩: ∃k,(e+n).toNat=k:=⟨_,rfl⟩;obtain⟨tm,h6⟩: ∃k,(-(e+n)).toNat=k:=⟨_,rfl⟩;rw[h1,h2,h3,h4,h5,h6];have a1:tp+em+nm=ep+tm+np:=by omega
 clear h1 h2 h3 h4 h5 h6;rw[ten_parts nm,ten_parts np];have l:xn*5^np*2^tp*2^em*(2^nm*5^nm)=xn*2^ (tp+em+nm)*5^ (np+nm):=by
  simp only[Nat.pow_add]
  ac_rfl
 have r:xn*2^ep*(5^nm*2^tm)*(2^np*5^np)=xn*2^ (ep+tm+np)*5^ (np+nm):=by
  simp only[Nat.pow_add]
  ac_rfl
 rw[l,r,a1]
theorem dg_less {N D a b C:Nat}{n p:Int}(hb:0<b)(hc:a*D*10^ (-n).toNat=N*b*10^n.toNat)(hW:a/b<10^C)(hW1:10^ (C-1)≤a/b)(hC:1≤C)(hD:0<D):
  N*10^ (-p).toNat<D*10^p.toNat↔(C:Int)-n≤p:=by
 have hT: ∀k,0<10^k:=fun k=>Nat.pow_pos (by omega)
 have key:N*10^ (-p).toNat<D*10^p.toNat↔a*10^ (-(n+p)).toNat<b*10^ (n+p).toNat:=by
  obtain⟨np,h1⟩: ∃k,n.toNat=k:=⟨_,rfl⟩;obtain⟨nm,h2⟩: ∃k,(-n).toNat=k:=⟨_,rfl⟩;obtain⟨pp,h3⟩: ∃k,p.toNat=k:=⟨_,rfl⟩;obtain⟨pm,h4⟩: ∃k,(-p).toNat=k:=⟨_,rfl⟩;obtain⟨tp,h5⟩: ∃k,(n+p).toNat=k:=⟨_,rfl⟩;obtain⟨tm,h6⟩: ∃k,(-(n+p)).toNat=k:=⟨_,rfl⟩;rw[h1,h2] at hc;rw[h3,h4,h5,h6];have a1:nm+pm+tp=np+pp+tm:=by omega
  clear h1 h2 h3 h4 h5 h6;have s1:N*10^pm<D*10^pp↔N*10^pm*(b*10^np*10^tp)<D*10^pp*(b*10^np*10^tp):=
   (Nat.mul_lt_mul_right (Nat.mul_pos (Nat.mul_pos hb (hT _)) (hT _))).symm
  have s2:a*10^tm<b*10^tp↔a*10^tm*(D*10^pp*10^np)<b*10^tp*(D*10^pp*10^np):=
   (Nat.mul_lt_mul_right (Nat.mul_pos (Nat.mul_pos hD (hT _)) (hT _))).symm
  rw[s1,s2];have e1:N*10^pm*(b*10^np*10^tp)=a*10^tm*(D*10^pp*10^np):=by
   have:N*10^pm*(b*10^np*10^tp)=(N*b*10^np)*(10^pm*10^tp):=by ac_rfl
   rw[this,←hc];have:a*D*10^nm*(10^pm*10^tp)=a*D*10^ (nm+pm+tp):=by
    rw[Nat.pow_add,Nat.pow_add];ac_rfl
   rw[this,a1,Nat.pow_add,Nat.pow_add]
   ac_rfl
  have e2:D*10^pp*(b*10^np*10^tp)=b*10^tp*(D*10^pp*10^np):=by ac_rfl
  rw[e1,e2]
 rw[key]
 by_cases hq:0≤n+p
 ·obtain⟨q,hq⟩: ∃q:Nat,n+p=q:=⟨(n+p).toNat,by omega⟩
  rw[hq,show(-(q:Int)).toNat=0 by omega,Int.toNat_natCast,Nat.pow_zero,Nat.mul_one,Nat.mul_comm,←Nat.div_lt_iff_lt_mul hb]
  constructor
  ·intro h
   have:10^ (C-1)<10^q:=Nat.lt_of_le_of_lt hW1 h;have:=(Nat.pow_lt_pow_iff_right (by omega:1<10)).1 this;omega
  ·intro h
   exact Nat.lt_of_lt_of_le hW (Nat.pow_le_pow_right (by omega) (by omega))
 ·rw[show(n+p).toNat=0 by omega,Nat.pow_zero,Nat.mul_one]
  constructor
  ·intro h
   have h2:a<b:=Nat.lt_of_le_of_lt (Nat.le_mul_of_pos_right _ (hT _)) h;rw[Nat.div_eq_of_lt h2] at hW1;exact absurd hW1 (by have:=hT (C-1);omega)
  ·intro h
   omega
theorem dg_ratio {N D a b C k:Nat}{n P:Int}(hc:a*D*10^ (-n).toNat=N*b*10^n.toNat)(hP:P=(C:Int)-n-1)(hk:k≤C):
  (N*10^ ((k:Int)-1-P).toNat)*(b*10^ (C-k))=a*(D*10^ (-((k:Int)-1-P)).toNat):=by
 have hT: ∀k,0<10^k:=fun k=>Nat.pow_pos (by omega)
 obtain⟨np,h1⟩: ∃k,n.toNat=k:=⟨_,rfl⟩;obtain⟨nm,h2⟩: ∃k,(-n).toNat=k:=⟨_,rfl⟩;obtain⟨up,h3⟩: ∃j,((k:Int)-1-P).toNat=j:=⟨_,rfl⟩;obtain⟨um,h4⟩: ∃j,(-((k:Int)-1-P)).toNat=j:=⟨_,rfl⟩;rw[h1,h2] at hc;rw[h3,h4];have a1:up+(C-k)+nm=um+np:=by omega
 clear h1 h2 h3 h4;refine Nat.eq_of_mul_eq_mul_right (hT (np+nm)) ?_;rw[Nat.pow_add];have e1:N*10^up*(b*10^ (C-k))*(10^np*10^nm)=N*b*10^np*10^ (up+(C-k)+nm):=by
  rw[Nat.pow_add,Nat.pow_add];ac_rfl
 rw[e1,←hc,a1,Nat.pow_add]
 ac_rfl
theorem decS_low {W:Nat}(h:W≠0):10^ ((oW W).size-1)≤W:=by
 unfold oW;rw[if_neg h,fS,List.length_reverse,List.length_map];have:=Dg.vl_ge 10 (Dg.dg 10 W) (fun c=>h ((Dg.dg_nil_iff 10 _ (by omega)).1 c)) (Dg.norm_dg _ _ (by omega))
 rwa [Dg.vl_dg _ _ (by omega)] at this
theorem pow2_ten {k q:Nat}(h:k≤13*q):2^k≤10^ (4*q):=by
 refine Nat.le_trans (Nat.pow_le_pow_right (by omega) h) ?_;rw[Nat.pow_mul,Nat.pow_mul];exact Nat.pow_le_pow_left (by decide) q
theorem tdiv_in {z:Int}(h1: -540000≤z)(h2:z≤540000): -5400≤z.tdiv 100∧z.tdiv 100≤5400:=by
 by_cases h:0≤z
 ·rw[Int.tdiv_eq_ediv_of_nonneg h]
  omega
 ·obtain⟨y,rfl⟩: ∃y,z= -y:=⟨-z,by omega⟩
  rw[Int.neg_tdiv,Int.tdiv_eq_ediv_of_nonneg (by omega)];omega
def dqN (x:ak):Nat:=x.n*2^x.e.toNat
def dqD (x:ak):Nat:=2^ (-x.e).toNat
def dgS (x:ak)(k:Nat):ByteArray:=if k< (oW (prQ (dcH x) (dcC x) k)).size then(oW (prQ (dcH x) (dcC x) k)).extract 0 k else oW (prQ (dcH x) (dcC x) k)
theorem dqN_in {x:ak}{a c:Nat}(ha:a=64)(hc:c=16564)(hx:x.n<2^a)(e1: -16500≤x.e)(e2:x.e≤16500):dqN x<2^c∧dqD x≤2^c∧0<dqD x:=by
 obtain⟨f,hf⟩: ∃f,f=16500:=⟨_,rfl⟩;refine⟨?_, ?_,Nat.pow_pos (by omega)⟩
 ·have:2^c=2^a*2^f:=by rw[←Nat.pow_add];congr 1;omega
  rw[this];exact Nat.mul_lt_mul_of_lt_of_le hx (Nat.pow_le_pow_right (by omega) (by omega)) (Nat.pow_pos (by omega))
 ·exact Nat.pow_le_pow_right (by omega) (by omega)
theorem dc_less {x:ak}(hx:x.n<2^64)(e1: -16500≤x.e)(e2:x.e≤16500)(h0:x.n≠0)(p:Int):dqN x*10^ (-p).toNat<dqD x*10^p.toNat↔dcP x<p:=by
 have hm:=dc_many hx e1 e2 h0;have hT:0<10^60:=Nat.pow_pos (by omega);have h1:10^ (dcC x-1)≤dcW x:=decS_low (by omega);have h2:dcW x<10^dcC x:=decS_big;have h3:1≤dcC x:=decS_one _;have:=dg_less (p:=p) (n:=60-dcG x) (C:=dcC x) (show 0<scB x.e (60-dcG x) from Nat.mul_pos (Nat.pow_pos (by omega)) (Nat.pow_pos (by omega))) (dg_cross x.n x.e (60-dcG x)) h2 h1 h3 (show 0<2^ (-x.e).toNat from Nat.pow_pos (by omega))
 unfold dqN dqD;rw[this];unfold dcP;omega
theorem dcP_in {x:ak}(hx:x.n<2^64)(e1: -16500≤x.e)(e2:x.e≤16500)(h0:x.n≠0): -5200≤dcP x∧dcP x≤5200:=by
 obtain⟨a,ha⟩: ∃a,a=64:=⟨_,rfl⟩;obtain⟨c,hc⟩: ∃c,c=16564:=⟨_,rfl⟩;obtain⟨i1,i2,i3⟩:=dqN_in ha hc (by rw[ha];exact hx) e1 e2;have h1:=dc_less hx e1 e2 h0 5200;have h2:=dc_less hx e1 e2 h0 (-5200);obtain⟨q,hq⟩: ∃q,q=1300:=⟨_,rfl⟩;have hp:2^c≤10^ (4*q):=pow2_ten (by omega);rw[show(-(5200:Int)).toNat=0 by decide,show(5200:Int).toNat=4*q by omega,Nat.pow_zero,Nat.mul_one] at h1
 rw[show(-(-5200:Int)).toNat=4*q by omega,show(-5200:Int).toNat=0 by decide,Nat.pow_zero,Nat.mul_one] at h2
 constructor
 ·rcases Int.lt_or_le (dcP x) (-5200) with d|d
  ·have:=h2.2 d
   have h5:1≤dqN x:=Nat.mul_pos (Nat.pos_of_ne_zero h0) (Nat.pow_pos (by omega));have:=Nat.mul_le_mul h5 hp;omega
  ·exact d
 ·have:dqN x<dqD x*10^ (4*q):=Nat.lt_of_lt_of_le i1 (Nat.le_trans hp (Nat.le_mul_of_pos_left _ i3))
  have:=h1.1 this;omega
theorem dg_round {x:ak}{k:Nat}(hx:x.n<2^64)(e1: -16500≤x.e)(e2:x.e≤16500)(h0:x.n≠0)(hk1:1≤k)(hk2:k≤60){n2 d2:Nat}(hn2:n2=dqN x*10^ ((k:Int)-1-dcP x).toNat)(hd2:d2=dqD x*10^ (-((k:Int)-1-dcP x)).toNat):
  n2/d2≠0∧((0<dm (n2 % d2*2:Nat) (d2:Nat)∧prQ (dcH x) (dcC x) k=n2/d2+1)∨(dm (n2 % d2*2:Nat) (d2:Nat)=0∧n2/d2 % 2=1∧prQ (dcH x) (dcC x) k=n2/d2+1)∨(dm (n2 % d2*2:Nat) (d2:Nat)=0∧n2/d2 % 2=0∧prQ (dcH x) (dcC x) k=n2/d2)∨(dm (n2 % d2*2:Nat) (d2:Nat)<0∧prQ (dcH x) (dcC x) k=n2/d2)):=by
 have hm:=dc_many hx e1 e2 h0;have hC:61≤dcC x:=by
  rcases Nat.lt_or_ge (dcC x) 61 with c|c
  ·have h2:dcW x<10^dcC x:=decS_big
   have:=Nat.pow_le_pow_right (n:=10) (by omega) (show dcC x≤60 by omega)
   omega
  ·exact c
 have hb:0<scB x.e (60-dcG x):=Nat.mul_pos (Nat.pow_pos (by omega)) (Nat.pow_pos (by omega));have hD:0<d2:=by rw[hd2];exact Nat.mul_pos (Nat.pow_pos (by omega)) (Nat.pow_pos (by omega))
 have hR:=dg_ratio (k:=k) (n:=60-dcG x) (P:=dcP x) (C:=dcC x) (dg_cross x.n x.e (60-dcG x)) (by unfold dcP;omega) (by omega);have hR':n2*(scB x.e (60-dcG x)*10^ (dcC x-k))=scA x.n x.e (60-dcG x)*d2:=by rw[hn2,hd2];exact hR
 have hW:dcW x=scA x.n x.e (60-dcG x)/scB x.e (60-dcG x):=rfl;have hH:dcH x=if 0<scA x.n x.e (60-dcG x) % scB x.e (60-dcG x) then scA x.n x.e (60-dcG x)/scB x.e (60-dcG x)*2+1 else scA x.n x.e (60-dcG x)/scB x.e (60-dcG x)*2:=by
  unfold dcH dcL dcW
  by_cases c:0<scA x.n x.e (60-dcG x) % scB x.e (60-dcG x)
  ·rw[if_pos c,if_pos (decide_eq_true ?_)]
   rcases Nat.eq_zero_or_pos (Dg.dg 4294967296 (scA x.n x.e (60-dcG x) % scB x.e (60-dcG x))).length with d|d
   ·have:=(Dg.dg_nil_iff 4294967296 _ (by omega)).1 (List.length_eq_zero_iff.1 d)
    omega
   ·exact d
  ·rw[if_neg c,if_neg]
   have:scA x.n x.e (60-dcG x) % scB x.e (60-dcG x)=0:=by omega
   rw[this]
   decide
 have hW2:10^ (dcC x-1)≤scA x.n x.e (60-dcG x)/scB x.e (60-dcG x):=by
  have:dcW x≠0:=fun c=>by
   have hT:0<10^60:=Nat.pow_pos (by omega);omega
  exact decS_low this
 clear hm hW;generalize scA x.n x.e (60-dcG x)=a at hR' hH hW2;generalize scB x.e (60-dcG x)=b at hb hR' hH hW2;obtain⟨s1,s2⟩:=rt_same hD (Nat.mul_pos hb (Nat.pow_pos (by omega))) hR';obtain⟨t1,t2,t3⟩:=half_same hb (show 1≤dcC x-k by omega) hH
 have hB0:0<b*10^ (dcC x-k):=Nat.mul_pos hb (Nat.pow_pos (by omega));have u: ∀m,m=n2 % d2*2*(b*10^ (dcC x-k))→m=a % (b*10^ (dcC x-k))*2*d2:=fun m h=>by
  rw[h,Nat.mul_right_comm,s2,Nat.mul_right_comm]
 have u1:=u _ rfl;have v2:d2<n2 % d2*2↔b*10^ (dcC x-k)<a % (b*10^ (dcC x-k))*2:=by
  rw[←Nat.mul_lt_mul_right hB0,u1,Nat.mul_comm d2,Nat.mul_lt_mul_right hD]
 have v3:n2 % d2*2=d2↔a % (b*10^ (dcC x-k))*2=b*10^ (dcC x-k):=by
  constructor
  ·intro h
   rw[h] at u1;exact Nat.eq_of_mul_eq_mul_right hD (by rw[←u1,Nat.mul_comm])
  ·intro h
   rw[h] at u1;exact Nat.eq_of_mul_eq_mul_right hB0 (by rw[u1,Nat.mul_comm])
 have e1:dcH x/prU (dcC x) k=n2/d2:=by rw[s1];exact t1
 have e2':prU (dcC x) k<dcH x % prU (dcC x) k*2↔d2<n2 % d2*2:=by rw[v2];exact t2
 have e3:dcH x % prU (dcC x) k*2=prU (dcC x) k↔n2 % d2*2=d2:=by rw[v3];exact t3
 refine⟨?_, ?_⟩
 ·rw[s1,←Nat.div_div_eq_div_mul]
  refine Nat.ne_of_gt (Nat.div_pos (Nat.le_trans (Nat.pow_le_pow_right (by omega) (by omega)) hW2) (Nat.pow_pos (by omega)))
 ·unfold prQ dm
  rw[e1];simp only[e2',e3];generalize n2 % d2*2=m;generalize n2/d2=q
  rcases Nat.lt_trichotomy m d2 with h|h|h
  ·refine .inr (.inr (.inr ⟨by rw[if_pos (by omega)];decide,by rw[if_neg (by omega)]⟩))
  ·have e:(if((m:Nat):Int)< ((d2:Nat):Int) then(-1:Int) else if((d2:Nat):Int)< ((m:Nat):Int) then 1 else 0)=0:=by rw[if_neg (by omega),if_neg (by omega)]
   by_cases ho:q % 2=1
   ·exact .inr (.inl ⟨e,ho,by rw[if_pos (.inr ⟨h,ho⟩)]⟩)
   ·exact .inr (.inr (.inl ⟨e,by omega,by rw[if_neg (by omega)]⟩))
  ·exact .inl ⟨by rw[if_neg (by omega),if_pos (by omega)];decide,by rw[if_pos (.inl h)]⟩
theorem digitsOf_any (x:ak)(k:Nat)(xo:Option Addr)(xc:Nat)(w:World)(rx:Rd w .i64 (yS xo x.n xc) (Dg.dg 65536 x.n))(hx:x.n<2^64)(e1: -16500≤x.e)(e2:x.e≤16500)(h0:x.n≠0)(hk1:1≤k)(hk2:k≤60):
  yC 56 #[yMV x xo xc,yi k] w (yR w (.tuple #[.string (dgS x k),yi (prN (dcH x) (dcC x) (dcP x) k)])):=by
 obtain⟨a,ha⟩: ∃a,a=64:=⟨_,rfl⟩;obtain⟨c,hc⟩: ∃c,c=16564:=⟨_,rfl⟩;obtain⟨i1,i2,i3⟩:=dqN_in ha hc (by rw[ha];exact hx) e1 e2;have hP:=dcP_in hx e1 e2 h0;have hL:=dc_less hx e1 e2 h0;obtain⟨hd0,hr⟩:=dg_round (k:=k) hx e1 e2 h0 hk1 hk2 rfl rfl;obtain⟨up,hup⟩: ∃up:Int,(k:Int)-1-dcP x=up:=⟨_,rfl⟩;rw[hup] at hd0 hr;obtain⟨d1,d2,d3,d4,d5⟩:=dc_all hx e1 e2 h0;have hQ:prQ (dcH x) (dcC x) k≤10^k:=prQ_le d1 (by omega);have hQ2:prQ (dcH x) (dcC x) k<10^ (k+1):=Nat.lt_of_le_of_lt hQ (Nat.pow_lt_pow_right (by omega) (by omega));have hSs:=decS_le hQ2 (by omega);have hxl:(Dg.dg 65536 x.n).length≤5:=UI (k:=a) (by rw[ha];exact Nat.le_of_lt hx) (by omega);have hNl:(Dg.dg 65536 (dqN x)).length≤2000:=UI (k:=c) (Nat.le_of_lt i1) (by omega);have hDl:(Dg.dg 65536 (dqD x)).length≤2000:=UI (k:=c) i2 (by omega);obtain⟨f,hf⟩: ∃f,f=24400:=⟨_,rfl⟩;have hTl: ∀K,K≤6100→10^K≤2^f:=fun K hK=>Nat.le_trans (ten_two4 K) (Nat.pow_le_pow_right (by omega) (by omega))
 have hTL: ∀K,K≤6100→(Dg.dg 65536 (10^K)).length≤3060:=fun K hK=>ten_len (K:=K) (Nat.pow_le_pow_right (by omega) (by omega)) hK
 have hML: ∀m K,m≤2^c→K≤6100→(Dg.dg 65536 (m*10^K)).length≤4000:=fun m K hm hK=>by
  have h1:=hTl K hK;refine UI (k:=c+f) ?_ (by omega);rw[Nat.pow_add];exact Nat.mul_le_mul hm h1
 have hbN:=bF (dqN x) c i1;have hbD:bitLen (dqD x)≤c+1:=bF (dqD x) (c+1) (Nat.lt_of_le_of_lt i2 (Nat.pow_lt_pow_right (by omega) (by omega)));have REFCMP: ∀(m n:Nat) vo vc uo uc w1,Rd w1 .i64 (yS vo m vc) (Dg.dg 65536 m)→Rd w1 .i64 (yS uo n uc) (Dg.dg 65536 n)→yC 54 #[yS vo m vc,yS uo n uc] w1 (yR w1 (yi (dm (m:Nat) (n:Nat)))):=fun m n vo vc uo uc w1 h1 h2=>by
  have:=fm _ _ _ _ w1 h1 h2 (Dg.small_dg _ _ (by omega)) (Dg.small_dg _ _ (by omega)) (Dg.norm_dg _ _ (by omega)) (Dg.norm_dg _ _ (by omega))
  rwa [Dg.vl_dg _ _ (by omega),Dg.vl_dg _ _ (by omega)] at this
 have TIMES: ∀(m n:Nat) vo vc uo uc w1,(Dg.dg 65536 m).length≤5000→(Dg.dg 65536 n).length≤5000→Rd w1 .i64 (yS vo m vc) (Dg.dg 65536 m)→Rd w1 .i64 (yS uo n uc) (Dg.dg 65536 n)→yC 34 #[yS vo m vc,yS uo n uc] w1 (cG w1 (m*n)):=fun m n vo vc uo uc w1 l1 l2 h1 h2=>by
  have:=fN _ _ _ _ w1 h1 h2 (Dg.small_dg _ _ (by omega)) (Dg.small_dg _ _ (by omega)) (by omega) (by omega)
  rwa [Dg.vl_dg _ _ (by omega),Dg.vl_dg _ _ (by omega)] at this
 have cm: ∀m n:Nat,decide (0<dm (m:Nat) (n:Nat))=decide (n<m):=fun m n=>by
  refine decide_eq_decide.2 ?_;unfold dm
  split
  ·omega
  ·split<;>omega
 have HO: ∀(p:Int) p6 p7 no nc yo yc w1,-6000≤p→p≤6000→yB w w1→w1.rangeAt p6 0 [.slice no (Dg.dg 65536 (dqN x)).length nc]→w1.rangeAt p7 0 [.slice yo (Dg.dg 65536 (dqD x)).length yc]→Rd w1 .i64 (.slice no (Dg.dg 65536 (dqN x)).length nc) (Dg.dg 65536 (dqN x))→Rd w1 .i64 (.slice yo (Dg.dg 65536 (dqD x)).length yc) (Dg.dg 65536 (dqD x))→yC 107 #[yi p,.pointer (some ⟨p7,0,none⟩),.pointer (some ⟨p6,0,none⟩)] w1 (yR w1 (.bool (decide (dcP x<p)))):=fun p p6 p7 no nc yo yc w1 l1 l2 _ g1 g2 r1 r2=>by
  by_cases hp:0≤p
  ·have hL':=hL p
   obtain⟨q,rfl⟩: ∃q:Nat,p=(q:Int):=⟨p.toNat,by omega⟩;rw[show(-(q:Int)).toNat=0 by omega,Int.toNat_natCast,Nat.pow_zero,Nat.mul_one] at hL'
   exact over_up (dqN x) (dqD x) (dqD x*10^q) (10^q) q no yo nc yc p6 p7 _ _ w1 g1 g2 r1 r2 (by rw[cm];exact decide_eq_decide.2 hL') hp (fun w2 _=>power10_any q w2 (by omega)) (fun yo yc ko kc w2 _ h1 h2=>TIMES _ _ yo yc ko kc w2 (by omega) (by have:=hTL q (by omega);omega) h1 h2) (fun mo mc no nc w2 _ h1 h2=>REFCMP _ _ mo mc no nc w2 h1 h2)
  ·have hL':=hL p
   obtain⟨q,hq⟩: ∃q:Nat,-p=(q:Int):=⟨(-p).toNat,by omega⟩;rw[hq,Int.toNat_natCast,show p.toNat=0 by omega,Nat.pow_zero,Nat.mul_one] at hL'
   exact over_down (dqN x) (dqD x) (dqN x*10^q) (10^q) p no yo nc yc p6 p7 _ (q:Int) _ w1 g1 g2 r1 r2 (by rw[cm];exact decide_eq_decide.2 hL') hp (by rw[hq];exact IntWalk.i64_in _ ⟨by omega,by omega⟩) (fun w2 _=>power10_any q w2 (by omega)) (fun no nc ko kc w2 _ h1 h2=>TIMES _ _ no nc ko kc w2 (by omega) (by have:=hTL q (by omega);omega) h1 h2) (fun yo yc mo mc w2 _ h1 h2=>REFCMP _ _ yo yc mo mc w2 h1 h2)
 obtain⟨ua,hua⟩: ∃ua:Nat,ua=up.natAbs:=⟨_,rfl⟩;have hd2:0<dqD x*10^ (-up).toNat:=Nat.mul_pos i3 (Nat.pow_pos (by omega));have l2:(Dg.dg 65536 (dqN x*10^up.toNat)).length≤4000:=hML _ _ (Nat.le_of_lt i1) (by omega);have l3:(Dg.dg 65536 (dqD x*10^ (-up).toNat)).length≤4000:=hML _ _ i2 (by omega);have hrm:(Dg.dg 65536 (dqN x*10^up.toNat % (dqD x*10^ (-up).toNat))).length≤4000:=Nat.le_trans (aH 65536 _ _ (by omega) (Nat.mod_le _ _)) l2;have hqm:(Dg.dg 65536 (dqN x*10^up.toNat/(dqD x*10^ (-up).toNat))).length≤4000:=Nat.le_trans (aH 65536 _ _ (by omega) (Nat.div_le_self _ _)) l2;have hQl:(Dg.dg 65536 (prQ (dcH x) (dcC x) k)).length≤100:=by
  obtain⟨b,hb⟩: ∃b,b=244:=⟨_,rfl⟩;exact UI (k:=b) (Nat.le_trans hQ (Nat.le_trans (ten_two4 k) (Nat.pow_le_pow_right (by omega) (by omega)))) (by omega)
 have hS:((oW (prQ (dcH x) (dcC x) k)).size≤1000∧((k< (oW (prQ (dcH x) (dcC x) k)).size∧dgS x k=(oW (prQ (dcH x) (dcC x) k)).extract 0 k∧prN (dcH x) (dcC x) (dcP x) k=dcP x+1)∨((oW (prQ (dcH x) (dcC x) k)).size≤k∧dgS x k=oW (prQ (dcH x) (dcC x) k)∧prN (dcH x) (dcC x) (dcP x) k=dcP x))):=by
  refine⟨by omega, ?_⟩;unfold dgS prN
  by_cases h:k< (oW (prQ (dcH x) (dcC x) k)).size
  ·exact .inl ⟨h,if_pos h,if_pos h⟩
  ·exact .inr ⟨by omega,if_neg h,if_neg h⟩
 have q4:(((bitLen (dqN x):Int)-(bitLen (dqD x):Int)-1)*30).tdiv 100≤5400∧ -5400≤(((bitLen (dqN x):Int)-(bitLen (dqD x):Int)-1)*30).tdiv 100:=(tdiv_in (by omega) (by omega)).symm;refine digitsOf_W x (dqN x) (dqD x) (dqN x*10^up.toNat) (dqD x*10^ (-up).toNat) (10^ua) (2^c) _ (dqN x*10^up.toNat % (dqD x*10^ (-up).toNat)) (dqN x*10^up.toNat % (dqD x*10^ (-up).toNat)*2) (prQ (dcH x) (dcC x) k) k (dcP x) ((((bitLen (dqN x):Int)-(bitLen (dqD x):Int)-1)*30).tdiv 100-2) ((bitLen (dqN x):Int)-(bitLen (dqD x):Int)) ((bitLen (dqN x):Int)-(bitLen (dqD x):Int)-1) (((bitLen (dqN x):Int)-(bitLen (dqD x):Int)-1)*30) ((((bitLen (dqN x):Int)-(bitLen (dqD x):Int)-1)*30).tdiv 100) (bitLen (dqN x):Int) (bitLen (dqD x):Int) ((k:Int)-1) up (ua:Int) (-x.e) _ _ _ _ xo xc w rx ?_ ?_ ?_ ?_ ?_ ?_ ?_ ?_ ⟨hk1,hk2⟩ ?_ ?_ ?_ ?_ hr hd0 hS ?_ ?_ ?_ ?_ HO ?_ ?_ ?_ ?_ ?_ ?_ ?_
 ·by_cases he:0≤x.e
  ·exact .inl ⟨he,by unfold dqD;rw[show(-x.e).toNat=0 by omega,Nat.pow_zero]⟩
  ·exact .inr ⟨he,by unfold dqN;rw[show x.e.toNat=0 by omega,Nat.pow_zero,Nat.mul_one]⟩
 ·intro _
  exact IntWalk.i64_in _ ⟨by omega,by omega⟩
 ·exact IntWalk.i64_in _ ⟨by omega,by omega⟩
 ·exact IntWalk.i64_in _ ⟨by omega,by omega⟩
 ·exact IntWalk.i64_in _ ⟨by omega,by omega⟩
 ·exact IntWalk.i64_in _ ⟨by omega,by omega⟩
 ·exact IntWalk.i64_in _ ⟨by omega,by omega⟩
 ·exact⟨by omega,by omega,by omega,by omega⟩
 ·exact IntWalk.i64_in _ ⟨by omega,by omega⟩
 ·rw[hup]
  exact IntWalk.i64_in _ ⟨by omega,by omega⟩
 ·by_cases hu:0≤up
  ·exact .inl ⟨hu,by omega,by rw[show(-up).toNat=0 by omega,Nat.pow_zero,Nat.mul_one],by rw[show up.toNat=ua by omega]⟩
  ·exact .inr ⟨hu,by rw[IntWalk.i64_in _ ⟨by omega,by omega⟩];omega,by rw[show up.toNat=0 by omega,Nat.pow_zero,Nat.mul_one],by rw[show(-up).toNat=ua by omega]⟩
 ·exact⟨Nat.le_of_lt i1,i2⟩
 ·intro he xo xc w1 _ h
  have:=kD _ _ x.e.toNat w1 h (Dg.small_dg _ _ (by omega)) (by omega) (by omega);rw[Dg.vl_dg _ _ (by omega),show((x.e.toNat:Nat):Int)=x.e by omega] at this
  exact this
 ·intro he w1 _
  have:=pf (-x.e).toNat ((-x.e).toNat/16) ((-x.e).toNat % 16) w1 (by omega) (by omega) (by omega);rw[show(((-x.e).toNat:Nat):Int)= -x.e by omega] at this
  exact this
 ·intro no nc w1 _ h
  exact vK _ _ w1 h (by omega)
 ·intro no nc w1 _ h
  exact vK _ _ w1 h (by omega)
 ·intro w1 _
  exact power10_any ua w1 (by omega)
 ·intro m mo mc ko kc w1 hm _ h1 h2
  exact TIMES _ _ mo mc ko kc w1 (Nat.le_trans (UI (L:=2000) hm (by omega)) (by omega)) (by have:=hTL ua (by omega);omega) h1 h2
 ·intro no nc yo yc w1 _ h1 h2
  exact qM _ _ _ _ w1 h1 h2 (by omega) (by omega) hd2
 ·intro ro rc q w1 _ h1 hq
  have:=fN _ _ _ _ w1 h1 (rd_two hq) (Dg.small_dg _ _ (by omega)) (Dg.small_dg _ _ (by omega)) (by omega) (by decide)
  rwa [Dg.vl_dg _ _ (by omega),Dg.vl_dg _ _ (by omega)] at this
 ·intro so sc yo yc w1 _ h1 h2
  exact REFCMP _ _ so sc yo yc w1 h1 h2
 ·intro go gc b w1 _ h hq
  have:=ew _ _ _ _ w1 h (rd_onE hq) (Dg.small_dg _ _ (by omega)) (Dg.small_dg _ _ (by omega)) (Dg.norm_dg _ _ (by omega)) (Dg.norm_dg _ _ (by omega)) (by omega) (by decide)
  rwa [Dg.vl_dg _ _ (by omega),Dg.vl_dg _ _ (by omega)] at this
 ·intro go gc w1 _ h
  exact Kc _ _ 100 w1 h hQl (by omega)
end Go.Proofs.YtpgijbdgljkeeaaGreatDoor
