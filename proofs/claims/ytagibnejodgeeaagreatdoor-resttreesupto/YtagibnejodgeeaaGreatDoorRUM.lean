/- What goes aside and what is made, as mathematics: what stays true step by step. -/
import Derived.Test.YtagibnejodgeeaaGreatDoorRUK
import Derived.Test.YtagibnejodgeeaaGreatDoorRUC
import Derived.Test.YtagibnejodgeeaaGreatDoorRUL
import Derived.Maps.OwnSet
import Derived.Test.YtagibnejodgeeaaGreatDoorRUD
import Derived.Test.YtagibnejodgeeaaGreatDoorRUI
import Derived.Laws.OwnMore
import Derived.Test.YtagibnejodgeeaaGreatDoorRUB
import Derived.Test.YtagibnejodgeeaaGreatDoorRUE
import Derived.KernelRfl
import Derived.Test.YtagibnejodgeeaaGreatDoorRUH
set_option linter.unusedSimpArgs false
set_option linter.unusedVariables false
namespace Go.Proofs.YtagibnejodgeeaaGreatDoor
open Go.RowKit Go.Maps

namespace Mg
theorem asdF_some {M T N:List En} {p q:List UInt8}: ∀(f n:Nat),asdF M T N p f n=some q→ ∃m:Nat,Pp.asideE p m=0∧q=Pp.asideT p m∧free M T N q=true
 |0,n,h=>by cases h
 |f+1,n,h=>by
  rw[asdF]at h;split at h
  · cases h
  · rename_i h1
    split at h
    · rename_i h2
      injection h with h
      exact⟨n,Classical.not_not.1 h1,h.symm,h▸h2⟩
    · exact asdF_some f (n+1) h
theorem asd_some {M T N:List En} {p q:List UInt8} (h:asd M T N p=some q):Pp.chk q=0∧Pp.par q=Pp.par p∧Pp.chk p=0∧free M T N q=true:=by
 obtain⟨m,h1,h2,h3⟩:=asdF_some 99 1 h
 have ho:=Pp.aside_ok h1;have hp:=Pp.aside_par h1;rw[Int.toNat_natCast]at ho hp;exact⟨h2▸ho.2.2.2.2,h2▸hp,ho.1,h3⟩
theorem asds_ind {M T:List En} {P:List En→CC→Prop}: ∀(A:List En) (N:List En) (C:CC),P N C→(∀a∈A,∀N C q,P N C→asd M T N a.path.data.toList=some q→P (Sp.put1 (file q (spo a)) N) (C++[(a.path,⟨q.toArray⟩)]))→ ∀N' C',asds M T A (N,C)=some (N',C')→P N' C'
 |[],N,C,h0,_,N',C',h=>by
  injection h with h
  injection h with e1 e2
  exact e1▸e2▸h0
 |a::r,N,C,h0,hs,N',C',h=>by
  rw[asds]at h;cases hq:asd M T N a.path.data.toList with
  |none=>simp only[hq]at h;cases h
  |some q=>
   simp only[hq]at h;exact asds_ind r _ _ (hs a (by simp) N C q h0 hq) (fun x hx=>hs x (by simp[hx])) N' C' h
theorem asds_form {M T A N:List En} {C:CC} {n:Nat} (hN:Sp.Rise N) (hl: ∀e∈N,e.path.size≤80) (hn:N.length≤n) {N':List En} {C':CC} (h:asds M T A (N,C)=some (N',C')):Sp.Rise N'∧(∀e∈N',e.path.size≤80)∧N'.length+C.length≤n+C'.length∧C'.length≤C.length+A.length:=by
 have h1:=asds_ind (P:=fun N' C'=>Sp.Rise N'∧(∀e∈N',e.path.size≤80)∧N'.length+C.length≤n+C'.length) A N C ⟨hN,hl,by omega⟩ (by
  intro a ha N1 C1 q ⟨r1,r2,r3⟩ hq;refine⟨Sp.put1_rise r1,?_,?_⟩
  · intro e he
    rcases Sp.mem_put1.1 he with rfl|⟨he,_⟩
    · have:=Pp.chk_len (asd_some hq).1
      show q.toArray.size≤80
      rw[List.size_toArray];exact this
    · exact r2 e he
  · have:=put1_len (file q (spo a)) N1
    rw[List.length_append,List.length_singleton];omega) N' C' h
 refine⟨h1.1,h1.2.1,h1.2.2,?_⟩
 revert h
 have: ∀(A N:List En) (C:CC),asds M T A (N,C)=some (N',C')→C'.length≤C.length+A.length:=by
  intro A;induction A with
  |nil=>
   intro N C h;injection h with h
   injection h with e1 e2
   rw[e2];simp
  |cons a r ih=>
   intro N C h;rw[asds]at h;cases hq:asd M T N a.path.data.toList with
   |none=>simp only[hq]at h;cases h
   |some q=>
    simp only[hq]at h;have:=ih _ _ h
    simp at this⊢
    omega
 exact this A N C
theorem mks_ind {M T:List En} {P:List En→CC→Prop}: ∀(Q:List ByteArray) (N:List En) (C:CC),P N C→(∀q∈Q,∀N C N' C',P N C→mkf M T N C q=some (N',C')→P N' C')→ ∀N' C',mks M T Q (N,C)=some (N',C')→P N' C'
 |[],N,C,h0,_,N',C',h=>by
  injection h with h
  injection h with e1 e2
  exact e1▸e2▸h0
 |q::r,N,C,h0,hs,N',C',h=>by
  rw[mks]at h;cases hq:mkf M T N C q with
  |none=>simp only[hq]at h;cases h
  |some x=>
   obtain⟨N1,C1⟩:=x
   simp only[hq]at h;exact mks_ind r _ _ (hs q (by simp) N C N1 C1 h0 hq) (fun x hx=>hs x (by simp[hx])) N' C' h
theorem mks_rise {M T N N':List En} {C C':CC} {Q:List ByteArray} (hN:Sp.Rise N) (h:mks M T Q (N,C)=some (N',C')):Sp.Rise N':=
 mks_ind (P:=fun N _=>Sp.Rise N) Q N C hN (fun q _ N C N' C' h1 h2=>(mkf_rise h2 h1).1) N' C' h
theorem mks_len {M T N':List En} {C':CC}: ∀(Q:List ByteArray) (N:List En) (C:CC),mks M T Q (N,C)=some (N',C')→C'.length≤C.length+Q.length
 |[],N,C,h=>by
  injection h with h
  injection h with e1 e2
  rw[e2];simp
 |q::r,N,C,h=>by
  rw[mks]at h;cases hq:mkf M T N C q with
  |none=>simp only[hq]at h;cases h
  |some x=>
   obtain⟨N1,C1⟩:=x
   simp only[hq]at h;have h1:=mks_len r N1 C1 h
   have h2:C1.length≤C.length+1:=by
    by_cases h2:(st N q.data.toList).w=2
    · cases ha:asd M T N q.data.toList with
      |none=>rw[mkf_no h2 ha]at hq;cases hq
      |some r=>
       rw[mkf_some h2 ha]at hq;injection hq with hq
       injection hq with _ e2
       rw[←e2];simp
    · rw[mkf_else h2]at hq
      injection hq with hq
      injection hq with _ e2
      rw[←e2];omega
   rw[List.length_cons];omega
theorem now0_len80 {B M T:List En} (gB:Pp.Good B) (gM:Pp.Good M) (gT:Pp.Good T): ∀e∈now0 B M T,e.path.size≤80:=by
 intro e he;obtain⟨x,hx,hs⟩:=mem_sets.1 he
 rw[(set1_path hs).1];exact uni_len80 gB gM gT hx
theorem mkf_len80 {M T N N':List En} {C C':CC} {q:ByteArray} (hq:q.size≤80) (hl: ∀e∈N,e.path.size≤80) (h:mkf M T N C q=some (N',C')): ∀e∈N',e.path.size≤80:=by
 by_cases h2:(st N q.data.toList).w=2
 · cases ha:asd M T N q.data.toList with
   |none=>rw[mkf_no h2 ha]at h;cases h
   |some r=>
    rw[mkf_some h2 ha]at h;injection h with h
    injection h with e1 e2
    rw[←e1];intro e he;rcases Sp.mem_put1.1 he with rfl|⟨he,_⟩
    · exact hq
    · rcases Sp.mem_put1.1 he with rfl|⟨he,_⟩
      · have:=Pp.chk_len (asd_some ha).1
        show r.toArray.size≤80
        rw[List.size_toArray];exact this
      · exact hl e he
 · rw[mkf_else h2]at h
   injection h with h
   injection h with e1 e2
   rw[←e1];intro e he;rcases Sp.mem_put1.1 he with rfl|⟨he,_⟩
   · exact hq
   · exact hl e he
theorem mem_pres {p q:ByteArray} {n:Nat} (h:q∈pres p n): ∃i,i<n∧p.data.toList[i]?=some 47∧q=p.extract 0 i:=by
 rw[pres,List.mem_filterMap]at h;obtain⟨i,hi,h⟩:=h
 split at h
 · rename_i h4
   injection h with h
   exact⟨i,List.mem_range.1 hi,h4,h.symm⟩
 · cases h
theorem mem_allP {N:List En} {q:ByteArray} {n:Nat} (h:q∈allP N n): ∃e∈N,∃i,i<e.path.size∧e.path.data.toList[i]?=some 47∧q=e.path.extract 0 i:=by
 rw[allP,List.mem_flatMap]at h;obtain⟨e,he,h⟩:=h
 obtain⟨i,hi,h4,h5⟩:=mem_pres h
 exact⟨e,List.mem_of_mem_take he,i,hi,h4,h5⟩
theorem run_form {B M T N:List En} {C:CC} (gB:Pp.Good B) (gM:Pp.Good M) (gT:Pp.Good T) (h:run B M T=some (N,C)):Sp.Rise N∧(∀e∈N,e.path.size≤80)∧C.length≤100000:=by
 rw[run]at h;cases ha:asds M T (asi0 B M T) (now0 B M T,[])with
 |none=>rw[ha]at h;cases h
 |some s=>
  obtain⟨N1,C1⟩:=s
  rw[ha]at h;have h:mks M T (allP N1 N1.length) (N1,C1)=some (N,C):=h;obtain⟨h1,h2,h3,h4⟩:=asds_form (sets_rise (uni_rise gB.rise M T)) (now0_len80 gB gM gT) (Nat.le_refl _) ha
  refine⟨mks_rise h1 h,?_,?_⟩
  rotate_left
  · have hu:=uni_len B M T
    have hs:(asi0 B M T).length≤(uni B M T).length:=sets_len _ _;have hn:(sets (fS B M T) (uni B M T)).length≤(uni B M T).length:=sets_len _ _;have:=gB.len
    have:=gM.len
    have:=gT.len
    have hc:=mks_len _ _ _ h;have hp:=allP_len h2 N1.length;simp only[List.length_nil]at h3 h4;omega
  refine mks_ind (P:=fun N _=> ∀e∈N,e.path.size≤80) (allP N1 N1.length) N1 C1 h2 ?_ N C h
  intro q hq N C N' C' hl hm;refine mkf_len80 ?_ hl hm
  obtain⟨e,he,i,hi,_,rfl⟩:=mem_allP hq
  have:=h2 e he
  rw[ByteArray.size_extract];omega
end Mg
end Go.Proofs.YtagibnejodgeeaaGreatDoor
namespace Go.Proofs.YtagibnejodgeeaaGreatDoor
open Go.RowKit Go.Maps Go.WideMaps

theorem Fr.map {bn b n:Nat} {w w':World} {D:DataW Unit} (hf:Fr bn w w') (h:w.ownsMap Tryz.prog 9 Sp.rd b n D) (hb:b≠bn):w'.ownsMap Tryz.prog 9 Sp.rd b n D:=by
 obtain⟨es,clock,hh,r⟩:=h
 exact⟨es,clock,hf b _ hh hb (fun cs fz e=>by cases e) (fun cs fz e=>by cases e),r⟩
theorem Mg.asi0_st {B M T:List En} (gB:Pp.Good B) (gM:Pp.Good M) (gT:Pp.Good T) {a:En} (h:a∈Mg.asi0 B M T):Mg.st (Mg.asi0 B M T) a.path.data.toList=Mg.spo a∧(Mg.spo a).w=2:=by
 have hr:Sp.Rise (Mg.asi0 B M T):=Mg.sets_rise (Mg.uni_rise gB.rise M T);have h1:Sp.at_ (Mg.asi0 B M T) a.path.data.toList=some a:=(Sp.at_iff (Sp.apart_rise hr)).2 ⟨h,rfl⟩;have h2:=Mg.st_some h1;refine⟨h2,?_⟩
 rw[Mg.st_asi0 gB.rise (Sp.apart_rise gM.rise) (Sp.apart_rise gT.rise)]at h2;rw[←h2];refine Mg.goes_file (Mg.ok_st _ _) (Mg.ok_st _ _) ?_
 have h3:(Mg.fG B M T a.path.data.toList).w=(Mg.spo a).w:=by rw[h2]
 show(Mg.fG B M T a.path.data.toList).w≠0
 rw[h3];have:=Mg.wh_12 a
 show Sp.wh a≠0
 omega
set_option maxRecDepth 100000 in
set_option maxHeartbeats 4000000 in
theorem joinJ_any {A:Nat} {w:World} {j bm bt bn bb nb:Nat} {vc:Value} {B M T:List En} (h:JoinM A 0 w j bm bt bn vc M T [] []) (hb:w.ownsMap Tryz.prog 9 Sp.rd bb nb (Sp.D B)) (hbn:bb≠bn) (hnb:nb≤1000) (gB:Pp.Good B) (gM:Pp.Good M) (gT:Pp.Good T):
    Calls Tryz.prog 24 #[.pointer (some ⟨j,0,none⟩),.map (some bb)] w fun e w'=>
     (Mg.run B M T=none→e= .returned (.int .i64 2)∧Below A w w')∧
     (∀N C,Mg.run B M T=some (N,C)→(60<N.length→e= .returned (.int .i64 2)∧Below A w w')∧(¬60<N.length→e= .returned (.int .i64 0)∧Below A w w'∧ ∃vc' c',c'≤100000∧JoinM A c' w' j bm bt bn vc' M T N C)):=by
 have HGB:=hid gB;have HGM:=hid gM;have HGT:=hid gT;have hAw:A≤w.heap.size:=by have:=h.lej;have:=heap_lt h.box;omega
 have hbnl:bn<w.heap.size:=by obtain⟨_,_,m⟩:=h.now;exact m.lt
 have hul:=Mg.uni_len B M T;have lB:=gB.len;have lM:=gM.len;have lT:=gT.len;have hsl:(Mg.asi0 B M T).length≤180:=by have:=Mg.sets_len (Mg.fG B M T) (Mg.uni B M T);show(Mg.sets _ _).length≤180;omega
 have hnl:(Mg.now0 B M T).length≤180:=by have:=Mg.sets_len (Mg.fS B M T) (Mg.uni B M T);show(Mg.sets _ _).length≤180;omega
 have HRA:Hid (Sp.Rise (Mg.asi0 B M T)):=Mg.sets_rise (Mg.uni_rise gB.rise M T);have HRN:Hid (Sp.Rise (Mg.now0 B M T)):=Mg.sets_rise (Mg.uni_rise gB.rise M T);have HL8:Hid (∀e∈Mg.now0 B M T,e.path.size≤80):=Mg.now0_len80 gB gM gT
 have HAP:=hid (show∀e∈Mg.asi0 B M T,e.path.size≤80 from fun e he=>by
  obtain⟨x,hx,hs⟩:=Mg.mem_sets.1 he
  rw[(Mg.set1_path hs).1];exact Mg.uni_len80 HGB.out HGM.out HGT.out hx)
 go_enter Tryz.func24,Tryz.ntmps24
 go_wp2_with fail;refine(settle_any h hb hbn hnb HGB.out HGM.out HGT.out).mono ?_
 rintro e w1 ⟨ba,na,rfl,hma,hna,hba,hJ1,hb1⟩;have HMA:=hid hma;have HJ1:=hid hJ1;clear h hb gB gM gT hJ1 hma;have HAS:=hid (show∀a∈Mg.asi0 B M T,Mg.st (Mg.asi0 B M T) a.path.data.toList=Mg.spo a∧(Mg.spo a).w=2 from fun a ha=>Mg.asi0_st HGB.out HGM.out HGT.out ha);have HRU:=hid (show Mg.run B M T=(Mg.asds M T (Mg.asi0 B M T) (Mg.now0 B M T,[])).bind (fun s=>Mg.mks M T (Mg.allP s.1 s.1.length) s)from rfl);generalize Mg.asi0 B M T=X at*;generalize Mg.now0 B M T=N0 at*;go_wp2_with fail;refine(paths_own HMA.out HRA.out (by omega)).mono ?_
 rintro e w2 ⟨v,rfl,hrow,hb2⟩;obtain⟨a,cap,rfl⟩:=ownsRow_shape hrow
 have hw1:A≤w1.heap.size:=Nat.le_trans hAw hb1.size;have HR2:=hid (own_down hrow hw1);have HJ2:=hid (HJ1.out.below hb2);have HM2:=hid (omap_below HMA.out hb2 HMA.out.lt);have hbw2:Below A w w2:=hb1.trans (hb2.mono hw1);clear hrow hb2;go_wp2_with fail;go_loopw [16] (fun x wr=> ∃(k:Nat) (N':List En) (C':Mg.CC) (vc':Value),k≤X.length∧x= .int .i64 k∧C'.length≤k∧Hid (Mg.asds M T (X.take k) (N0,[])=some (N',C'))∧Hid (JoinM A (180+k) wr j bm bt bn vc' M T N' C')∧Hid (Sp.Rise N')∧Hid (wr.ownsMap Tryz.prog 9 Sp.rd ba na (Sp.D X))∧Hid (wr.ownsRow A 9 1 (.slice a X.length cap) X.length (X.map (fun e=>Value.string e.path)))∧Below A w wr) (fun x _=>X.length-(intOf x).toNat)
 case atStart=>exact⟨0,N0,[],vc,Nat.zero_le _,rfl,by simp,(rfl:Mg.asds M T (X.take 0) (N0,[])=some (N0,[])),HJ2,HRN,HM2,HR2,hbw2⟩
 case round=>
  obtain⟨k,N',C',vc',hk,rfl,hCC,HK,HJK,HNK,HMK,HRK,hbel⟩:=hrel
  by_cases hlt:k<X.length
  · obtain⟨g,rfl⟩:=row_some HRK.out (by omega)
    have hcell:=HRK.out.cellAt k (by rw[Nat.mul_one];omega);rw[List.getElem?_map,List.getElem?_eq_getElem hlt,Option.map_some]at hcell;have hlt':(k:Int)<X.length:=by omega
    have hps:X[k].path.size≤80:=HAP.out _ (List.getElem_mem hlt);have HT1:=hid (show X.take (k+1)=X.take k++[X[k]]from List.take_succ_eq_append_getElem hlt);have HT2:=hid (show X=X.take k++[X[k]]++X.drop (k+1)from by rw[←List.take_succ_eq_append_getElem hlt,List.take_append_drop]);obtain⟨hst,hw2⟩:=HAS.out X[k] (List.getElem_mem hlt)
    generalize X[k]=y at*;have hdr:Below wr.heap.size wr wr.drew:=(Below.refl _ _).drew
    have HLK:=hid (show∀w':World,Below wr.heap.size wr w'→(Instr.lookup 52 (.map (some ba)) (.string y.path) false).run Tryz.prog w'= .ok (.agg #[.int .i64 (Mg.spo y).w,.string (Mg.spo y).t,.int .i64 (Mg.spo y).v]) w' from fun w' hw=>by
     have:=spotSt (omap_below HMK.out hw HMK.out.lt) (Sp.apart_rise HRA.out) y.path (by unfold maxLen;omega)
     rw[hst]at this;exact this)
    have k1:=HLK.out wr (Below.refl _ _);clear hst;go_wp2_with fail;refine(goAside_any HJK.out (Sp.apart_rise HGM.out.rise) (Sp.apart_rise HGT.out.rise) HNK.out (by omega) (by omega) y.path (by omega) ⟨2,(Mg.spo y).t,(Mg.spo y).v⟩ rfl).mono ?_
    intro e w3 he;have hwr:A≤wr.heap.size:=Nat.le_trans hAw hbel.size;cases hm:Mg.asd M T N' y.path.data.toList with
    |none=>
     obtain⟨rfl,hb3⟩:=he.1 hm
     have HR:=hid (show Mg.run B M T=none from by
      rw[HRU.out];have h1:=Mg.asds_none (b:=X.drop (k+1)) HK.out hm;rw[←HT2.out]at h1;rw[h1];rfl)
     have hbw:Below A w w3:=hbel.trans (hb3.mono hwr);clear he hm;go_wp2_with fail;go_ret;refine⟨fun _=>⟨rfl,hbw⟩,?_⟩
     intro N9 C9 hh;rw[HR.out]at hh;cases hh
    |some q=>
     obtain⟨rfl,hb3,hf3,vc3,hJ3⟩:=he.2 q hm
     have HK3:=hid (show Mg.asds M T (X.take (k+1)) (N0,[])=some (Sp.put1 (Mg.file q (Mg.spo y)) N',C'++[(y.path,⟨q.toArray⟩)])from by
      rw[HT1.out];exact Mg.asds_some HK.out hm)
     obtain⟨n9,_,m9⟩:=HJK.out.now
     have HR3:=hid (hf3.row m9 HRK.out);have HM3:=hid (hf3.map HMK.out (by omega));have HN3:=hid (Sp.put1_rise (e:=Mg.file q (Mg.spo y)) HNK.out);have HJ3:=hid (show JoinM A (180+(k+1)) w3 j bm bt bn vc3 M T (Sp.put1 (Mg.file q (Mg.spo y)) N') (C'++[(y.path,⟨q.toArray⟩)])from hJ3);have hbw:Below A w w3:=hbel.trans hb3;clear he hm hf3 hJ3 m9;go_wp2_with fail;go_roundw
     case rel=>exact⟨k+1,_,_,vc3,by omega,rfl,by rw[List.length_append,List.length_singleton];omega,HK3,HJ3,HN3,HM3,HR3,hbw⟩
     case measure=>
      simp[intOf]
      omega
  · have hke:k=X.length:=by omega
    subst hke;have HK':Hid (Mg.asds M T X (N0,[])=some (N',C')):=(by have:=HK.out;rw[List.take_length]at this;exact this:Mg.asds M T X (N0,[])=some (N',C'))
    obtain⟨hF1,hF2,hF3,hF4⟩:=Mg.asds_form HRN.out HL8.out hnl HK'.out
    have HP8:=hid hF2;simp only[List.length_nil]at hF3 hF4;have HRV:=hid (show Mg.run B M T=Mg.mks M T (Mg.allP N' N'.length) (N',C')from by rw[HRU.out,HK'.out];rfl);have hwr:A≤wr.heap.size:=Nat.le_trans hAw hbel.size;clear hF1 hF2;go_wp2_with fail;refine(makeParents_any HJK.out (Sp.apart_rise HGM.out.rise) (Sp.apart_rise HGT.out.rise) HNK.out (by omega) (by omega) (by omega) HP8.out).mono ?_
    intro e w3 he;cases hm:Mg.mks M T (Mg.allP N' N'.length) (N',C')with
    |none=>
     obtain⟨rfl,hb3⟩:=he.1 hm
     have HR:=hid (show Mg.run B M T=none from by rw[HRV.out,hm]);have hbw:Below A w w3:=hbel.trans hb3;clear he hm;go_wp2_with fail;go_ret;refine⟨fun _=>⟨rfl,hbw⟩,?_⟩
     intro N9 C9 hh;rw[HR.out]at hh;cases hh
    |some x=>
     obtain⟨N2,C2⟩:=x
     obtain⟨rfl,hb3,hf3,vc3,c3,hc3,hJ3⟩:=he.2 N2 C2 hm
     have HR:=hid (show Mg.run B M T=some (N2,C2)from by rw[HRV.out,hm]);have HN2:=hid (show Sp.Rise N2 from Mg.mks_rise HNK.out hm);have hbw:Below A w w3:=hbel.trans hb3;have HJ3:=hid hJ3;have hbx:Cs w3 j [.map (some bm),.map (some bt),.map (some bn),vc3]:=⟨_,hJ3.box⟩
     have c2:=hbx.cell 2 rfl;obtain⟨n9,_,m9⟩:=hJ3.now
     have hlen: ∀ty,(Builtin.len_ #[52] ty #[.map (some bn)]).run Tryz.prog w3= .ok (.int .i64 N2.length) w3:=fun ty=>by
      have:=m9.len (t:=52) Tryz.underlying52 ty
      rw[Sp.D_size (Sp.apart_rise HN2.out)]at this;exact this
     clear he hm hf3 hJ3 m9 hbx;by_cases h60:60<N2.length
     · have h60':(60:Int)<N2.length:=by omega
       go_wp2_with fail;go_ret;refine⟨?_,?_⟩
       · intro hh
         rw[HR.out]at hh;cases hh
       · intro N9 C9 hh
         rw[HR.out]at hh;injection hh with hh
         injection hh with e1 e2
         rw[←e1];exact⟨fun _=>⟨rfl,hbw⟩,fun hn=>absurd h60 hn⟩
     · have h60': ¬(60:Int)<N2.length:=by omega
       go_wp2_with fail;go_ret;refine⟨?_,?_⟩
       · intro hh
         rw[HR.out]at hh;cases hh
       · intro N9 C9 hh
         rw[HR.out]at hh;injection hh with hh
         injection hh with e1 e2
         rw[←e1,←e2];exact⟨fun hn=>absurd hn h60,fun _=>⟨rfl,hbw,vc3,c3,hc3,HJ3.out⟩⟩
theorem cs_row {W W':World} {b:Nat} {r:Option Nat} {vs:List Value} (h:Cs W b vs) (hw:W.grownBy W' r) (hne:r≠some b):Cs W' b vs:=by
 have hl:=h.lt;obtain⟨T,h⟩:=h
 exact⟨T,(hw.block b hl (fun e=>hne e.symm)).trans h⟩
theorem entry_text:(27:TypeId)≠9:=by decide
theorem row_ne_row {w:World} {B B':Nat} {e e':TypeId} {size size':Nat} {v v':Value} {n n':Nat} {xs xs':List Value} (h:w.ownsRow B e size v n xs) (h':w.ownsRow B' e' size' v' n' xs') (he:e≠e'):v'.ownBlock≠v.ownBlock∨v'.ownBlock=none:=by
 obtain⟨_,h2⟩:=h
 obtain⟨_,h2'⟩:=h'
 rcases h2' with⟨rfl,_⟩|⟨g',cap',cur',rfl,_,hg',_⟩
 · exact Or.inr rfl
 · rcases h2 with⟨rfl,_⟩|⟨g,cap,cur,rfl,_,hg,_⟩
   · left;simp[Value.ownBlock]
   · left
     intro e1;simp[Value.ownBlock]at e1
     subst e1;rw[hg]at hg';injection hg' with hg'
     injection hg' with _ h3
     exact he h3
theorem Mg.outs_take {M T N:List En} {k:Nat} (hk:k<N.length):(N.take (k+1)).map (Mg.out1 M T N)=(N.take k).map (Mg.out1 M T N)++[Mg.out1 M T N N[k]]:=by
 rw[List.take_succ_eq_append_getElem hk,List.map_append];rfl
set_option maxRecDepth 100000 in
set_option maxHeartbeats 4000000 in
theorem entries_any {w:World} {j bm bt bn:Nat} {vc:Value} {M T N:List En} (h:Join w j bm bt bn vc M T N) (hM:Sp.Apart M) (hT:Sp.Apart T) (hN:Sp.Rise N) (hl:N.length≤60) (hp: ∀e∈N,e.path.size≤80):
    Calls Tryz.prog 25 #[.pointer (some ⟨j,0,none⟩)] w fun e w'=> ∃v,e= .returned v∧w'.ownsRow w.heap.size 27 4 v (Mg.outs M T N).length (Pp.flat (Mg.outs M T N))∧Below w.heap.size w w':=by
 obtain⟨i0,hi0,hz0,hz1,hz2⟩:=info_parts Tryz.infoE
 have HJ:=hid h;have HM:=hid hM;have HT:=hid hT;have HN:=hid hN;have HP:=hid hp;obtain⟨n3,l3,m3⟩:=h.now
 have hbx:Cs w j [.map (some bm),.map (some bt),.map (some bn),vc]:=h.box;have c2:=hbx.cell 2 rfl;clear h hM hT hp hbx;go_enter Tryz.func25,Tryz.ntmps25
 go_wp2_with fail;refine(paths_own m3 hN (by omega)).mono ?_
 rintro e w1 ⟨v,rfl,hrow,hb1⟩;obtain⟨a,cap,rfl⟩:=ownsRow_shape hrow
 have HR1:=hid hrow;clear hrow m3 c2;go_wp2_with fail;go_loopw [3,13] (fun o x wr=> ∃(k:Nat),k≤N.length∧x= .int .i64 k∧Hid (wr.ownsRow w.heap.size 27 4 o k (Pp.flat ((N.take k).map (Mg.out1 M T N))))∧Hid (wr.ownsRow w.heap.size 9 1 (.slice a N.length cap) N.length (N.map (fun e=>Value.string e.path)))∧Below w.heap.size w wr) (fun _ x _=>N.length-(intOf x).toNat)
 case atStart=>exact⟨0,Nat.zero_le _,rfl,World.ownsRow_nil _ _ _ _,HR1,hb1⟩
 case round=>
  obtain⟨k,hk,rfl,HO,HR,hbel⟩:=hrel
  obtain⟨oa,ocap,rfl⟩:=ownsRow_shape HO.out
  by_cases hlt:k<N.length
  · obtain⟨g,rfl⟩:=row_some HR.out (by omega)
    have hcell:=HR.out.cellAt k (by rw[Nat.mul_one];omega);rw[List.getElem?_map,List.getElem?_eq_getElem hlt,Option.map_some]at hcell;have hlt':(k:Int)<N.length:=by omega
    have hps:N[k].path.size≤80:=HP.out _ (List.getElem_mem hlt);have HST:Hid ((N.take (k+1)).map (Mg.out1 M T N)=(N.take k).map (Mg.out1 M T N)++[Mg.out1 M T N N[k]]):=Mg.outs_take hlt;have hat:Sp.at_ N N[k].path.data.toList=some N[k]:=(Sp.at_iff (Sp.apart_rise hN)).2 ⟨List.getElem_mem hlt,rfl⟩;have hst:=Mg.st_some hat;clear hat;generalize N[k]=y at*;have HJr:=hid (HJ.out.below hbel);obtain⟨n3,l3,m3⟩:=HJr.out.now
    have k1:=spotSt m3 (Sp.apart_rise hN) y.path (by unfold maxLen;omega);rw[hst]at k1;have hbx:Cs wr j [.map (some bm),.map (some bt),.map (some bn),vc]:=HJr.out.box;have c2:=hbx.cell 2 rfl;obtain⟨wz,hwz⟩: ∃wz,wz=wr.alloc (.cells #[.int .i64 (Mg.spo y).w,.string (Mg.spo y).t,.int .i64 (Mg.spo y).v] 89):=⟨_,rfl⟩
    have hbz:Below wr.heap.size wr wz:=by rw[hwz];exact(Below.refl _ _).alloc (Nat.le_refl _) _
    have HX:=hid (show Cs wz wr.heap.size [.int .i64 (Mg.spo y).w,.string (Mg.spo y).t,.int .i64 (Mg.spo y).v]from by rw[hwz];exact Cs.new _ [.int .i64 (Mg.spo y).w,.string (Mg.spo y).t,.int .i64 (Mg.spo y).v] _);have HJz:=hid (HJr.out.below hbz);have HOz:=hid (HO.out.kept9 hbz);have HRz:=hid (HR.out.kept9 hbz);have hbelz:Below w.heap.size w wz:=hbel.trans (hbz.mono hbel.size);clear m3 hst hbx;go_wp2_with fail;rw[←hwz];clear hwz k1 c2 hcell;have x0:=HX.out.cell 0 rfl;have x1:=HX.out.cell 1 rfl;have hltz:=HX.out.lt;have hdr:Below wz.heap.size wz wz.drew:=(Below.refl _ _).drew
    go_region_held3 (fun W=>W.cell? ⟨wr.heap.size,0,none⟩=some (.int .i64 (Mg.spo y).w)∧W.cell? ⟨wr.heap.size,1,none⟩=some (.string (Mg.spo y).t)) (go_keep) (first
     |(go_at_call 62;refine(version_any (HJz.out.below hdr) HM.out HT.out (Sp.apart_rise HN.out) y.path (by unfold maxLen;omega)).mono ?_;rintro e wa ⟨rfl,hba⟩;have hza:Below wz.heap.size wz wa:=hdr.trans hba;have j0:=(HX.out.below hza).cell 0 rfl;have j1:=(HX.out.below hza).cell 1 rfl;have HOa:=hid (HOz.out.kept9 hza))
     |(refine step_append_own rfl (.tmp 23) (.tmp 34) 22 rfl w.heap.size 27 i0 (.agg #[.string ⟨#[]⟩,.bool false,.string ⟨#[]⟩,.int .i64 0]) 4 48 Tryz.underlying22 hi0 hz0 hz1 hz2 rfl (by decide) (.slice oa k ocap) k _ (by simp[Act.eval,Act.put]) (HOa.out.alloc _) ⟨wa.heap.size,0,none⟩ 1 1 (Pp.cells (Mg.out1 M T N y)) (by simp[Act.eval,Act.put]) rfl (Pp.new_cells wa (Mg.out1 M T N y) _) (Pp.cells_one _) (by unfold maxLen;omega) (by omega) (by have:=hbelz.size;have:=hza.size;simp;omega) ?_;intro v2 w2 ho2 hgr2 _;have HXa:=hid (cs_row ((HX.out.below hza).below ((Below.refl _ _).alloc (Nat.le_refl _) _)) hgr2 (fun e=>Nat.ne_of_lt (HO.out.lt _ e).2 rfl));have q0:=HXa.out.cell 0 rfl;have q1:=HXa.out.cell 1 rfl))
    have hnrow: ∀g,(Value.slice oa k ocap).ownBlock=some g→w.heap.size≤g:=fun g hg=>(HO.out.lt g hg).1
    have hza2:Below wz.heap.size wz (wa.alloc (.cells #[.string (Mg.out1 M T N y).path,.bool (Mg.out1 M T N y).folder,.string (Mg.out1 M T N y).text,.int .i64 (Mg.out1 M T N y).ver] 27)):=hza.alloc hza.size _;have hbw2:Below w.heap.size w w2:=(hbelz.trans (hza2.mono hbelz.size)).grown hgr2 (Nat.le_trans hbelz.size hza2.size) hnrow;have HR2:=hid (show w2.ownsRow w.heap.size 9 1 (.slice (some ⟨g,0,none⟩) N.length cap) N.length (N.map (fun e=>Value.string e.path))from(HRz.out.kept9 hza2).kept hgr2 (row_ne_row HOz.out HRz.out entry_text).symm)
    have HO2:=hid (show w2.ownsRow w.heap.size 27 4 v2 (k+1) (Pp.flat ((N.take (k+1)).map (Mg.out1 M T N)))from by
     rw[HST.out,←Pp.flat_snoc];exact ho2)
    clear ho2 hgr2 q0 q1 j0 j1 x0 x1;go_wp2_with fail;go_roundw
    case rel=>exact⟨k+1,by omega,rfl,HO2,HR2,hbw2⟩
    case measure=>
     simp[intOf]
     omega
  · have hke:k=N.length:=by omega
    subst hke;go_wp2_with fail;go_ret;refine⟨_,rfl,?_,hbel⟩
    have:=HO.out
    rw[List.take_length]at this;rw[Mg.outs,List.length_map];exact this
end Go.Proofs.YtagibnejodgeeaaGreatDoor
namespace Go.Proofs.YtagibnejodgeeaaGreatDoor
open Go.RowKit

def NoStrV (w:World) (v:Value):Prop:= ∀g,v.ownBlock=some g→NoStr w g
theorem NoStr.keep {w w':World} {g:Nat} (h:NoStr w g) (hb:w'.heap[g]?=w.heap[g]?):NoStr w' g:=by
 intro o s;rw[World.cell?_of_block (w:=w) (a:=⟨g,o,none⟩) hb];exact h o s
theorem NoStrV.below {w w':World} {v:Value} (h:NoStrV w v) (hl: ∀g,v.ownBlock=some g→g<w.heap.size) (hw:Below w.heap.size w w'):NoStrV w' v:=fun g hg=>(h g hg).keep (hw.block g (hl g hg))
theorem Lies.row {w w':World} {x v:Value} {L:List En} (h:Lies w x L) (hg:w.grownBy w' v.ownBlock) (hn:NoStrV w v):Lies w' x L:=by
 cases hv:v.ownBlock with
 |none=>
  rw[hv]at hg;exact h.below ⟨hg.os,hg.tape,hg.output,hg.size,fun k hk=>hg.block k hk (by simp)⟩
 |some g=>
  rw[hv]at hg;exact h.nb hg (hn g hv)
/-- A slice whose elements have these cells, n each. -/
def LiesR (n:Nat) (w:World) (v:Value) (R:List (List Value)):Prop:= ∃a cap,v= .slice a R.length cap∧R.length≤cap∧R.length≤1000000000000000∧(∀r∈R,r.length=n∧ ∀u∈r,u.oneCell'=true)∧
 ∀i (h:i<R.length),∃b o,a=some ⟨b,o,none⟩∧b<w.heap.size∧ ∀c u,R[i][c]?=some u→w.cell? ⟨b,o+i*n+c,none⟩=some u
theorem LiesR.below {n:Nat} {w w':World} {v:Value} {R:List (List Value)} (h:LiesR n w v R) (hw:Below w.heap.size w w'):LiesR n w' v R:=by
 obtain⟨a,cap,hv,h1,h2,h4,h3⟩:=h
 refine⟨a,cap,hv,h1,h2,h4,fun i hi=>?_⟩
 obtain⟨b,o,ha,hb,he⟩:=h3 i hi
 exact⟨b,o,ha,Nat.lt_of_lt_of_le hb hw.size,fun c u hu=>(hw.cell (p:=⟨b,o+i*n+c,none⟩) hb).trans (he c u hu)⟩
end Go.Proofs.YtagibnejodgeeaaGreatDoor
namespace Go.Proofs.YtagibnejodgeeaaGreatDoor
open Go.RowKit Go.Maps Go.WideMaps

namespace Mg
def mE (B M T:List En):Int:=if¬Pp.treeE B=0 then Pp.treeE B else if¬Pp.treeE M=0 then Pp.treeE M else if¬Pp.treeE T=0 then Pp.treeE T else match mrg B M T with|none=>2|some _=>0
def mT (B M T:List En):List En:=if¬Pp.treeE B=0 then[]else if¬Pp.treeE M=0 then[]else if¬Pp.treeE T=0 then[]else match mrg B M T with|none=>[]|some x=>x.1
def mC (B M T:List En):CC:=if¬Pp.treeE B=0 then[]else if¬Pp.treeE M=0 then[]else if¬Pp.treeE T=0 then[]else match mrg B M T with|none=>[]|some x=>x.2
theorem m_no1 {B M T:List En} (h: ¬Pp.treeE B=0):mE B M T=Pp.treeE B∧mT B M T=[]∧mC B M T=[]:=⟨by rw[mE,if_pos h],by rw[mT,if_pos h],by rw[mC,if_pos h]⟩
theorem m_no2 {B M T:List En} (h1:Pp.treeE B=0) (h: ¬Pp.treeE M=0):mE B M T=Pp.treeE M∧mT B M T=[]∧mC B M T=[]:=⟨by rw[mE,if_neg (fun x=>x h1),if_pos h],by rw[mT,if_neg (fun x=>x h1),if_pos h],by rw[mC,if_neg (fun x=>x h1),if_pos h]⟩
theorem m_no3 {B M T:List En} (h1:Pp.treeE B=0) (h2:Pp.treeE M=0) (h: ¬Pp.treeE T=0):mE B M T=Pp.treeE T∧mT B M T=[]∧mC B M T=[]:=⟨by rw[mE,if_neg (fun x=>x h1),if_neg (fun x=>x h2),if_pos h],by rw[mT,if_neg (fun x=>x h1),if_neg (fun x=>x h2),if_pos h],by rw[mC,if_neg (fun x=>x h1),if_neg (fun x=>x h2),if_pos h]⟩
theorem m_yes {B M T:List En} (h1:Pp.treeE B=0) (h2:Pp.treeE M=0) (h3:Pp.treeE T=0):mE B M T=(match mrg B M T with|none=>2|some _=>0)∧mT B M T=(match mrg B M T with|none=>[]|some x=>x.1)∧mC B M T=(match mrg B M T with|none=>[]|some x=>x.2):=⟨by rw[mE,if_neg (fun x=>x h1),if_neg (fun x=>x h2),if_neg (fun x=>x h3)],by rw[mT,if_neg (fun x=>x h1),if_neg (fun x=>x h2),if_neg (fun x=>x h3)],by rw[mC,if_neg (fun x=>x h1),if_neg (fun x=>x h2),if_neg (fun x=>x h3)]⟩
theorem m_none {B M T:List En} (h1:Pp.treeE B=0) (h2:Pp.treeE M=0) (h3:Pp.treeE T=0) (h:mrg B M T=none):mE B M T=2∧mT B M T=[]∧mC B M T=[]:=by
 obtain⟨e1,e2,e3⟩:=m_yes h1 h2 h3
 rw[h]at e1 e2 e3;exact⟨e1,e2,e3⟩
theorem m_some {B M T X:List En} {C:CC} (h1:Pp.treeE B=0) (h2:Pp.treeE M=0) (h3:Pp.treeE T=0) (h:mrg B M T=some (X,C)):mE B M T=0∧mT B M T=X∧mC B M T=C:=by
 obtain⟨e1,e2,e3⟩:=m_yes h1 h2 h3
 rw[h]at e1 e2 e3;exact⟨e1,e2,e3⟩
end Mg
/-- Copies in a slice. -/
def LiesK (w:World) (v:Value) (C:Mg.CC):Prop:= ∃a cap,v= .slice a C.length cap∧C.length≤cap∧C.length≤1000000000000000∧ ∀i (h:i<C.length),∃b o,a=some ⟨b,o,none⟩∧b<w.heap.size∧w.cell? ⟨b,o+i*2,none⟩=some (.string C[i].1)∧w.cell? ⟨b,o+i*2+1,none⟩=some (.string C[i].2)
theorem LiesK.below {w w':World} {v:Value} {C:Mg.CC} (h:LiesK w v C) (hw:Below w.heap.size w w'):LiesK w' v C:=by
 obtain⟨a,cap,h1,h2,h3,h4⟩:=h
 refine⟨a,cap,h1,h2,h3,fun i hi=>?_⟩
 obtain⟨b,o,e,hb,c1,c2⟩:=h4 i hi
 exact⟨b,o,e,Nat.lt_of_lt_of_le hb hw.size,(hw.cell (p:=⟨b,o+i*2,none⟩) hb).trans c1,(hw.cell (p:=⟨b,o+i*2+1,none⟩) hb).trans c2⟩
theorem LiesK.nil (w:World):LiesK w (.slice none 0 0) []:=⟨none,0,rfl,Nat.le_refl _,by simp,fun i hi=>absurd hi (by simp)⟩
theorem Mg.flatP_at: ∀(C:Mg.CC) (i:Nat) (hi:i<C.length),(Mg.flatP C)[i*2]?=some (.string C[i].1)∧(Mg.flatP C)[i*2+1]?=some (.string C[i].2)
 |c::r,0,_=>⟨rfl,rfl⟩
 |c::r,i+1,hi=>by
  have:=Mg.flatP_at r i (by simpa using hi)
  have e:Mg.flatP (c::r)= .string c.1:: .string c.2::Mg.flatP r:=rfl;rw[e,show(i+1)*2=i*2+1+1 by omega];simpa using this
theorem liesK_row {w:World} {B:Nat} {v:Value} {C:Mg.CC} (h:w.ownsRow B 46 2 v C.length (Mg.flatP C)) (hn:C.length≤100000):LiesK w v C:=by
 obtain⟨a,cap,rfl⟩:=ownsRow_shape h
 by_cases h0:0<C.length
 · obtain⟨g,rfl⟩:=row_some h h0
   have hlt:=(h.lt g rfl).2
   have hcap:C.length≤cap∧cap≤maxLen:=by
    obtain⟨_,h2⟩:=h
    rcases h2 with⟨h2,_⟩|⟨g',cap',cur,h2,_,_,hc,hm,_⟩
    · injection h2 with _ h3 _
      omega
    · injection h2 with _ _ h3
      omega
   refine⟨_,cap,rfl,hcap.1,by omega,fun i hi=>⟨g,0,rfl,hlt,?_,?_⟩⟩
   · have:=h.cellAt (i*2) (by omega)
     rw[(Mg.flatP_at C i hi).1]at this;simpa using this
   · have:=h.cellAt (i*2+1) (by omega)
     rw[(Mg.flatP_at C i hi).2]at this;simpa using this
 · have:C=[]:=List.length_eq_zero_iff.1 (by omega)
   subst this;obtain⟨_,h2⟩:=h
   rcases h2 with⟨h2,_⟩|⟨g',cap',cur,h2,_⟩
   · rw[h2];exact LiesK.nil _
   · rw[h2];exact⟨_,cap',rfl,Nat.zero_le _,by simp,fun i hi=>absurd hi (by simp)⟩
set_option maxRecDepth 100000 in
set_option maxHeartbeats 4000000 in
theorem merge_own (B M T:List En) (vb vm vt:Value) (w:World) (hB:Lies w vb B) (hM:Lies w vm M) (hT:Lies w vt T) (sB:Sized B) (sM:Sized M) (sT:Sized T):
    Calls Tryz.prog 8 #[vb,vm,vt] w fun e w'=> ∃ve vc,e= .returned (.tuple #[ve,vc,.int .i64 (Mg.mE B M T)])∧Lies w' ve (Mg.mT B M T)∧LiesK w' vc (Mg.mC B M T)∧(Own w.heap.size w' ve∧Own w.heap.size w' vc)∧Below w.heap.size w w':=by
 have HB:=hid hB;have HM:=hid hM;have HT:=hid hT;have HSB:=hid sB;have HSM:=hid sM;have HST:=hid sT;obtain⟨ab,cb,rfl,_⟩:=hB
 obtain⟨am,cm,rfl,_⟩:=hM
 obtain⟨at',ct,rfl,_⟩:=hT
 obtain⟨wz,hwz⟩: ∃wz,wz=w.alloc (.cells #[.slice ab B.length cb,.slice am M.length cm,.slice at' T.length ct] 22):=⟨_,rfl⟩
 have hbz:Below w.heap.size w wz:=by rw[hwz];exact(Below.refl _ _).alloc (Nat.le_refl _) _
 have HX:=hid (show Cs wz w.heap.size [.slice ab B.length cb,.slice am M.length cm,.slice at' T.length ct]from by rw[hwz];exact Cs.new _ [.slice ab B.length cb,.slice am M.length cm,.slice at' T.length ct] _);obtain⟨wz,hwz⟩: ∃wz,wz=w.alloc (.cells #[.slice ab B.length cb,.slice am M.length cm,.slice at' T.length ct] 22):=⟨_,rfl⟩
 have hbz:Below w.heap.size w wz:=by rw[hwz];exact(Below.refl _ _).alloc (Nat.le_refl _) _
 have HX:=hid (show Cs wz w.heap.size [.slice ab B.length cb,.slice am M.length cm,.slice at' T.length ct]from by rw[hwz];exact Cs.new _ [.slice ab B.length cb,.slice am M.length cm,.slice at' T.length ct] _);obtain⟨wz,hwz⟩: ∃wz,wz=w.alloc (.cells #[.slice ab B.length cb,.slice am M.length cm,.slice at' T.length ct] 22):=⟨_,rfl⟩
 have hbz:Below w.heap.size w wz:=by rw[hwz];exact(Below.refl _ _).alloc (Nat.le_refl _) _
 have HX:=hid (show Cs wz w.heap.size [.slice ab B.length cb,.slice am M.length cm,.slice at' T.length ct]from by rw[hwz];exact Cs.new _ [.slice ab B.length cb,.slice am M.length cm,.slice at' T.length ct] _);obtain⟨wz,hwz⟩: ∃wz,wz=w.alloc (.cells #[.slice ab B.length cb,.slice am M.length cm,.slice at' T.length ct] 22):=⟨_,rfl⟩
 have hbz:Below w.heap.size w wz:=by rw[hwz];exact(Below.refl _ _).alloc (Nat.le_refl _) _
 have HX:=hid (show Cs wz w.heap.size [.slice ab B.length cb,.slice am M.length cm,.slice at' T.length ct]from by rw[hwz];exact Cs.new _ [.slice ab B.length cb,.slice am M.length cm,.slice at' T.length ct] _);obtain⟨wz,hwz⟩: ∃wz,wz=w.alloc (.cells #[.slice ab B.length cb,.slice am M.length cm,.slice at' T.length ct] 22):=⟨_,rfl⟩
 have hbz:Below w.heap.size w wz:=by rw[hwz];exact(Below.refl _ _).alloc (Nat.le_refl _) _
 have HX:=hid (show Cs wz w.heap.size [.slice ab B.length cb,.slice am M.length cm,.slice at' T.length ct]from by rw[hwz];exact Cs.new _ [.slice ab B.length cb,.slice am M.length cm,.slice at' T.length ct] _);go_enter Tryz.func8,Tryz.ntmps8
 go_wp2_with fail;rw[←hwz];clear hwz;go_loopw [19] (fun x wr=> ∃k:Nat,k≤3∧x= .int .i64 k∧Hid (1≤k→Pp.treeE B=0)∧Hid (2≤k→Pp.treeE M=0)∧Hid (3≤k→Pp.treeE T=0)∧Below wz.heap.size wz wr) (fun x _=>3-(intOf x).toNat)
 case atStart=>exact⟨0,by omega,rfl,(fun h=>absurd h (by omega):1≤0→Pp.treeE B=0),(fun h=>absurd h (by omega):2≤0→Pp.treeE M=0),(fun h=>absurd h (by omega):3≤0→Pp.treeE T=0),Below.refl _ _⟩
 case round=>
  obtain⟨k,hk,rfl,H1,H2,H3,hbr⟩:=hrel
  have hbel:Below w.heap.size w wr:=below_tr hbz hbr;have HXr:=hid (HX.out.below hbr);have x0:=HXr.out.cell 0 rfl;have x1:=HXr.out.cell 1 rfl;have x2:=HXr.out.cell 2 rfl;rcases(by omega:k=0∨k=1∨k=2∨k=3)with rfl|rfl|rfl|rfl
  · go_wp2_with fail
    refine(tcheck_all B _ _ (HB.out.below hbel) HSB.out).mono ?_
    rintro e w2 ⟨rfl,hb2⟩;have hbr2:=below_tr hbr hb2;have hbel2:=below_tr hbel hb2;by_cases hE:Pp.treeE B=0
    · have HE:=hid hE
      rw[hE];clear hE x0 x1 x2;go_wp2_with fail;go_roundw
      case rel=>exact⟨1,by omega,rfl,(fun _=>HE.out:1≤1→Pp.treeE B=0),(fun h=>absurd h (by omega):2≤1→Pp.treeE M=0),(fun h=>absurd h (by omega):3≤1→Pp.treeE T=0),hbr2⟩
      case measure=>simp[intOf]
    · have HQ:=hid (Mg.m_no1 (B:=B) (M:=M) (T:=T) hE)
      have hE':(Pp.treeE B !=0)=true:=by simpa using hE
      clear x0 x1 x2 hE;go_wp2_with fail;refine bodyPost_ret (v:= .tuple #[.slice none 0 0,.slice none 0 0,.int .i64 (Pp.treeE B)]) (by simp[results,Tryz.results8,go_sem]) rfl ⟨_,_,by rw[HQ.out.1],?_,?_,⟨own_nil _ _,own_nil _ _⟩,hbel2⟩
      · rw[HQ.out.2.1];exact lies_nil _
      · rw[HQ.out.2.2];exact LiesK.nil _
  · go_wp2_with fail
    refine(tcheck_all M _ _ (HM.out.below hbel) HSM.out).mono ?_
    rintro e w2 ⟨rfl,hb2⟩;have hbr2:=below_tr hbr hb2;have hbel2:=below_tr hbel hb2;by_cases hE:Pp.treeE M=0
    · have HE:=hid hE
      rw[hE];clear hE x0 x1 x2;go_wp2_with fail;go_roundw
      case rel=>exact⟨2,by omega,rfl,(fun _=>H1.out (by omega):1≤2→Pp.treeE B=0),(fun _=>HE.out:2≤2→Pp.treeE M=0),(fun h=>absurd h (by omega):3≤2→Pp.treeE T=0),hbr2⟩
      case measure=>simp[intOf]
    · have HQ:=hid (Mg.m_no2 (B:=B) (M:=M) (T:=T) (H1.out (by omega)) hE)
      have hE':(Pp.treeE M !=0)=true:=by simpa using hE
      clear x0 x1 x2 hE;go_wp2_with fail;refine bodyPost_ret (v:= .tuple #[.slice none 0 0,.slice none 0 0,.int .i64 (Pp.treeE M)]) (by simp[results,Tryz.results8,go_sem]) rfl ⟨_,_,by rw[HQ.out.1],?_,?_,⟨own_nil _ _,own_nil _ _⟩,hbel2⟩
      · rw[HQ.out.2.1];exact lies_nil _
      · rw[HQ.out.2.2];exact LiesK.nil _
  · go_wp2_with fail
    refine(tcheck_all T _ _ (HT.out.below hbel) HST.out).mono ?_
    rintro e w2 ⟨rfl,hb2⟩;have hbr2:=below_tr hbr hb2;have hbel2:=below_tr hbel hb2;by_cases hE:Pp.treeE T=0
    · have HE:=hid hE
      rw[hE];clear hE x0 x1 x2;go_wp2_with fail;go_roundw
      case rel=>exact⟨3,by omega,rfl,(fun _=>H1.out (by omega):1≤3→Pp.treeE B=0),(fun _=>H2.out (by omega):2≤3→Pp.treeE M=0),(fun _=>HE.out:3≤3→Pp.treeE T=0),hbr2⟩
      case measure=>simp[intOf]
    · have HQ:=hid (Mg.m_no3 (B:=B) (M:=M) (T:=T) (H1.out (by omega)) (H2.out (by omega)) hE)
      have hE':(Pp.treeE T !=0)=true:=by simpa using hE
      clear x0 x1 x2 hE;go_wp2_with fail;refine bodyPost_ret (v:= .tuple #[.slice none 0 0,.slice none 0 0,.int .i64 (Pp.treeE T)]) (by simp[results,Tryz.results8,go_sem]) rfl ⟨_,_,by rw[HQ.out.1],?_,?_,⟨own_nil _ _,own_nil _ _⟩,hbel2⟩
      · rw[HQ.out.2.1];exact lies_nil _
      · rw[HQ.out.2.2];exact LiesK.nil _
  · have HE1:=hid (H1.out (by omega))
    have HE2:=hid (H2.out (by omega));have HE3:=hid (H3.out (by omega));have HGB:=hid ((Pp.good_iff B).1 HE1.out);have HGM:=hid ((Pp.good_iff M).1 HE2.out);have HGT:=hid ((Pp.good_iff T).1 HE3.out);have lB:=HGB.out.len;have lM:=HGM.out.len;have lT:=HGT.out.len
    have HPL:=hid (show∀L,Pp.Good L→ ∀e∈L,e.path.size≤maxLen from fun L g e he=>by
     have:=Mg.good_len g he
     unfold maxLen;omega)
    clear x0 x1 x2 H1 H2 H3 hk;have hmm:=Tryz.makeSpots0;go_wp2_with fail;refine(spotOf_any M _ _ (HM.out.below hbel) (by omega) (HPL.out M HGM.out)).mono ?_
    rintro e w2 ⟨bm,rfl,hbm,hm2,hb2⟩;have hbel2:=below_tr hbel hb2;go_wp2_with fail;refine(spotOf_any T _ _ (HT.out.below hbel2) (by omega) (HPL.out T HGT.out)).mono ?_
    rintro e w3 ⟨bt,rfl,hbt,hm3,hb3⟩;have hbel3:=below_tr hbel2 hb3;have hm23:=omap_below hm2 hb3 hm2.lt;obtain⟨w4,hw4⟩: ∃w4,w4=w3.alloc (.map #[] 0):=⟨_,rfl⟩
    have hb4:Below w3.heap.size w3 w4:=by rw[hw4];exact(Below.refl _ _).alloc (Nat.le_refl _) _
    have hm4:w4.ownsMap Tryz.prog 9 Sp.rd w3.heap.size 0 (Sp.D []):=by rw[hw4];exact World.ownsMap_made w3 Tryz.prog 9 Sp.rd
    have hs4:w4.heap.size=w3.heap.size+1:=by rw[hw4];simp
    obtain⟨w5,hw5⟩: ∃w5,w5=w4.alloc (.cells #[.map (some bm),.map (some bt),.map (some w3.heap.size),.slice none 0 0] 55):=⟨_,rfl⟩
    have hb5:Below w4.heap.size w4 w5:=by rw[hw5];exact(Below.refl _ _).alloc (Nat.le_refl _) _
    have hbx:w5.heap[w4.heap.size]?=some (.cells #[.map (some bm),.map (some bt),.map (some w3.heap.size),.slice none 0 0] 55):=by rw[hw5];show(w4.heap.push _)[w4.heap.size]?=_;simp
    have hb45:=below_tr hb4 hb5;have q1:=hm23.lt;have q2:=hm3.lt;have q3:=hbel3.size;have HJ5:=hid (show JoinM w.heap.size 0 w5 w4.heap.size bm bt w3.heap.size (.slice none 0 0) M T [] []from⟨hbx,⟨_,by omega,omap_below hm23 hb45 hm23.lt⟩,⟨_,by omega,omap_below hm3 hb45 hm3.lt⟩,⟨0,Nat.le_refl _,omap_below hm4 hb5 hm4.lt⟩,World.ownsRow_nil _ _ _ _,by omega,by omega,by omega,by omega⟩);have hbel5:=below_tr hbel3 hb45;rw[hs4]at HJ5;go_wp2_with fail;rw[←hw4,←hw5];clear hw4 hw5 hmm hbx;refine(spotOf_any B _ _ (HB.out.below hbel5) (by omega) (HPL.out B HGB.out)).mono ?_
    rintro e w6 ⟨bb,rfl,hbb,hm6,hb6⟩;have hbel6:=below_tr hbel5 hb6;have HJ6:=hid (HJ5.out.below hb6);have hs5:=hb5.size;have hRN:=hid (show∀N C,Mg.run B M T=some (N,C)→Sp.Rise N∧(∀e∈N,e.path.size≤80)∧C.length≤100000 from fun N C h=>Mg.run_form HGB.out HGM.out HGT.out h);go_wp2_with fail;refine(joinJ_any HJ6.out hm6 (by omega) (by omega) HGB.out HGM.out HGT.out).mono ?_
    intro e w7 he;have hsz6:=hbel6.size;cases hr:Mg.run B M T with
    |none=>
     obtain⟨rfl,hb7⟩:=he.1 hr
     have HQ:=hid (Mg.m_none HE1.out HE2.out HE3.out (by rw[Mg.mrg,hr];rfl));have hbel7:=hbel6.trans hb7;clear he hr;go_wp2_with fail;refine bodyPost_ret (v:= .tuple #[.slice none 0 0,.slice none 0 0,.int .i64 2]) (by simp[results,Tryz.results8,go_sem]) rfl ⟨_,_,by rw[HQ.out.1],?_,?_,⟨own_nil _ _,own_nil _ _⟩,hbel7⟩
     · rw[HQ.out.2.1];exact lies_nil _
     · rw[HQ.out.2.2];exact LiesK.nil _
    |some x=>
     obtain⟨N,C⟩:=x
     obtain⟨he1,he2⟩:=he.2 N C hr
     by_cases h60:60<N.length
     · obtain⟨rfl,hb7⟩:=he1 h60
       have HQ:=hid (Mg.m_none HE1.out HE2.out HE3.out (by rw[Mg.mrg,hr];show(if 60<N.length then none else _)=none;rw[if_pos h60]));have hbel7:=hbel6.trans hb7;clear he hr he1 he2;go_wp2_with fail;refine bodyPost_ret (v:= .tuple #[.slice none 0 0,.slice none 0 0,.int .i64 2]) (by simp[results,Tryz.results8,go_sem]) rfl ⟨_,_,by rw[HQ.out.1],?_,?_,⟨own_nil _ _,own_nil _ _⟩,hbel7⟩
       · rw[HQ.out.2.1];exact lies_nil _
       · rw[HQ.out.2.2];exact LiesK.nil _
     · obtain⟨rfl,hb7,vc',c',hc',hJ7⟩:=he2 h60
       have HQ:=hid (Mg.m_some (X:=Mg.outs M T N) (C:=C) HE1.out HE2.out HE3.out (by rw[Mg.mrg,hr];show(if 60<N.length then none else _)=_;rw[if_neg h60]));obtain⟨hrn1,hrn2,hrn3⟩:=hRN.out N C hr
       have HN1:=hid hrn1;have HN2:=hid hrn2;have hbel7:=hbel6.trans hb7;have HJ7:=hid hJ7;have HC7:=hid (show LiesK w7 vc' C from liesK_row hJ7.row hrn3);clear he hr he1 he2 hJ7 hrn1 hrn2;have HX7:=hid (show Cs w7 (w3.heap.size+1) [.map (some bm),.map (some bt),.map (some w3.heap.size),vc']from⟨_,HJ7.out.box⟩);go_wp2_with fail;have x3:=HX7.out.cell 3 rfl;have hdr:Below w7.heap.size w7 w7.drew:=(Below.refl _ _).drew
       go_region_held3 (fun W=>W.cell? ⟨w3.heap.size+1,3,none⟩=some vc') (go_keep) (first
        |(go_at_call 25;refine(entries_any ((HJ7.out.below hdr).join (by omega)) (Sp.apart_rise HGM.out.rise) (Sp.apart_rise HGT.out.rise) HN1.out (by omega) HN2.out).mono ?_;rintro e w8 ⟨ve,rfl,hrow,hb8⟩;have hb78:Below w7.heap.size w7 w8:=hdr.trans hb8;have j3:=(HX7.out.below hb78).cell 3 rfl))
       have HR8:=hid (show Lies w8 ve (Mg.outs M T N)from lies_own hrow (by rw[Mg.outs,List.length_map];omega));have HC8:=hid (HC7.out.below hb78);have hbel8:=below_tr hbel7 hb78;have HO8:=hid (show Own w.heap.size w8 ve∧Own w.heap.size w8 vc' from⟨(own_row hrow).mono (by have:=hbel7.size;show _≤w7.heap.size;omega),((own_row HJ7.out.row).below hb78).mono (by first|exact Nat.le_refl _|omega)⟩);clear hrow x3 j3;go_wp2_with fail;refine bodyPost_ret (v:= .tuple #[ve,vc',.int .i64 0]) (by simp[results,Tryz.results8,go_sem]) rfl ⟨_,_,by rw[HQ.out.1],?_,?_,HO8.out,hbel8⟩
       · rw[HQ.out.2.1];exact HR8.out
       · rw[HQ.out.2.2];exact HC8.out
theorem merge_any (B M T:List En) (vb vm vt:Value) (w:World) (hB:Lies w vb B) (hM:Lies w vm M) (hT:Lies w vt T) (sB:Sized B) (sM:Sized M) (sT:Sized T):
    Calls Tryz.prog 8 #[vb,vm,vt] w fun e w'=> ∃ve vc,e= .returned (.tuple #[ve,vc,.int .i64 (Mg.mE B M T)])∧Lies w' ve (Mg.mT B M T)∧LiesK w' vc (Mg.mC B M T)∧Below w.heap.size w w':=
 (merge_own B M T vb vm vt w hB hM hT sB sM sT).mono fun e w' ⟨ve,vc,h1,h2,h3,_,h4⟩=>⟨ve,vc,h1,h2,h3,h4⟩
end Go.Proofs.YtagibnejodgeeaaGreatDoor
namespace Go.Proofs.YtagibnejodgeeaaGreatDoor
open Go.RowKit Go.Maps

namespace Mg
def bA:List En:=[⟨⟨#[102]⟩,false,⟨#[49]⟩,1⟩]
def bB:List En:=[⟨⟨#[102]⟩,false,⟨#[50]⟩,3⟩]
def bR:List En:=[⟨⟨#[102]⟩,false,⟨#[50]⟩,3⟩,⟨⟨#[102,32,40,49,41]⟩,false,⟨#[49]⟩,1⟩]
def bC:CC:=[(⟨#[102]⟩,⟨#[102,32,40,49,41]⟩)]
set_option maxRecDepth 100000 in
theorem b1:Pp.treeE []=0:=by kernel_rfl
set_option maxRecDepth 100000 in
theorem b2:Pp.treeE bA=0:=by kernel_rfl
set_option maxRecDepth 100000 in
theorem b3:Pp.treeE bB=0:=by kernel_rfl
set_option maxRecDepth 100000 in
theorem b4:mrg [] bA bB=some (bR,bC):=by kernel_rfl
end Mg
theorem lies_one (w:World) (e:En) (T:TypeId):Lies (w.alloc (.cells #[.string e.path,.bool e.folder,.string e.text,.int .i64 e.ver] T)) (.slice (some ⟨w.heap.size,0,none⟩) 1 1) [e]:=
 ⟨_,1,rfl,Nat.le_refl _,by simp,fun i hi=>by
  have:i=0:=by simpa using hi
  subst this;exact⟨w.heap.size,0,rfl,by simp,by simp,by simp,by simp,by simp⟩⟩
theorem sized_small {L:List En} (h: ∀e∈L,e.path.size≤100∧e.text.size≤100):Sized L:=fun e he=>⟨by have:=(h e he).1;omega,by have:=(h e he).2;omega⟩
set_option maxRecDepth 100000 in
set_option maxHeartbeats 1000000 in
theorem mergeBegun_yes (w:World):Calls Tryz.prog 5 #[] w fun e w'=>e= .returned (.bool true)∧Below w.heap.size w w':=by
 obtain⟨wz,hwz⟩: ∃wz,wz=w.alloc (.cells #[.string ⟨#[102]⟩,.bool false,.string ⟨#[49]⟩,.int .i64 1] 27):=⟨_,rfl⟩
 obtain⟨wy,hwy⟩: ∃wy,wy=wz.alloc (.cells #[.string ⟨#[102]⟩,.bool false,.string ⟨#[50]⟩,.int .i64 3] 27):=⟨_,rfl⟩
 have hsz:wz.heap.size=w.heap.size+1:=by rw[hwz];simp
 have hbz:Below w.heap.size w wz:=by rw[hwz];exact(Below.refl _ _).alloc (Nat.le_refl _) _
 have hby:Below wz.heap.size wz wy:=by rw[hwy];exact(Below.refl _ _).alloc (Nat.le_refl _) _
 have HA:=hid (show Lies wy (.slice (some ⟨w.heap.size,0,none⟩) 1 1) Mg.bA from by
  have h1:=lies_one w ⟨⟨#[102]⟩,false,⟨#[49]⟩,1⟩ 27;rw[←hwz]at h1;exact h1.below hby)
 have HB:=hid (show Lies wy (.slice (some ⟨w.heap.size+1,0,none⟩) 1 1) Mg.bB from by
  have h1:=lies_one wz ⟨⟨#[102]⟩,false,⟨#[50]⟩,3⟩ 27;rw[←hwy,hsz]at h1;exact h1)
 have hb0:=below_tr hbz hby;have HQ:=hid (Mg.m_some Mg.b1 Mg.b2 Mg.b3 Mg.b4);go_enter Tryz.func5,Tryz.ntmps5
 go_wp2_with fail;rw[←hwz,←hwy];clear hwz hwy;refine(merge_any [] Mg.bA Mg.bB _ _ _ _ (lies_nil _) HA.out HB.out (fun e he=>by cases he) (sized_small (by decide)) (sized_small (by decide))).mono ?_
 rintro e w1 ⟨ve,vc,rfl,hle,hlc,hb1⟩;rw[HQ.out.1];rw[HQ.out.2.1]at hle;rw[HQ.out.2.2]at hlc;have hb01:=below_tr hb0 hb1;obtain⟨a1,c1,rfl,k1,k2,hE⟩:=hle
 obtain⟨a2,c2,rfl,k3,k4,_⟩:=hlc
 obtain⟨g,o,rfl,hg,hc0⟩:=hE 0 (by decide)
 obtain⟨g',o',e1,_,hc1⟩:=hE 1 (by decide)
 injection e1 with e1
 injection e1 with e1 e2 _
 subst e1 e2;obtain⟨x0,x1,x2,x3⟩:=hc0
 obtain⟨y0,y1,y2,y3⟩:=hc1
 have l1:Mg.bR.length=2:=rfl;have l2:Mg.bC.length=1:=rfl;have t0:w1.cell? ⟨g,o+2,none⟩=some (.string ⟨#[50]⟩):=by simpa[Mg.bR]using x2
 have t1:w1.cell? ⟨g,o+4,none⟩=some (.string ⟨#[102,32,40,49,41]⟩):=by simpa[Mg.bR]using y0
 rw[l1,l2];clear hE x0 x1 x2 x3 y0 y1 y2 y3;go_wp2_with fail;go_ret;exact⟨rfl,hb01⟩
end Go.Proofs.YtagibnejodgeeaaGreatDoor
namespace Go.Proofs.YtagibnejodgeeaaGreatDoor
open Go.RowKit Go.Maps

namespace Mg
theorem rise_ext: ∀{X Y:List En},Sp.Rise X→Sp.Rise Y→(∀e,e∈X↔e∈Y)→X=Y
 |[],[],_,_,_=>rfl
 |[],y::r,_,_,h=>by have:=(h y).2 (by simp);cases this
 |x::r,[],_,_,h=>by have:=(h x).1 (by simp);cases this
 |x::r,y::s,hX,hY,h=>by
  obtain⟨x1,x2⟩:=List.pairwise_cons.1 hX
  obtain⟨y1,y2⟩:=List.pairwise_cons.1 hY
  have hxy:x=y:=by
   rcases List.mem_cons.1 ((h x).1 (by simp))with e|hx
   · exact e
   · rcases List.mem_cons.1 ((h y).2 (by simp))with e|hy
     · exact e.symm
     · have a1:=y1 x hx
       have a2:=x1 y hy;have a3:=Pp.lt_trans _ _ _ a1 a2;rw[Pp.lt_irrefl]at a3;cases a3
  subst hxy
  have:r=s:=rise_ext x2 y2 (fun e=>by
   constructor
   · intro he
     rcases List.mem_cons.1 ((h e).1 (by simp[he]))with e1|h1
     · subst e1
       have:=x1 e he
       rw[Pp.lt_irrefl]at this;cases this
     · exact h1
   · intro he
     rcases List.mem_cons.1 ((h e).2 (by simp[he]))with e1|h1
     · subst e1
       have:=y1 e he
       rw[Pp.lt_irrefl]at this;cases this
     · exact h1)
  rw[this]
def strip (e:En):En:=⟨e.path,Sp.wh e==1,Sp.tx e,0⟩
theorem wh_fold (e:En):(Sp.wh e==1)=e.folder:=by
 rw[Sp.wh];cases e.folder<;>rfl
theorem map_rise {f:En→En} (hf: ∀e,(f e).path=e.path) {X:List En} (h:Sp.Rise X):Sp.Rise (X.map f):=by
 rw[Sp.Rise,List.pairwise_map];refine h.imp ?_
 intro a b hab;rw[Pp.lt,hf,hf];exact hab
theorem at_mem {X:List En} (h:Sp.Rise X) {e:En} (he:e∈X):Sp.at_ X e.path.data.toList=some e:=(Sp.at_iff (Sp.apart_rise h)).2 ⟨he,rfl⟩
theorem st_mem {X:List En} (h:Sp.Rise X) {e:En} (he:e∈X):st X e.path.data.toList=spo e:=st_some (at_mem h he)
theorem st_get {X:List En} (h:Sp.Rise X) {p:List UInt8} (hw:(st X p).w≠0): ∃e∈X,e.path.data.toList=p∧st X p=spo e:=by
 cases ha:Sp.at_ X p with
 |none=>exact absurd (st_w0.2 ha) hw
 |some e=>
  obtain⟨h1,h2⟩:=(Sp.at_iff (Sp.apart_rise h)).1 ha
  exact⟨e,h1,h2,st_some ha⟩
theorem strips_eq {X Y:List En} (hX:Sp.Rise X) (hY:Sp.Rise Y) (h: ∀p,lk (st X p) (st Y p)=true):X.map strip=Y.map strip:=by
 have one: ∀{X Y:List En},Sp.Rise X→Sp.Rise Y→(∀p,lk (st X p) (st Y p)=true)→ ∀z∈X.map strip,z∈Y.map strip:=by
  intro X Y hX hY h z hz;obtain⟨e,he,rfl⟩:=List.mem_map.1 hz
  have h1:=lk_iff.1 (h e.path.data.toList);rw[st_mem hX he]at h1;have h0:=wh_12 e;have h1w:Sp.wh e=(st Y e.path.data.toList).w:=h1.1;obtain⟨y,hy,hp,hs⟩:=st_get hY (p:=e.path.data.toList) (by omega)
  rw[hs]at h1;refine List.mem_map.2 ⟨y,hy,?_⟩
  have e1:Sp.wh e=Sp.wh y:=h1.1;have e2:Sp.tx e=Sp.tx y:=h1.2;rw[strip,strip,e1,e2,ba_ext hp]
 refine rise_ext (map_rise (f:=strip) (fun _=>rfl) hX) (map_rise (f:=strip) (fun _=>rfl) hY) (fun z=>⟨one hX hY h z,one hY hX (fun p=>lk_symm (h p)) z⟩)
end Mg
end Go.Proofs.YtagibnejodgeeaaGreatDoor
