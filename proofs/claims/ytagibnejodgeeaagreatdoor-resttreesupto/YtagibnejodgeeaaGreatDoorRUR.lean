/- What the reference's HasText and PutText answer, of texts that rise: a text is put where it belongs, if it is not there. -/
import Derived.Test.YtagibnejodgeeaaGreatDoorRUI
import Derived.Test.YtagibnejodgeeaaGreatDoorRUO
import Derived.BigQuiet
import Derived.Deep.QuietTactic
import Derived.Deep.RegionHeld3
import Derived.Deep.RegionLaw
import Derived.Deep.RegionLawGrows
import Derived.Test.YtagibnejodgeeaaGreatDoorRUN
set_option linter.unusedSimpArgs false
set_option linter.unusedVariables false
namespace Go.Proofs.YtagibnejodgeeaaGreatDoor
open Go.RowKit

/-- A row of texts. -/
def LiesT (w:World) (v:Value) (N:List (List UInt8)):Prop:= ∃a cap,v= .slice a N.length cap∧N.length≤cap∧cap≤maxLen∧N.length≤1000000∧(a=none→cap=0)∧ ∀i (h:i<N.length),∃b o,a=some ⟨b,o,none⟩∧b<w.heap.size∧w.cell? ⟨b,o+i,none⟩=some (.string ⟨(N[i]).toArray⟩)
theorem LiesT.below {w w':World} {v:Value} {N:List (List UInt8)} (h:LiesT w v N) (hw:Below w.heap.size w w'):LiesT w' v N:=by
 obtain⟨a,cap,hv,h1,h2,h3,h4,h5⟩:=h
 refine⟨a,cap,hv,h1,h2,h3,h4,fun i hi=>?_⟩
 obtain⟨b,o,ha,hb,he⟩:=h5 i hi
 exact⟨b,o,ha,Nat.lt_of_lt_of_le hb hw.size,(hw.cell (p:=⟨b,o+i,none⟩) hb).trans he⟩
theorem liesT_nil (w:World):LiesT w (.slice none 0 0) []:=⟨none,0,rfl,Nat.le_refl _,by decide,by decide,fun _=>rfl,fun i h=>absurd h (by simp)⟩
theorem liesT_own {w:World} {base:Nat} {v:Value} {N:List (List UInt8)} (h:w.ownsRow base 9 1 v N.length (Pp.vs N)) (hn:N.length≤1000000):LiesT w v N:=by
 have h':=h;obtain⟨hl,h2⟩:=h
 rcases h2 with⟨rfl,hz⟩|⟨g,cap,cur,rfl,hg,hh,hn2,hm,hz,htake⟩
 · exact⟨none,0,by rw[hz],by omega,by decide,hn,fun _=>rfl,fun i h=>absurd h (by omega)⟩
 · have hlt:g<w.heap.size:=by
    rcases Nat.lt_or_ge g w.heap.size with h|h
    · exact h
    · rw[Array.getElem?_eq_none h]at hh;cases hh
   refine⟨some ⟨g,0,none⟩,cap,rfl,hn2,hm,hn,(fun h=>by cases h),fun i h=>⟨g,0,rfl,hlt,?_⟩⟩
   rw[Nat.zero_add,h'.cellAt i (by omega)];simp[Pp.vs,h]
theorem Mg.bytes_of (l:List UInt8):(⟨l.toArray⟩:ByteArray).toList=l:=by rw[Lib.toList_data]
theorem Mg.bytes_self (s:ByteArray):(⟨s.data.toList.toArray⟩:ByteArray)=s:=by cases s;simp
set_option maxHeartbeats 1000000 in
theorem hasText_any (N:List (List UInt8)) (v:Value) (s:ByteArray) (w:World) (hv:LiesT w v N):
    Calls Tryz.prog 67 #[v,.string s] w fun e w'=>e= .returned (.bool (decide (s.data.toList∈N)))∧Below w.heap.size w w':=by
 obtain⟨a,cap,rfl,h1,h2,h3,h4,h5⟩:=hv
 have HL:Hid (∀i (h:i<N.length),∃b o,a=some ⟨b,o,none⟩∧b<w.heap.size∧w.cell? ⟨b,o+i,none⟩=some (.string ⟨(N[i]).toArray⟩)):=h5;obtain⟨z,hz⟩: ∃z,z=decide (s.data.toList∈N):=⟨_,rfl⟩
 rw[←hz];have HZ:=hid hz;clear h5 h4 hz;go_enter Tryz.func67,Tryz.ntmps67
 go_wp2_with fail;go_loopw [5] (fun i wr=> ∃k:Nat,k≤N.length∧i= .int .i64 k∧Hid (∀j (h:j<k) (h1:j<N.length),N[j]≠s.data.toList)∧Below w.heap.size w wr) (fun i _=>N.length-(intOf i).toNat)
 case atStart=>exact⟨0,Nat.zero_le _,rfl,(fun j h _=>absurd h (by omega): ∀j (h:j<0) (h1:j<N.length),N[j]≠s.data.toList),Below.refl _ _⟩
 case round=>
  obtain⟨k,hk,rfl,HK,hbel⟩:=hrel
  by_cases hlt:k<N.length
  · obtain⟨b,o,rfl,hb,he⟩:=HL.out k hlt
    have c0:=(hbel.cell (p:=⟨b,o+k,none⟩) hb).trans he;by_cases hp:N[k]=s.data.toList
    · have hp2:((⟨(N[k]).toArray⟩:ByteArray).toList==s.toList)=true:=by rw[Mg.bytes_of,Lib.toList_data,hp];simp
      have HT:=hid (show z=true from by rw[HZ.out,decide_eq_true_iff,←hp];exact List.getElem_mem hlt);clear he hp HK;generalize (⟨(N[k]).toArray⟩:ByteArray)=x at*;go_wp2_with fail;go_ret;exact⟨by rw[HT.out];rfl,hbel⟩
    · have hp2:((⟨(N[k]).toArray⟩:ByteArray).toList==s.toList)=false:=by rw[Mg.bytes_of,Lib.toList_data];simpa using hp
      have HK2:=hid (show∀j (h:j<k+1) (h1:j<N.length),N[j]≠s.data.toList from fun j hj h1=>by
       rcases(by omega:j<k∨j=k)with h|h
       · exact HK.out j h h1
       · subst h;exact hp)
      clear he hp HK;generalize (⟨(N[k]).toArray⟩:ByteArray)=x at*;go_wp2_with fail;go_roundw
      case rel=>exact⟨k+1,by omega,by simp,HK2,hbel⟩
      case measure=>simp[intOf];omega
  · have HF:=hid (show z=false from by
     rw[HZ.out,decide_eq_false_iff_not];intro hm;obtain⟨j,hj,e⟩:=List.getElem_of_mem hm
     exact HK.out j (by omega) hj e)
    go_wp2_with fail;go_ret;exact⟨by rw[HF.out];rfl,hbel⟩
/-- Cells of a row of texts. -/
theorem LiesT.cells {w W:World} {a:Option Addr} {n cap:Nat} {N:List (List UInt8)} (h:LiesT w (.slice a n cap) N) (hW:Below w.heap.size w W): ∀b,a=some b→ ∀j u,(Pp.vs N)[j]?=some u→W.cell? (b.add j)=some u:=by
 obtain⟨a',cap',hv,_,_,_,_,h5⟩:=h
 injection hv with e1 _ _
 subst e1;intro b hab j u hj
 have hjl:j<N.length:=by
  rcases Nat.lt_or_ge j N.length with h|h
  · exact h
  · rw[List.getElem?_eq_none (by rw[Pp.vs_len];exact h)]at hj;cases hj
 obtain⟨b',o',hab',hb',hc'⟩:=h5 j hjl
 rw[hab']at hab;cases hab
 have hu:u= .string ⟨(N[j]).toArray⟩:=by
  have:(Pp.vs N)[j]?=some (.string ⟨(N[j]).toArray⟩):=by simp[Pp.vs,hjl]
  rw[this]at hj;cases hj;rfl
 rw[hu];by_cases hj0:j=0
 · subst hj0;simpa[Addr.add]using (hW.cell (p:=⟨b',o'+0,none⟩) hb').trans hc'
 · simpa[Addr.add,hj0]using (hW.cell (p:=⟨b',o'+j,none⟩) hb').trans hc'
theorem vs_off {w W:World} {b o n cap k:Nat} {N:List (List UInt8)} (h:LiesT w (.slice (some ⟨b,o,none⟩) n cap) N) (hW:Below w.heap.size w W): ∀j u,(Pp.vs (N.drop k))[j]?=some u→W.cell? ((⟨b,o+k,none⟩:Addr).add j)=some u:=by
 intro j u hj
 have h1:=h.cells hW ⟨b,o,none⟩ rfl (k+j) u (by
  simp only[Pp.vs,List.getElem?_map,List.getElem?_drop]at hj⊢;exact hj)
 have e:((⟨b,o,none⟩:Addr).add (k+j))=(⟨b,o+k,none⟩:Addr).add j:=by
  unfold Addr.add;by_cases h0:k+j=0
  · have hk:k=0:=by omega
    have hj0:j=0:=by omega
    subst hk hj0;simp
  · by_cases hj:j=0
    · subst hj
      simp[h0]
      try omega
    · simp[h0,hj]
      try omega
 rw[←e];exact h1
theorem vs_take {w W:World} {b o n cap k:Nat} {N:List (List UInt8)} (h:LiesT w (.slice (some ⟨b,o,none⟩) n cap) N) (hW:Below w.heap.size w W): ∀c,some (⟨b,o,none⟩:Addr)=some c→ ∀j u,(Pp.vs (N.take k))[j]?=some u→W.cell? (c.add j)=some u:=by
 intro c hc j u hj;refine h.cells hW c hc j u ?_
 simp only[Pp.vs,List.getElem?_map,List.getElem?_take]at hj⊢;split at hj
 · exact hj
 · cases hj
set_option maxRecDepth 100000 in
set_option maxHeartbeats 2000000 in
/-- A text that is not there is put at its place. -/
theorem putText_new (N:List (List UInt8)) (v:Value) (s:ByteArray) (w:World) (hv:LiesT w v N) (hn:N.length≤1000) (hN:s.data.toList∉N):
    Calls Tryz.prog 41 #[v,.string s] w fun e w'=> ∃u,e= .returned u∧(∃k,k≤N.length∧(∀j (h:j<k) (h1:j<N.length),Op.bytesLess N[j] s.data.toList=true)∧(∀h:k<N.length,Op.bytesLess N[k] s.data.toList=false)∧LiesT w' u (N.take k++s.data.toList::N.drop k))∧Below w.heap.size w w':=by
 obtain⟨i1,hj0,hy0,hy1,hy2⟩:=info_parts Tryz.infoS
 have HV:=hid hv;have HN:=hid (show decide (s.data.toList∈N)=false from by simpa using hN);obtain⟨a,cap,rfl,h1,h2,h3,h4,h5⟩:=hv
 have HL:Hid (∀i (h:i<N.length),∃b o,a=some ⟨b,o,none⟩∧b<w.heap.size∧w.cell? ⟨b,o+i,none⟩=some (.string ⟨(N[i]).toArray⟩)):=h5;clear h5 hN;go_enter Tryz.func41,Tryz.ntmps41
 go_wp2_with fail;refine(hasText_any N _ s _ HV.out).mono ?_
 rintro e w1 ⟨rfl,hb1⟩;rw[HN.out];go_wp2_with fail;go_loopw [5] (fun i wr=> ∃k:Nat,k≤N.length∧i= .int .i64 k∧Hid (∀j (h:j<k) (h1:j<N.length),Op.bytesLess N[j] s.data.toList=true)∧Below w.heap.size w wr) (fun i _=>N.length-(intOf i).toNat)
 case atStart=>exact⟨0,Nat.zero_le _,rfl,(fun j h _=>absurd h (by omega): ∀j (h:j<0) (h1:j<N.length),Op.bytesLess N[j] s.data.toList=true),hb1⟩
 case round=>
  obtain⟨k,hk,rfl,HK,hbel⟩:=hrel
  clear hb1
  have hway:(∃hlt:k<N.length,Op.bytesLess N[k] s.data.toList=true)∨Hid (∀h:k<N.length,Op.bytesLess N[k] s.data.toList=false):=by
   by_cases hlt:k<N.length
   · cases hc:Op.bytesLess N[k] s.data.toList with
     |true=>exact Or.inl ⟨hlt,hc⟩
     |false=>exact Or.inr (fun _=>hc: ∀h:k<N.length,Op.bytesLess N[k] s.data.toList=false)
   · exact Or.inr (fun h=>absurd h hlt: ∀h:k<N.length,Op.bytesLess N[k] s.data.toList=false)
  rcases hway with⟨hlt,hless⟩|HE
  · obtain⟨b,o,rfl,hb,he⟩:=HL.out k hlt
    have c0:=(hbel.cell (p:=⟨b,o+k,none⟩) hb).trans he;have hp2:Op.bytesLess (⟨(N[k]).toArray⟩:ByteArray).toList s.toList=true:=by rw[Mg.bytes_of,Lib.toList_data];exact hless
    have HK2:=hid (show∀j (h:j<k+1) (h1:j<N.length),Op.bytesLess N[j] s.data.toList=true from fun j hj h1=>by
     rcases(by omega:j<k∨j=k)with h|h
     · exact HK.out j h h1
     · subst h;exact hless)
    clear he HK hless;generalize (⟨(N[k]).toArray⟩:ByteArray)=x at*;go_wp2_with fail;go_roundw
    case rel=>exact⟨k+1,by omega,by simp,HK2,hbel⟩
    case measure=>simp[intOf];omega
  · by_cases hlt:k<N.length
    · obtain⟨b,o,rfl,hb,he⟩:=HL.out k hlt
      have c0:=(hbel.cell (p:=⟨b,o+k,none⟩) hb).trans he;have hp2:Op.bytesLess (⟨(N[k]).toArray⟩:ByteArray).toList s.toList=false:=by rw[Mg.bytes_of,Lib.toList_data];exact HE.out hlt
      have hbN:Below w.heap.size w (wr.alloc (.cells #[.string s] 9)).drew:=(hbel.alloc hbel.size _).drew;have hlt':(k:Int)<N.length:=by omega
      have hkc: ¬cap=k:=by omega
      have hkc2:k≤cap:=by omega
      have hkc3:k≤N.length:=by omega
      clear he;generalize (⟨(N[k]).toArray⟩:ByteArray)=x at*;go_wp2_with fail;refine wp_region_held_drew (S:=fun _=>True) (by kernel_rfl) trivial (fun hHeld=>?_)
      refine wpAnyH_take (i:=0) (oi:=⟨some 24,Op.move (Operand.tmp 0),69,_,_,none⟩) (v:=?_) rfl (by kernel_rfl) (by kernel_rfl) (by kernel_rfl) (fun _ _ _ h=>h) (Or.inl ⟨by rfl,?_⟩) hHeld ?_
      rotate_left
      · (intro W hSw;go_simp<;>with_reducible rfl)
      try simp only[Act.put,List.setIfInBounds_toArray,List.set_cons_zero,List.set_cons_succ]
      refine wpAnyH_take (i:=1) (oi:=⟨some 25,Op.move (Operand.tmp 5),3,_,_,none⟩) (v:=?_) rfl (by kernel_rfl) (by kernel_rfl) (by kernel_rfl) (fun _ _ _ h=>h) (Or.inl ⟨by rfl,?_⟩) hHeld ?_
      rotate_left
      · (intro W hSw;go_simp<;>with_reducible rfl)
      try simp only[Act.put,List.setIfInBounds_toArray,List.set_cons_zero,List.set_cons_succ]
      refine wpAnyH_take (i:=2) (oi:=⟨some 26,Op.move (Operand.tmp 5),3,_,_,none⟩) (v:=?_) rfl (by kernel_rfl) (by kernel_rfl) (by kernel_rfl) (fun _ _ _ h=>h) (Or.inl ⟨by rfl,?_⟩) hHeld ?_
      rotate_left
      · (intro W hSw;go_simp<;>with_reducible rfl)
      try simp only[Act.put,List.setIfInBounds_toArray,List.set_cons_zero,List.set_cons_succ]
      refine wpAnyH_take (i:=3) (oi:=⟨some 27,Op.slice 69 (Operand.tmp 24) none (some (Operand.tmp 25)) (some (Operand.tmp 26)),69,_,_,none⟩) (v:=?_) rfl (by kernel_rfl) (by kernel_rfl) (by kernel_rfl) (fun _ _ _ h=>h) (Or.inl ⟨by rfl,?_⟩) hHeld ?_
      rotate_left
      · (intro W hSw;go_simp<;>with_reducible rfl)
      try simp only[Act.put,List.setIfInBounds_toArray,List.set_cons_zero,List.set_cons_succ]
      refine wpAnyH_take (i:=4) (oi:=⟨some 28,Op.move (Operand.tmp 1),9,_,_,none⟩) (v:=?_) rfl (by kernel_rfl) (by kernel_rfl) (by kernel_rfl) (fun _ _ _ h=>h) (Or.inl ⟨by rfl,?_⟩) hHeld ?_
      rotate_left
      · (intro W hSw;go_simp<;>with_reducible rfl)
      try simp only[Act.put,List.setIfInBounds_toArray,List.set_cons_zero,List.set_cons_succ]
      refine wpAnyH_take (i:=6) (oi:=⟨some 30,Op.move (Operand.tmp 0),69,_,_,none⟩) (v:=?_) rfl (by kernel_rfl) (by kernel_rfl) (by kernel_rfl) (fun _ _ _ h=>h) (Or.inl ⟨by rfl,?_⟩) hHeld ?_
      rotate_left
      · (intro W hSw;go_simp<;>with_reducible rfl)
      try simp only[Act.put,List.setIfInBounds_toArray,List.set_cons_zero,List.set_cons_succ]
      refine wpAnyH_take (i:=7) (oi:=⟨some 31,Op.move (Operand.tmp 5),3,_,_,none⟩) (v:=?_) rfl (by kernel_rfl) (by kernel_rfl) (by kernel_rfl) (fun _ _ _ h=>h) (Or.inl ⟨by rfl,?_⟩) hHeld ?_
      rotate_left
      · (intro W hSw;go_simp<;>with_reducible rfl)
      try simp only[Act.put,List.setIfInBounds_toArray,List.set_cons_zero,List.set_cons_succ]
      refine wpAnyH_take (i:=8) (oi:=⟨some 32,Op.slice 69 (Operand.tmp 30) (some (Operand.tmp 31)) none none,69,_,_,none⟩) (v:=?_) rfl (by kernel_rfl) (by kernel_rfl) (by kernel_rfl) (fun _ _ _ h=>h) (Or.inl ⟨by rfl,?_⟩) hHeld ?_
      rotate_left
      · (intro W hSw;go_simp<;>with_reducible rfl)
      try simp only[Act.put,List.setIfInBounds_toArray,List.set_cons_zero,List.set_cons_succ]
      refine wpAnyH_ready (rs:=[5]) (by kernel_rfl) (by simp) ?_
      refine AllReadyH.cons (o:=⟨some 29,Op.buildSlice 69 1 #[(0,Operand.tmp 28)],69,_,_,none⟩) rfl (fun K hK=>?_) AllReadyH.nil
      go_simp
      refine hK.out _ _ trivial (fun hHeld=>?_)
      clear hK K;try simp only[Act.put,List.setIfInBounds_toArray,List.set_cons_zero,List.set_cons_succ]
      refine wpAnyH_ready (rs:=[9]) (by kernel_rfl) (by simp) ?_
      refine AllReadyH.cons (o:=⟨some 33,Op.call ⟨Callee.builtin Builtin.append,#[Operand.tmp 29,Operand.tmp 32],#[69,69]⟩,69,_,_,none⟩) rfl (fun K hK=>?_) AllReadyH.nil
      refine step_append_grows rfl (.tmp 29) (.tmp 32) 69 rfl 9 i1 (.string ⟨#[]⟩) 1 16 Tryz.underlying69 hj0 hy0 hy1 hy2 rfl (by decide) (some ⟨wr.heap.size,0,none⟩) 1 1 [.string s] rfl (fun h=>by cases h) rfl (by intro b hb;cases hb;exact(by intro j u hj;match j,hj with|0,hj=>simp at hj;subst hj;simp[Addr.add]|j+1,hj=>simp at hj)) ⟨b,o+k,none⟩ (N.length-k) (cap-k) (Pp.vs (N.drop k)) rfl (by rw[Pp.vs_len,List.length_drop,Nat.mul_one]) (vs_off HV.out hbN) (Pp.vs_oneW _) (by omega) (by unfold maxLen;omega) (by omega) ?_
      intro v4 w4 ho4 hgr4;have hb4:Below w.heap.size w w4:=hbN.grown hgr4 hbN.size (fun k hk=>by cases hk)
      have e4:[Value.string s]++Pp.vs (N.drop k)=Pp.vs (s.data.toList::N.drop k):=by
       show _=Value.string ⟨s.data.toList.toArray⟩::Pp.vs (N.drop k)
       rw[Mg.bytes_self];rfl
      rw[e4]at ho4;have hl4:(s.data.toList::N.drop k).length=1+(N.length-k):=by rw[List.length_cons,List.length_drop];omega
      rw[←hl4]at ho4;obtain⟨g4,cap4,rfl,hg4,hlt4,hce4⟩:=Pp.own_atW ho4 (by simp)
      have HC4:=hid (show∀j u,(Pp.vs (s.data.toList::N.drop k))[j]?=some u→w4.cell? ((⟨g4,0,none⟩:Addr).add j)=some u from fun j u hj=>Pp.vs_cellsW hce4 0 j u (by rw[List.drop_zero];exact hj));clear ho4 hgr4 hce4 e4;refine hK.out _ _ trivial (fun hHeld=>?_)
      clear hK K;try simp only[Act.put,List.setIfInBounds_toArray,List.set_cons_zero,List.set_cons_succ]
      refine wpAnyH_ready (rs:=[10]) (by kernel_rfl) (by simp) ?_
      refine AllReadyH.cons (o:=⟨some 34,Op.call ⟨Callee.builtin Builtin.append,#[Operand.tmp 27,Operand.tmp 33],#[69,69]⟩,69,_,_,none⟩) rfl (fun K hK=>?_) AllReadyH.nil
      refine step_append_grows rfl (.tmp 27) (.tmp 33) 69 rfl 9 i1 (.string ⟨#[]⟩) 1 16 Tryz.underlying69 hj0 hy0 hy1 hy2 rfl (by decide) (some ⟨b,o,none⟩) k k (Pp.vs (N.take k)) rfl (fun h=>by cases h) (by rw[Pp.vs_len,List.length_take];omega) (vs_take HV.out hb4) ⟨g4,0,none⟩ (s.data.toList::N.drop k).length cap4 (Pp.vs (s.data.toList::N.drop k)) rfl (by rw[Pp.vs_len,Nat.mul_one]) HC4.out (Pp.vs_oneW _) (by rw[hl4];omega) (by rw[hl4];unfold maxLen;omega) (by rw[hl4];omega) ?_
      intro v5 w5 ho5 hgr5;have hb5:Below w.heap.size w w5:=hb4.grown hgr5 hb4.size (fun k hk=>by cases hk);rw[Pp.vs_appW]at ho5;have hl5:(N.take k++s.data.toList::N.drop k).length=k+(s.data.toList::N.drop k).length:=by rw[List.length_append,List.length_take];omega
      rw[←hl5]at ho5;have HO:Hid (LiesT w5 v5 (N.take k++s.data.toList::N.drop k)):=liesT_own ho5 (by rw[hl5,hl4];omega);clear ho5 hgr5 hl5;refine hK.out _ _ trivial (fun hHeld=>?_)
      clear hK K;try simp only[Act.put,List.setIfInBounds_toArray,List.set_cons_zero,List.set_cons_succ]
      refine wpAnyH_take (i:=11) (oi:=⟨some 4,Op.assign (Operand.tmp 34),69,_,_,none⟩) (v:=?_) rfl (by kernel_rfl) (by kernel_rfl) (by kernel_rfl) (fun _ _ _ h=>h) (Or.inl ⟨by rfl,?_⟩) hHeld ?_
      rotate_left
      · (intro W hSw;go_simp<;>with_reducible rfl)
      try simp only[Act.put,List.setIfInBounds_toArray,List.set_cons_zero,List.set_cons_succ]
      refine wpAnyH_done (by kernel_rfl) ?_ _
      go_wp2;go_ret;exact⟨_,rfl,⟨_,hk,HK.out,HE.out,HO.out⟩,hb5⟩
    · obtain rfl:k=N.length:=by omega
      have hd:decide ((N.length:Int)<(N.length:Int))=false:=by simp
      have hbN:Below w.heap.size w (wr.alloc (.cells #[.string s] 9)).drew:=(hbel.alloc hbel.size _).drew;have HNONE:=hid (show a=none→N.length=0∧N.length=0 from fun h=>by have:=h4 h;omega);have hco:((N.length:Nat):Int)≤cap:=by omega
      have hcases:a=none∨ ∃A,a=some A:=by cases a with
       |none=>exact Or.inl rfl
       |some A=>exact Or.inr ⟨A,rfl⟩
      rcases hcases with rfl|⟨A,rfl⟩
      · have hc0:=h4 rfl
        subst hc0;have hN0:N=[]:=List.length_eq_zero_iff.1 (by omega);subst hN0;go_wp2_with fail;refine wp_region_held_drew (S:=fun _=>True) (by kernel_rfl) trivial (fun hHeld=>?_)
        refine wpAnyH_take (i:=0) (oi:=⟨some 24,Op.move (Operand.tmp 0),69,_,_,none⟩) (v:=?_) rfl (by kernel_rfl) (by kernel_rfl) (by kernel_rfl) (fun _ _ _ h=>h) (Or.inl ⟨by rfl,?_⟩) hHeld ?_
        rotate_left
        · (intro W hSw;go_simp<;>with_reducible rfl)
        try simp only[Act.put,List.setIfInBounds_toArray,List.set_cons_zero,List.set_cons_succ]
        refine wpAnyH_take (i:=1) (oi:=⟨some 25,Op.move (Operand.tmp 5),3,_,_,none⟩) (v:=?_) rfl (by kernel_rfl) (by kernel_rfl) (by kernel_rfl) (fun _ _ _ h=>h) (Or.inl ⟨by rfl,?_⟩) hHeld ?_
        rotate_left
        · (intro W hSw;go_simp<;>with_reducible rfl)
        try simp only[Act.put,List.setIfInBounds_toArray,List.set_cons_zero,List.set_cons_succ]
        refine wpAnyH_take (i:=2) (oi:=⟨some 26,Op.move (Operand.tmp 5),3,_,_,none⟩) (v:=?_) rfl (by kernel_rfl) (by kernel_rfl) (by kernel_rfl) (fun _ _ _ h=>h) (Or.inl ⟨by rfl,?_⟩) hHeld ?_
        rotate_left
        · (intro W hSw;go_simp<;>with_reducible rfl)
        try simp only[Act.put,List.setIfInBounds_toArray,List.set_cons_zero,List.set_cons_succ]
        refine wpAnyH_take (i:=3) (oi:=⟨some 27,Op.slice 69 (Operand.tmp 24) none (some (Operand.tmp 25)) (some (Operand.tmp 26)),69,_,_,none⟩) (v:=?_) rfl (by kernel_rfl) (by kernel_rfl) (by kernel_rfl) (fun _ _ _ h=>h) (Or.inl ⟨by rfl,?_⟩) hHeld ?_
        rotate_left
        · (intro W hSw;go_simp<;>with_reducible rfl)
        try simp only[Act.put,List.setIfInBounds_toArray,List.set_cons_zero,List.set_cons_succ]
        refine wpAnyH_take (i:=4) (oi:=⟨some 28,Op.move (Operand.tmp 1),9,_,_,none⟩) (v:=?_) rfl (by kernel_rfl) (by kernel_rfl) (by kernel_rfl) (fun _ _ _ h=>h) (Or.inl ⟨by rfl,?_⟩) hHeld ?_
        rotate_left
        · (intro W hSw;go_simp<;>with_reducible rfl)
        try simp only[Act.put,List.setIfInBounds_toArray,List.set_cons_zero,List.set_cons_succ]
        refine wpAnyH_take (i:=6) (oi:=⟨some 30,Op.move (Operand.tmp 0),69,_,_,none⟩) (v:=?_) rfl (by kernel_rfl) (by kernel_rfl) (by kernel_rfl) (fun _ _ _ h=>h) (Or.inl ⟨by rfl,?_⟩) hHeld ?_
        rotate_left
        · (intro W hSw;go_simp<;>with_reducible rfl)
        try simp only[Act.put,List.setIfInBounds_toArray,List.set_cons_zero,List.set_cons_succ]
        refine wpAnyH_take (i:=7) (oi:=⟨some 31,Op.move (Operand.tmp 5),3,_,_,none⟩) (v:=?_) rfl (by kernel_rfl) (by kernel_rfl) (by kernel_rfl) (fun _ _ _ h=>h) (Or.inl ⟨by rfl,?_⟩) hHeld ?_
        rotate_left
        · (intro W hSw;go_simp<;>with_reducible rfl)
        try simp only[Act.put,List.setIfInBounds_toArray,List.set_cons_zero,List.set_cons_succ]
        refine wpAnyH_take (i:=8) (oi:=⟨some 32,Op.slice 69 (Operand.tmp 30) (some (Operand.tmp 31)) none none,69,_,_,none⟩) (v:=?_) rfl (by kernel_rfl) (by kernel_rfl) (by kernel_rfl) (fun _ _ _ h=>h) (Or.inl ⟨by rfl,?_⟩) hHeld ?_
        rotate_left
        · (intro W hSw;go_simp<;>with_reducible rfl)
        try simp only[Act.put,List.setIfInBounds_toArray,List.set_cons_zero,List.set_cons_succ]
        refine wpAnyH_ready (rs:=[5]) (by kernel_rfl) (by simp) ?_
        refine AllReadyH.cons (o:=⟨some 29,Op.buildSlice 69 1 #[(0,Operand.tmp 28)],69,_,_,none⟩) rfl (fun K hK=>?_) AllReadyH.nil
        go_simp
        refine hK.out _ _ trivial (fun hHeld=>?_)
        clear hK K;try simp only[Act.put,List.setIfInBounds_toArray,List.set_cons_zero,List.set_cons_succ]
        refine wpAnyH_ready (rs:=[9]) (by kernel_rfl) (by simp) ?_
        refine AllReadyH.cons (o:=⟨some 33,Op.call ⟨Callee.builtin Builtin.append,#[Operand.tmp 29,Operand.tmp 32],#[69,69]⟩,69,_,_,none⟩) rfl (fun K hK=>?_) AllReadyH.nil
        go_simp
        refine hK.out _ _ trivial (fun hHeld=>?_)
        clear hK K;try simp only[Act.put,List.setIfInBounds_toArray,List.set_cons_zero,List.set_cons_succ]
        refine wpAnyH_ready (rs:=[10]) (by kernel_rfl) (by simp) ?_
        refine AllReadyH.cons (o:=⟨some 34,Op.call ⟨Callee.builtin Builtin.append,#[Operand.tmp 27,Operand.tmp 33],#[69,69]⟩,69,_,_,none⟩) rfl (fun K hK=>?_) AllReadyH.nil
        refine step_append_grows rfl (.tmp 27) (.tmp 33) 69 rfl 9 i1 (.string ⟨#[]⟩) 1 16 Tryz.underlying69 hj0 hy0 hy1 hy2 rfl (by decide) _ _ _ (Pp.vs []) rfl (fun _=>⟨rfl,rfl⟩) (by simp[Pp.vs]) (HV.out.cells hbN) ⟨wr.heap.size,0,none⟩ 1 1 [.string s] rfl rfl (by intro j u hj;match j,hj with|0,hj=>simp at hj;subst hj;simp[Addr.add]|j+1,hj=>simp at hj) (by intro u hu;simp at hu;subst hu;rfl) (by first|omega|(simp;omega)) (by unfold maxLen;omega) (by omega) ?_
        intro v5 w5 ho5 hgr5;have hb5:Below w.heap.size w w5:=hbN.grown hgr5 hbN.size (fun k hk=>by cases hk);have e1:Pp.vs []++[.string s]=Pp.vs ([].take 0++s.data.toList::[].drop 0):=by rw[List.take_nil,List.drop_nil,List.nil_append,←List.nil_append [s.data.toList],←Pp.vs_snoc,Mg.bytes_self]
        rw[e1]at ho5;have hl5:([].take 0++s.data.toList::[].drop 0).length=0+1:=rfl;rw[←hl5]at ho5;have HO:Hid (LiesT w5 v5 ([].take 0++s.data.toList::[].drop 0)):=liesT_own ho5 (by rw[hl5];omega);clear ho5 hgr5 e1 hl5;refine hK.out _ _ trivial (fun hHeld=>?_)
        clear hK K;try simp only[Act.put,List.setIfInBounds_toArray,List.set_cons_zero,List.set_cons_succ]
        refine wpAnyH_take (i:=11) (oi:=⟨some 4,Op.assign (Operand.tmp 34),69,_,_,none⟩) (v:=?_) rfl (by kernel_rfl) (by kernel_rfl) (by kernel_rfl) (fun _ _ _ h=>h) (Or.inl ⟨by rfl,?_⟩) hHeld ?_
        rotate_left
        · (intro W hSw;go_simp<;>with_reducible rfl)
        try simp only[Act.put,List.setIfInBounds_toArray,List.set_cons_zero,List.set_cons_succ]
        refine wpAnyH_done (by kernel_rfl) ?_ _
        go_wp2;go_ret;exact⟨_,rfl,⟨_,hk,HK.out,HE.out,HO.out⟩,hb5⟩
      · by_cases hcc:cap=N.length
        all_goals
         go_wp2_with fail;refine wp_region_held_drew (S:=fun _=>True) (by kernel_rfl) trivial (fun hHeld=>?_)
         refine wpAnyH_take (i:=0) (oi:=⟨some 24,Op.move (Operand.tmp 0),69,_,_,none⟩) (v:=?_) rfl (by kernel_rfl) (by kernel_rfl) (by kernel_rfl) (fun _ _ _ h=>h) (Or.inl ⟨by rfl,?_⟩) hHeld ?_
         rotate_left
         · (intro W hSw;go_simp<;>with_reducible rfl)
         try simp only[Act.put,List.setIfInBounds_toArray,List.set_cons_zero,List.set_cons_succ]
         refine wpAnyH_take (i:=1) (oi:=⟨some 25,Op.move (Operand.tmp 5),3,_,_,none⟩) (v:=?_) rfl (by kernel_rfl) (by kernel_rfl) (by kernel_rfl) (fun _ _ _ h=>h) (Or.inl ⟨by rfl,?_⟩) hHeld ?_
         rotate_left
         · (intro W hSw;go_simp<;>with_reducible rfl)
         try simp only[Act.put,List.setIfInBounds_toArray,List.set_cons_zero,List.set_cons_succ]
         refine wpAnyH_take (i:=2) (oi:=⟨some 26,Op.move (Operand.tmp 5),3,_,_,none⟩) (v:=?_) rfl (by kernel_rfl) (by kernel_rfl) (by kernel_rfl) (fun _ _ _ h=>h) (Or.inl ⟨by rfl,?_⟩) hHeld ?_
         rotate_left
         · (intro W hSw;go_simp<;>with_reducible rfl)
         try simp only[Act.put,List.setIfInBounds_toArray,List.set_cons_zero,List.set_cons_succ]
         refine wpAnyH_take (i:=3) (oi:=⟨some 27,Op.slice 69 (Operand.tmp 24) none (some (Operand.tmp 25)) (some (Operand.tmp 26)),69,_,_,none⟩) (v:=?_) rfl (by kernel_rfl) (by kernel_rfl) (by kernel_rfl) (fun _ _ _ h=>h) (Or.inl ⟨by rfl,?_⟩) hHeld ?_
         rotate_left
         · (intro W hSw;go_simp<;>with_reducible rfl)
         try simp only[Act.put,List.setIfInBounds_toArray,List.set_cons_zero,List.set_cons_succ]
         refine wpAnyH_take (i:=4) (oi:=⟨some 28,Op.move (Operand.tmp 1),9,_,_,none⟩) (v:=?_) rfl (by kernel_rfl) (by kernel_rfl) (by kernel_rfl) (fun _ _ _ h=>h) (Or.inl ⟨by rfl,?_⟩) hHeld ?_
         rotate_left
         · (intro W hSw;go_simp<;>with_reducible rfl)
         try simp only[Act.put,List.setIfInBounds_toArray,List.set_cons_zero,List.set_cons_succ]
         refine wpAnyH_take (i:=6) (oi:=⟨some 30,Op.move (Operand.tmp 0),69,_,_,none⟩) (v:=?_) rfl (by kernel_rfl) (by kernel_rfl) (by kernel_rfl) (fun _ _ _ h=>h) (Or.inl ⟨by rfl,?_⟩) hHeld ?_
         rotate_left
         · (intro W hSw;go_simp<;>with_reducible rfl)
         try simp only[Act.put,List.setIfInBounds_toArray,List.set_cons_zero,List.set_cons_succ]
         refine wpAnyH_take (i:=7) (oi:=⟨some 31,Op.move (Operand.tmp 5),3,_,_,none⟩) (v:=?_) rfl (by kernel_rfl) (by kernel_rfl) (by kernel_rfl) (fun _ _ _ h=>h) (Or.inl ⟨by rfl,?_⟩) hHeld ?_
         rotate_left
         · (intro W hSw;go_simp<;>with_reducible rfl)
         try simp only[Act.put,List.setIfInBounds_toArray,List.set_cons_zero,List.set_cons_succ]
         refine wpAnyH_take (i:=8) (oi:=⟨some 32,Op.slice 69 (Operand.tmp 30) (some (Operand.tmp 31)) none none,69,_,_,none⟩) (v:=?_) rfl (by kernel_rfl) (by kernel_rfl) (by kernel_rfl) (fun _ _ _ h=>h) (Or.inl ⟨by rfl,?_⟩) hHeld ?_
         rotate_left
         · (intro W hSw;go_simp<;>with_reducible rfl)
         try simp only[Act.put,List.setIfInBounds_toArray,List.set_cons_zero,List.set_cons_succ]
         refine wpAnyH_ready (rs:=[5]) (by kernel_rfl) (by simp) ?_
         refine AllReadyH.cons (o:=⟨some 29,Op.buildSlice 69 1 #[(0,Operand.tmp 28)],69,_,_,none⟩) rfl (fun K hK=>?_) AllReadyH.nil
         go_simp
         refine hK.out _ _ trivial (fun hHeld=>?_)
         clear hK K;try simp only[Act.put,List.setIfInBounds_toArray,List.set_cons_zero,List.set_cons_succ]
         refine wpAnyH_ready (rs:=[9]) (by kernel_rfl) (by simp) ?_
         refine AllReadyH.cons (o:=⟨some 33,Op.call ⟨Callee.builtin Builtin.append,#[Operand.tmp 29,Operand.tmp 32],#[69,69]⟩,69,_,_,none⟩) rfl (fun K hK=>?_) AllReadyH.nil
         go_simp
         refine hK.out _ _ trivial (fun hHeld=>?_)
         clear hK K;try simp only[Act.put,List.setIfInBounds_toArray,List.set_cons_zero,List.set_cons_succ]
         refine wpAnyH_ready (rs:=[10]) (by kernel_rfl) (by simp) ?_
         refine AllReadyH.cons (o:=⟨some 34,Op.call ⟨Callee.builtin Builtin.append,#[Operand.tmp 27,Operand.tmp 33],#[69,69]⟩,69,_,_,none⟩) rfl (fun K hK=>?_) AllReadyH.nil
         refine step_append_grows rfl (.tmp 27) (.tmp 33) 69 rfl 9 i1 (.string ⟨#[]⟩) 1 16 Tryz.underlying69 hj0 hy0 hy1 hy2 rfl (by decide) _ _ _ (Pp.vs N) rfl HNONE.out (by simp[Pp.vs]) (HV.out.cells hbN) ⟨wr.heap.size,0,none⟩ 1 1 [.string s] rfl rfl (by intro j u hj;match j,hj with|0,hj=>simp at hj;subst hj;simp[Addr.add]|j+1,hj=>simp at hj) (by intro u hu;simp at hu;subst hu;rfl) (by first|omega|(simp;omega)) (by unfold maxLen;omega) (by omega) ?_
         intro v5 w5 ho5 hgr5;have hb5:Below w.heap.size w w5:=hbN.grown hgr5 hbN.size (fun k hk=>by cases hk);have e1:Pp.vs N++[.string s]=Pp.vs (N.take N.length++s.data.toList::N.drop N.length):=by rw[List.take_length,List.drop_length,←Pp.vs_snoc,Mg.bytes_self]
         rw[e1]at ho5;have hl5:(N.take N.length++s.data.toList::N.drop N.length).length=N.length+1:=by rw[List.take_length,List.drop_length,List.length_append];rfl
         rw[←hl5]at ho5;have HO:Hid (LiesT w5 v5 (N.take N.length++s.data.toList::N.drop N.length)):=liesT_own ho5 (by rw[hl5];omega);clear ho5 hgr5 e1 hl5;refine hK.out _ _ trivial (fun hHeld=>?_)
         clear hK K;try simp only[Act.put,List.setIfInBounds_toArray,List.set_cons_zero,List.set_cons_succ]
         refine wpAnyH_take (i:=11) (oi:=⟨some 4,Op.assign (Operand.tmp 34),69,_,_,none⟩) (v:=?_) rfl (by kernel_rfl) (by kernel_rfl) (by kernel_rfl) (fun _ _ _ h=>h) (Or.inl ⟨by rfl,?_⟩) hHeld ?_
         rotate_left
         · (intro W hSw;go_simp<;>with_reducible rfl)
         try simp only[Act.put,List.setIfInBounds_toArray,List.set_cons_zero,List.set_cons_succ]
         refine wpAnyH_done (by kernel_rfl) ?_ _
         go_wp2;go_ret;exact⟨_,rfl,⟨_,hk,HK.out,HE.out,HO.out⟩,hb5⟩
end Go.Proofs.YtagibnejodgeeaaGreatDoor
namespace Go.Proofs.YtagibnejodgeeaaGreatDoor
open Go.RowKit Go.Maps

set_option maxRecDepth 100000 in
set_option maxHeartbeats 1000000 in
theorem putText_there (N:List (List UInt8)) (v:Value) (s:ByteArray) (w:World) (hv:LiesT w v N) (hN:s.data.toList∈N):
    Calls Tryz.prog 41 #[v,.string s] w fun e w'=>e= .returned v∧Below w.heap.size w w':=by
 have HV:=hid hv;have HN:=hid (show decide (s.data.toList∈N)=true from by simpa using hN);obtain⟨a,cap,rfl,_⟩:=hv
 go_enter Tryz.func41,Tryz.ntmps41
 go_wp2_with fail;refine(hasText_any N _ s _ HV.out).mono ?_
 rintro e w1 ⟨rfl,hb1⟩;rw[HN.out];go_wp2_with fail;go_ret;exact⟨rfl,hb1⟩
theorem putText_any (X:List En) (e:En) (v:Value) (w:World) (hv:LiesT w v (Mg.pths X)) (hr:Sp.Rise X) (hn:X.length≤1000):
    Calls Tryz.prog 41 #[v,.string e.path] w fun ex w'=> ∃u,ex= .returned u∧LiesT w' u (Mg.pths (Sp.put1 e X))∧Below w.heap.size w w':=by
 by_cases h:e.path.data.toList∈Mg.pths X
 · refine(putText_there _ v e.path w hv h).mono ?_
   rintro ex w' ⟨rfl,hb⟩;exact⟨v,rfl,by rw[Mg.pths_there hr h];exact hv.below hb,hb⟩
 · have hl:(Mg.pths X).length=X.length:=by rw[Mg.pths,List.length_map]
   refine(putText_new _ v e.path w hv (by rw[hl];exact hn) h).mono ?_
   rintro ex w' ⟨u,rfl,⟨k,h1,h2,h3,h4⟩,hb⟩;refine⟨u,rfl,?_,hb⟩
   have hk:k≤X.length:=by omega
   rw[Mg.pths_new hr h hk (fun i hi=>by
    have:=h2 i hi (by omega)
    simpa[Mg.pths]using this) (fun hk2=>by
    have:=h3 (by omega)
    simpa[Mg.pths]using this)]
   exact h4
end Go.Proofs.YtagibnejodgeeaaGreatDoor
