/- Paths in order: comparing, and that a rising list is known by its entries. -/
import Derived.Test.YtlllcifehellpaaGreatDoorCKA
import Derived.Lib.Bytealg
import Derived.Lib.SmallJoins
set_option linter.unusedSimpArgs false
set_option linter.unusedVariables false
namespace Go.Proofs.YtlllcifehellpaaGreatDoor.Pp

theorem cmp_self: ∀a:List UInt8,Lib.compareBytes a a=0
 |[]=>rfl
 |a::r=>by simp[Lib.compareBytes,cmp_self r]
theorem cmp_anti: ∀a b:List UInt8,Lib.compareBytes b a= -Lib.compareBytes a b
 |[],[]=>rfl
 |[],_::_=>rfl
 |_::_,[]=>rfl
 |a::r,b::s=>by
  rw[Lib.compareBytes,Lib.compareBytes];by_cases h1:a<b
  · have h2: ¬b<a:=fun h=>by rw[UInt8.lt_iff_toNat_lt]at h h1;omega
    simp[h1,h2]
  · by_cases h2:b<a
    · simp[h1,h2]
    · simp[h1,h2,cmp_anti r s]
theorem cmp_zero: ∀a b:List UInt8,Lib.compareBytes a b=0→a=b
 |[],[],_=>rfl
 |[],_::_,h=>by simp[Lib.compareBytes]at h
 |_::_,[],h=>by simp[Lib.compareBytes]at h
 |a::r,b::s,h=>by
  rw[Lib.compareBytes]at h;by_cases h1:a<b
  · simp[h1]at h
  · by_cases h2:b<a
    · simp[h1,h2]at h
    · simp only[h1,h2,if_false]at h
      have e:a=b:=UInt8.toNat_inj.1 (by rw[UInt8.lt_iff_toNat_lt]at h1 h2;omega);rw[e,cmp_zero r s h]
theorem cmp_trans: ∀a b c:List UInt8,Lib.compareBytes a b<0→Lib.compareBytes b c<0→Lib.compareBytes a c<0
 |[],[],_,h,_=>by simp[Lib.compareBytes]at h
 |_,_::_,[],_,h=>by simp[Lib.compareBytes]at h
 |_::_,[],_,h,_=>by simp[Lib.compareBytes]at h
 |[],_::_,_::_,_,_=>by simp[Lib.compareBytes]
 |a::r,b::s,c::t,h1,h2=>by
  rw[Lib.compareBytes]at h1 h2⊢;simp only[UInt8.lt_iff_toNat_lt]at*;by_cases x1:a.toNat<b.toNat
  · by_cases y1:b.toNat<c.toNat
    · rw[if_pos (by omega)];omega
    · by_cases y2:c.toNat<b.toNat
      · rw[if_neg y1,if_pos y2]at h2;omega
      · rw[if_pos (by omega)];omega
  · by_cases x2:b.toNat<a.toNat
    · rw[if_neg x1,if_pos x2]at h1;omega
    · rw[if_neg x1,if_neg x2]at h1
      by_cases y1:b.toNat<c.toNat
      · rw[if_pos (by omega)];omega
      · by_cases y2:c.toNat<b.toNat
        · rw[if_neg y1,if_pos y2]at h2;omega
        · rw[if_neg y1,if_neg y2]at h2
          rw[if_neg (by omega),if_neg (by omega)];exact cmp_trans r s t h1 h2
theorem less_cmp: ∀a b:List UInt8,Op.bytesLess a b=decide (Lib.compareBytes a b<0)
 |[],[]=>by simp[Op.bytesLess,Lib.compareBytes]
 |[],_::_=>by simp[Op.bytesLess,Lib.compareBytes]
 |_::_,[]=>by simp[Op.bytesLess,Lib.compareBytes]
 |a::r,b::s=>by
  have ih:=less_cmp r s;rw[Lib.compareBytes];by_cases h1:a<b
  · simp[Op.bytesLess,h1]
  · by_cases h2:b<a
    · simp[Op.bytesLess,h1,h2];try (intro e;subst e;exact absurd h2 (by simp))
    · have e:a=b:=UInt8.toNat_inj.1 (by rw[UInt8.lt_iff_toNat_lt]at h1 h2;omega)
      subst e;simp[Op.bytesLess,ih]
def cfE (x y:En):Int:=Lib.compareBytes x.path.data.toList y.path.data.toList
theorem lt_cfE (x y:En):lt x y=decide (cfE x y<0):=by rw[lt,less_cmp,Lib.toList_data,Lib.toList_data];rfl
theorem lt_irrefl (x:En):lt x x=false:=by rw[lt_cfE,cfE,cmp_self];rfl
theorem lt_trans (x y z:En) (h1:lt x y=true) (h2:lt y z=true):lt x z=true:=by
 rw[lt_cfE]at*;simp only[decide_eq_true_eq]at*;exact cmp_trans _ _ _ h1 h2
theorem lt_ntrans (x y z:En) (h1:lt x y=false) (h2:lt y z=false):lt x z=false:=by
 rw[lt_cfE,decide_eq_false_iff_not]at h1 h2⊢;unfold cfE at h1 h2⊢;intro h;have a1:=cmp_anti x.path.data.toList y.path.data.toList;have a2:=cmp_anti y.path.data.toList z.path.data.toList;by_cases e1:Lib.compareBytes x.path.data.toList y.path.data.toList=0
 · rw[cmp_zero _ _ e1]at h;exact h2 h
 · by_cases e2:Lib.compareBytes y.path.data.toList z.path.data.toList=0
   · rw[←cmp_zero _ _ e2]at h;exact h1 h
   · have:=cmp_trans _ _ _ (show Lib.compareBytes z.path.data.toList y.path.data.toList<0 by omega) (show Lib.compareBytes y.path.data.toList x.path.data.toList<0 by omega)
     have a3:=cmp_anti x.path.data.toList z.path.data.toList;omega
/-- Neither before the other: one path. -/
theorem lt_same {x y:En} (h1:lt x y=false) (h2:lt y x=false):x.path.data.toList=y.path.data.toList:=by
 rw[lt_cfE,decide_eq_false_iff_not]at h1 h2;unfold cfE at h1 h2;have a1:=cmp_anti x.path.data.toList y.path.data.toList;exact cmp_zero _ _ (by omega)
/-- Two lists in strict order that have the same entries are one. -/
theorem sorted_eq: ∀{a b:List En},a.Perm b→a.Pairwise (fun x y=>lt x y=true)→b.Pairwise (fun x y=>lt x y=true)→a=b
 |[],b,h,_,_=>by rw[List.nil_perm]at h;exact h.symm
 |x::r,b,h,h1,h2=>by
  cases b with
  |nil=>exact absurd h.length_eq (by simp)
  |cons y s=>
   have e:x=y:=by
    have hx:x∈y::s:=h.subset (List.mem_cons_self ..);have hy:y∈x::r:=h.symm.subset (List.mem_cons_self ..);rcases List.mem_cons.1 hx with e|hx
    · exact e
    · rcases List.mem_cons.1 hy with e|hy
      · exact e.symm
      · have l1:=(List.pairwise_cons.1 h1).1 y hy
        have l2:=(List.pairwise_cons.1 h2).1 x hx;have:=lt_trans x y x l1 l2
        rw[lt_irrefl]at this;cases this
   subst e;rw[sorted_eq (List.perm_cons x|>.1 h) (List.pairwise_cons.1 h1).2 (List.pairwise_cons.1 h2).2]
theorem rises_pair: ∀(L:List En),risesB L=true↔L.Pairwise (fun x y=>lt x y=true)
 |[]=>by simp[risesB]
 |[_]=>by simp[risesB]
 |a::b::r=>by
  rw[risesB,Bool.and_eq_true,rises_pair (b::r)];constructor
  · rintro ⟨h1,h2⟩
    refine List.pairwise_cons.2 ⟨fun x hx=>?_,h2⟩
    rcases List.mem_cons.1 hx with rfl|hx
    · exact h1
    · exact lt_trans a b x h1 ((List.pairwise_cons.1 h2).1 x hx)
  · intro h
    have h:=List.pairwise_cons.1 h;exact⟨h.1 b (by simp),h.2⟩
/-- Where an entry belongs. -/
def ins (x:En):List En→List En
 |[]=>[x]
 |y::r=>if lt y x=true then y::ins x r else x::y::r
theorem ins_perm (x:En): ∀L:List En,(ins x L).Perm (x::L)
 |[]=>List.Perm.refl _
 |y::r=>by
  rw[ins];split
  · exact((ins_perm x r).cons y).trans (List.Perm.swap x y r)
  · exact List.Perm.refl _
theorem ins_sorted (x:En): ∀{L:List En},L.Pairwise (fun x y=>lt x y=true)→(∀y∈L,y.path.data.toList≠x.path.data.toList)→(ins x L).Pairwise (fun x y=>lt x y=true)
 |[],_,_=>by simp[ins]
 |y::r,h,hne=>by
  rw[ins];split
  · rename_i hy
    rw[List.pairwise_cons];refine⟨fun z hz=>?_,ins_sorted x (List.pairwise_cons.1 h).2 fun z hz=>hne z (List.mem_cons_of_mem _ hz)⟩
    rcases List.mem_cons.1 ((ins_perm x r).subset hz)with rfl|hz
    · exact hy
    · exact(List.pairwise_cons.1 h).1 z hz
  · rename_i hy
    have hyf:lt y x=false:=by simpa using hy
    have hxy:lt x y=true:=by
     cases e:lt x y with
     |true=>rfl
     |false=>exact absurd (lt_same hyf e) (hne y (by simp))
    rw[List.pairwise_cons];refine⟨fun z hz=>?_,h⟩
    rcases List.mem_cons.1 hz with rfl|hz
    · exact hxy
    · exact lt_trans x y z hxy ((List.pairwise_cons.1 h).1 z hz)
/-- What a sort by paths gives, where an entry came behind entries in order that are at other paths. -/
theorem sort_ins {x:En} {L M:List En} (hp:M.Perm (L++[x])) (hM:M.Pairwise (fun a b=>lt b a=false)) (hL:L.Pairwise (fun x y=>lt x y=true)) (hne: ∀y∈L,y.path.data.toList≠x.path.data.toList):M=ins x L:=by
 have hI:=ins_sorted x hL hne;have hperm:M.Perm (ins x L):=hp.trans ((List.perm_append_singleton x L).trans (ins_perm x L).symm);refine sorted_eq hperm ?_ hI
 have hnd:(ins x L).Pairwise (fun a b=>a.path.data.toList≠b.path.data.toList):=hI.imp fun {a b} h e=>by
  have:lt a b=lt a a:=by rw[lt_cfE,lt_cfE];unfold cfE;rw[←e]
  rw[this,lt_irrefl]at h;cases h
 have hnd2:M.Pairwise (fun a b=>a.path.data.toList≠b.path.data.toList):=hperm.symm.pairwise hnd (fun h e=>h e.symm);have hboth:=hM.and hnd2;refine hboth.imp fun {a b} h=>?_
 cases e:lt a b with
 |true=>rfl
 |false=>exact absurd (lt_same e h.1) h.2
end Go.Proofs.YtlllcifehellpaaGreatDoor.Pp
namespace Go.Proofs.YtlllcifehellpaaGreatDoor
open Go.RowKit

theorem ghid {p:Prop} (h:p):Hid p:=h
namespace Pp
theorem name_no47 {l:List UInt8} (h:nameB l=true):47∉l:=by
 intro h47
 have h1: ∀c∈l,okB c=true:=by
  simp only[nameB,Bool.and_eq_true,List.all_eq_true]at h;first|exact h.1|exact h.1.1|exact h.1.1.1|exact h.1.1.1.1|exact h.1.1.1.1.1|exact h.1.1.1.1.1.1|exact fun c hc=>(h.1 c hc)|simp_all
 exact absurd (h1 47 h47) (by decide)
theorem name_len {l:List UInt8} (h:nameB l=true):l.length≤20:=by
 simp only[nameB,Bool.and_eq_true,decide_eq_true_eq]at h;omega
theorem name_chk {l:List UInt8} (h:nameB l=true):chk l=0:=by
 have hn:nm l=[l]:=nm_none l (name_no47 h);have ha:(nm l).all nameB=true:=by rw[hn];simp[h]
 rw[chk_big ha,if_neg];have:=name_len h
 simp[big,hn]
 omega
/-- 1: a text is no name. -/
def nmE (l:List UInt8):Int:=if nameB l=true then 0 else 1
def nmsE (ns:List ByteArray):Int:=if(ns.all fun s=>nameB s.data.toList)=true then 0 else 1
end Pp

set_option maxHeartbeats 400000 in
theorem join0_any (s:ByteArray) (w:World) (hs:s.size≤1000000000000000):
    Calls Tryz.prog 89 #[.string ⟨#[]⟩,.string s] w fun e w'=> ∃u,e= .returned (.tuple #[u,.int .i64 (Pp.nmE s.data.toList)])∧Below w.heap.size w w':=by
 have hm:s.size≤maxLen:=by unfold maxLen;omega
 cases hn:Pp.nameB s.data.toList with
 |true=>
  have HN:=ghid hn;have HC:=ghid (Pp.name_chk hn);have HE:=hid (show Pp.nmE s.data.toList=0 from if_pos hn);have HJ:=hid (show(⟨(Pp.jn [] s.data.toList).toArray⟩:ByteArray)=s from by rw[Pp.jn,if_pos rfl]);clear hn;go_enter Tryz.func89,Tryz.ntmps89
  go_wp2_with fail;refine(isName_any s _ hm).mono ?_
  rintro e w1 ⟨rfl,hw⟩;rw[hw,HN.out];clear hw w1;go_wp2_with fail;refine(joined_any ⟨#[]⟩ s _ (by decide) hs).mono ?_
  rintro e w2 ⟨rfl,hw⟩;rw[hw,show(⟨(Pp.jn (⟨#[]⟩:ByteArray).data.toList s.data.toList).toArray⟩:ByteArray)=s from HJ.out];clear hw w2;go_wp2_with fail;refine(checked_ok s _ hs HC.out).mono ?_
  rintro e w3 ⟨rfl,hb3⟩;go_wp2;go_ret2;exact⟨_,by rw[HE.out];rfl,hb3⟩
 |false=>
  have HN:=ghid hn;have HE:=hid (show Pp.nmE s.data.toList=1 from if_neg (by rw[hn];decide));clear hn;go_enter Tryz.func89,Tryz.ntmps89
  go_wp2_with fail;refine(isName_any s _ hm).mono ?_
  rintro e w1 ⟨rfl,hw⟩;rw[hw,HN.out];clear hw w1;go_wp2_with fail;go_ret2;exact⟨_,by rw[HE.out];rfl,Below.refl _ _⟩
set_option maxHeartbeats 1000000 in
theorem names_any (ns:List ByteArray) (g o cap:Nat) (w:World) (hg:g<w.heap.size) (hs: ∀i (h:i<ns.length),(ns[i]).size≤1000000000000000) (hl:ns.length≤1000) (hc: ∀i (h:i<ns.length),w.cell? ⟨g,o+i,none⟩=some (.string ns[i])):
    Calls Tryz.prog 66 #[.slice (some ⟨g,o,none⟩) ns.length cap] w fun e w'=>e= .returned (.int .i64 (Pp.nmsE ns))∧Below w.heap.size w w':=by
 have HC:=ghid hc;have HS:=ghid hs;clear hc hs;go_enter Tryz.func66,Tryz.ntmps66
 have HX:=hid (show∀k (h:k<ns.length),(∀j (h:j<ns.length),j<k→Pp.nameB (ns[j]).data.toList=true)→Pp.nameB (ns[k]).data.toList=false→(ns.all fun s=>Pp.nameB s.data.toList)=false from fun k h _ hk=>List.all_eq_false.2 ⟨ns[k],List.getElem_mem h,by rw[hk];decide⟩)
 have HY:=hid (show(∀j (h:j<ns.length),Pp.nameB (ns[j]).data.toList=true)→(ns.all fun s=>Pp.nameB s.data.toList)=true from fun h=>List.all_eq_true.2 fun x hx=>by
  obtain⟨j,hj,rfl⟩:=List.getElem_of_mem hx
  exact h j hj)
 go_wp2_with fail;go_loopw [9] (fun i wr=> ∃k:Nat,k≤ns.length∧i= .int .i64 k∧Hid (∀j (h:j<ns.length),j<k→Pp.nameB (ns[j]).data.toList=true)∧Below w.heap.size w wr) (fun i _=>ns.length-(intOf i).toNat)
 case atStart=>exact⟨0,Nat.zero_le _,rfl,(fun j _ h=>absurd h (Nat.not_lt_zero _): ∀j (h:j<ns.length),j<0→Pp.nameB (ns[j]).data.toList=true),Below.refl _ _⟩
 case round=>
  obtain⟨k,hk,rfl,HP,hbel⟩:=hrel
  by_cases hlt:k<ns.length
  · have c0:=(hbel.cell (p:=⟨g,o+k,none⟩) hg).trans (HC.out k hlt)
    go_wp2_with fail;refine(join0_any ns[k] _ (HS.out k hlt)).mono ?_
    rintro e w1 ⟨u,rfl,hb1⟩;have hbel1:=below_trans hbel hb1;clear hbel hb1 c0;cases hn:Pp.nameB (ns[k]).data.toList with
    |true=>
     rw[Pp.nmE,if_pos hn]
     have HP2:=hid (show∀j (h:j<ns.length),j<k+1→Pp.nameB (ns[j]).data.toList=true from fun j h1 h2=>by
      by_cases e:j=k
      · subst e;exact hn
      · exact HP.out j h1 (by omega))
     clear hn;go_wp2_with fail;go_roundw
     case rel=>exact⟨k+1,by omega,by simp,HP2,hbel1⟩
     case measure=>simp[intOf];omega
    |false=>
     rw[Pp.nmE,if_neg (by rw[hn];decide)];have HE:=hid (show(1:Int)=Pp.nmsE ns from by rw[Pp.nmsE,if_neg (by rw[HX.out k hlt HP.out hn];decide)]);clear hn;go_wp2_with fail;go_ret;exact⟨Pp.ret_int HE.out,hbel1⟩
  · have HE:=hid (show(0:Int)=Pp.nmsE ns from by rw[Pp.nmsE,if_pos (HY.out (fun j h=>HP.out j h (by omega)))])
    go_wp2_with fail;go_ret;exact⟨Pp.ret_int HE.out,hbel⟩
end Go.Proofs.YtlllcifehellpaaGreatDoor
namespace Go.Proofs.YtlllcifehellpaaGreatDoor.Pp

/-- A change: its kind, its path, where to, its text, its base. -/
structure Ch where
 k:Int
 p:ByteArray
 q:ByteArray
 t:ByteArray
 b:Int
def chgE (c:Ch):Int:=
 if c.k<1∨4<c.k then 7 else if¬chk c.p.data.toList=0 then chk c.p.data.toList
 else if c.k=3∧ ¬chk c.q.data.toList=0 then chk c.q.data.toList
 else if(¬c.k=3∧ ¬c.q.data.toList=[])∨(¬c.k=2∧ ¬c.t.data.toList=[])then 1
 else if 300<c.t.size then 2 else if c.b< -1∨1000000<c.b then 3 else 0
def goal (c:Ch):List UInt8:=if c.k=3 then c.q.data.toList else c.p.data.toList
def plcE (L:List En) (c:Ch):Int:=
 if¬foldE L (par (goal c))=0 then foldE L (par (goal c))else match L.find? (atB c.p.data.toList)with
 |none=>if c.k=3∨c.k=4 then 5 else 0
 |some x=>if c.k=1 then 6 else if c.k=2 then(if x.folder=true then 4 else 0)
  else if c.k=3 then(if isInB c.q.data.toList c.p.data.toList=true then 3 else if(L.find? (atB c.q.data.toList)).isSome=true then 6 else 0)else 0
/-- Is an entry at a path, or within? -/
def wi (q:List UInt8) (e:En):Bool:=isInB e.path.data.toList q
def stW (q:List UInt8) (b:Int) (e:En):Bool:=decide (b<e.ver) && wi q e
def stl (L:List En) (c:Ch):Bool:= !(c.b== -1) && L.any (stW c.p.data.toList c.b)
def newE (c:Ch) (n:Int):En:=⟨c.p,decide (c.k=1),c.t,n⟩
def outE (x:En) (L:List En):List En:=L.filter (fun e=> !atB x.path.data.toList e)
def keptL (L:List En) (c:Ch):List En:=L.filter (fun e=> !wi c.p.data.toList e)
def mvP (c:Ch) (e:En):List UInt8:=mvT e.path.data.toList c.p.data.toList c.q.data.toList
def mvd (c:Ch) (n:Int) (e:En):En:=⟨⟨(mvP c e).toArray⟩,e.folder,e.text,if e.path.data.toList=c.p.data.toList then n else e.ver⟩
def goL (L:List En) (c:Ch):List En:=L.filter (wi c.p.data.toList)
def mvL (L:List En) (c:Ch) (n:Int):List En:=(goL L c).map (mvd c n)
def insAll (ms K:List En):List En:=ms.foldl (fun a x=>ins x a) K
def chdE (L:List En) (c:Ch) (n:Int):Int:=
 if c.k=1∨c.k=2 then(if 60<(outE (newE c n) L).length+1 then 2 else 0)
 else if c.k=3 then(if(goL L c).any (fun e=>big (mvP c e))=true then 2 else 0)else 0
def chdR (L:List En) (c:Ch) (n:Int):List En:=
 if c.k=1∨c.k=2 then ins (newE c n) (outE (newE c n) L)
 else if c.k=3 then insAll (mvL L c n) (keptL L c)else keptL L c
def appE (L:List En) (c:Ch) (n:Int):Int:=
 if¬verE n=0 then verE n else if¬chgE c=0 then chgE c else if¬plcE L c=0 then plcE L c else if stl L c=true then 8 else chdE L c n
theorem insAll_perm: ∀(ms K:List En),(insAll ms K).Perm (K++ms)
 |[],K=>by simp[insAll]
 |x::r,K=>by
  have h:=insAll_perm r (ins x K);refine(show insAll (x::r) K=insAll r (ins x K)from rfl)▸h.trans ?_
  refine((ins_perm x K).append_right r).trans ?_
  exact(List.perm_middle (l₁:=K) (a:=x) (l₂:=r)).symm
def dif (a b:En):Prop:=a.path.data.toList≠b.path.data.toList
theorem dif_symm {a b:En} (h:dif a b):dif b a:=fun e=>h e.symm
theorem lt_dif {a b:En} (h:lt a b=true):dif a b:=fun e=>by
 have:lt a b=lt a a:=by rw[lt_cfE,lt_cfE];unfold cfE;rw[←e]
 rw[this,lt_irrefl]at h;cases h
theorem insAll_sorted: ∀(ms:List En) {K:List En},K.Pairwise (fun x y=>lt x y=true)→(K++ms).Pairwise dif→(insAll ms K).Pairwise (fun x y=>lt x y=true)
 |[],K,h,_=>h
 |x::r,K,h,hd=>by
  have hd2:=List.pairwise_append.1 hd;refine insAll_sorted r (K:=ins x K) (ins_sorted x h fun y hy=>hd2.2.2 y hy x (by simp)) ?_
  have hp:(K++x::r).Perm (ins x K++r):=(List.perm_middle (l₁:=K) (a:=x) (l₂:=r)).trans ((ins_perm x K).symm.append_right r);exact hp.pairwise hd (fun h=>dif_symm h)
/-- What a sort by paths gives, where entries came behind entries in order, all at other paths. -/
theorem sort_all {ms K M:List En} (hp:M.Perm (K++ms)) (hM:M.Pairwise (fun a b=>lt b a=false)) (hK:K.Pairwise (fun x y=>lt x y=true)) (hd:(K++ms).Pairwise dif):M=insAll ms K:=by
 refine sorted_eq (hp.trans (insAll_perm ms K).symm) ?_ (insAll_sorted ms hK hd)
 have hnd:M.Pairwise dif:=hp.symm.pairwise hd (fun h=>dif_symm h);refine(hM.and hnd).imp fun {a b} h=>?_
 cases e:lt a b with
 |true=>rfl
 |false=>exact absurd (lt_same e h.1) h.2
theorem last_split {l:List UInt8} (h:47∈l): ∃a b,47∉b∧l=a++47::b:=by
 obtain⟨a,b,ha,e⟩:=split_at l.reverse 47 (by simpa using h)
 refine⟨b.reverse,a.reverse,by simpa using ha,?_⟩
 have:=congrArg List.reverse e
 simpa using this
/-- A tree that passes Check. -/
structure Good (L:List En):Prop where
 len:L.length≤60
 ents: ∀e∈L,entE e=0
 rise:L.Pairwise (fun x y=>lt x y=true)
 pars: ∀e∈L,foldE L (par e.path.data.toList)=0
theorem ents_zero {L:List En} (h: ∀e∈L,entE e=0):entsE L=0:=by
 induction L with
 |nil=>rfl
 |cons a r ih=>rw[entsE,if_pos (h a (by simp))];exact ih fun e he=>h e (by simp[he])
theorem good_iff (L:List En):treeE L=0↔Good L:=by
 constructor
 · intro h
   have h1: ¬60<L.length:=by
    intro h6;rw[treeE,if_pos h6]at h;cases h
   have h2:entsE L=0:=by
    by_cases he:entsE L=0
    · exact he
    · rw[treeE,if_neg h1,if_neg he]at h;exact h
   rw[treeE,if_neg h1,if_pos h2]at h
   have h3:risesB L=true:=by
    cases hr:risesB L with
    |true=>rfl
    |false=>rw[if_neg (by rw[hr];decide)]at h;cases h
   rw[if_pos h3,parsE]at h
   have h5:L.any (fun e=>parF L e==5)=false:=by
    cases hr:L.any (fun e=>parF L e==5)with
    |false=>rfl
    |true=>rw[if_pos hr]at h;cases h
   rw[if_neg (by rw[h5];decide)]at h
   have h4:L.any (fun e=>parF L e==4)=false:=by
    cases hr:L.any (fun e=>parF L e==4)with
    |false=>rfl
    |true=>rw[if_pos hr]at h;cases h
   refine⟨by omega,entsE_all h2,(rises_pair L).1 h3,fun e he=>?_⟩
   have a5: ¬parF L e=5:=fun x=>by
    have:=List.any_eq_false.1 h5 e he;simp[x]at this
   have a4: ¬parF L e=4:=fun x=>by
    have:=List.any_eq_false.1 h4 e he;simp[x]at this
   rcases foldE_range L (par e.path.data.toList)with h|h|h
   · exact h
   · exact absurd h a4
   · exact absurd h a5
 · intro h
   have n5:L.any (fun e=>parF L e==5)=false:=List.any_eq_false.2 fun e he=>by
    have:=h.pars e he;rw[parF,this];decide
   have n4:L.any (fun e=>parF L e==4)=false:=List.any_eq_false.2 fun e he=>by
    have:=h.pars e he;rw[parF,this];decide
   rw[treeE,if_neg (by have:=h.len;omega),if_pos (ents_zero h.ents),if_pos ((rises_pair L).2 h.rise),parsE,if_neg (by rw[n5];decide),if_neg (by rw[n4];decide)]
theorem fold_zero {L:List En} {p:List UInt8} (h:foldE L p=0) (hp:p≠[]): ∃x,x∈L∧x.path.data.toList=p∧x.folder=true∧L.find? (atB p)=some x:=by
 rw[foldE,if_neg hp]at h;cases hf:L.find? (atB p)with
 |none=>rw[hf]at h;cases h
 |some x=>
  rw[hf]at h;have h1:=List.find?_some hf;refine⟨x,List.mem_of_find?_eq_some hf,by simpa[atB]using h1,?_,rfl⟩
  cases hx:x.folder with
  |true=>rfl
  |false=>simp[hx]at h
theorem sorted_find {L:List En} (hr:L.Pairwise (fun x y=>lt x y=true)) {x:En} (hx:x∈L):L.find? (atB x.path.data.toList)=some x:=by
 have hd:L.Pairwise dif:=hr.imp fun h=>lt_dif h
 cases hf:L.find? (atB x.path.data.toList)with
 |none=>have:=List.find?_eq_none.1 hf x hx;simp[atB]at this
 |some y=>
  have h1:y.path.data.toList=x.path.data.toList:=by have:=List.find?_some hf;simpa[atB]using this
  have hy:=List.mem_of_find?_eq_some hf;obtain⟨i,hi,rfl⟩:=List.getElem_of_mem hx
  obtain⟨j,hj,rfl⟩:=List.getElem_of_mem hy
  rw[List.pairwise_iff_getElem]at hd;rcases Nat.lt_trichotomy i j with h|h|h
  · exact absurd h1.symm (hd i j hi hj h)
  · subst h;rfl
  · exact absurd h1 (hd j i hj hi h)
theorem chk_path_ne {l:List UInt8} (h:chk l=0):l≠[]:=by
 intro e;subst e;exact absurd h (by decide)
/-- Whatever is within a path is so by its parents. -/
theorem anc {L:List En} (hp: ∀e∈L,foldE L (par e.path.data.toList)=0) {q:List UInt8} (hq:q≠[]): ∀(n:Nat) (e:En),e∈L→e.path.data.toList.length≤n→isInB e.path.data.toList q=true→ ∃x∈L,x.path.data.toList=q:=by
 intro n;induction n with
 |zero=>
  intro e he hl hi;rcases(isIn_of _ _).1 hi with h|⟨r,h⟩
  · exact⟨e,he,h⟩
  · rw[h]at hl;simp at hl
 |succ n ih=>
  intro e he hl hi;rcases(isIn_of _ _).1 hi with h|⟨r,h⟩
  · exact⟨e,he,h⟩
  · obtain⟨a,b,hb,e2⟩:=last_split (l:=e.path.data.toList) (by rw[h];simp)
    have hpar:par e.path.data.toList=a:=by rw[e2];exact par_cut a hb
    have hf:=hp e he;rw[hpar]at hf
    have hqa:isInB a q=true:=by
     rw[isIn_of];have e3:a++47::b=q++47::r:=e2.symm.trans h;by_cases hr:47∈r
     · obtain⟨r1,r2,hr2,er⟩:=last_split hr
       have:par (a++47::b)=par ((q++47::r1)++47::r2):=by rw[e3,er];simp
       rw[par_cut a hb,par_cut _ hr2]at this;exact Or.inr ⟨r1,this⟩
     · have:par (a++47::b)=par (q++47::r):=by rw[e3]
       rw[par_cut a hb,par_cut _ hr]at this;exact Or.inl this
    have ha:a≠[]:=by
     intro e0;rcases(isIn_of _ _).1 hqa with h|⟨r,h⟩
     · exact hq (h.symm.trans e0)
     · rw[e0]at h;simp at h
    obtain⟨x,hx,hxp,_,_⟩:=fold_zero hf ha
    refine ih x hx ?_ (by rw[hxp];exact hqa)
    rw[hxp];have:e.path.data.toList.length=a.length+b.length+1:=by rw[e2];simp;omega
    omega
theorem anc' {L:List En} (hp: ∀e∈L,foldE L (par e.path.data.toList)=0) {q:List UInt8} (hq:q≠[]) {e:En} (he:e∈L) (hi:isInB e.path.data.toList q=true): ∃x∈L,x.path.data.toList=q:=anc hp hq _ e he (Nat.le_refl _) hi
theorem isIn_refl (p:List UInt8):isInB p p=true:=(isIn_of p p).2 (Or.inl rfl)
theorem isIn_pre {p q:List UInt8} (h:isInB p q=true): ∃s,p=q++s:=by
 rcases(isIn_of p q).1 h with h|⟨r,h⟩
 · exact⟨[],by simpa using h⟩
 · exact⟨_,h⟩
theorem mvT_in {p f t:List UInt8} (h:isInB p f=true):isInB (mvT p f t) t=true:=by
 rcases(isIn_of p f).1 h with h|⟨r,h⟩
 · rw[isIn_of,mvT,h];simp
 · rw[isIn_of,mvT,h];simp
theorem mvT_inj {p p' f t:List UInt8} (h:isInB p f=true) (h':isInB p' f=true) (e:mvT p f t=mvT p' f t):p=p':=by
 obtain⟨s,rfl⟩:=isIn_pre h
 obtain⟨s',rfl⟩:=isIn_pre h'
 simpa[mvT]using e
end Go.Proofs.YtlllcifehellpaaGreatDoor.Pp
namespace Go.Proofs.YtlllcifehellpaaGreatDoor
open Go.RowKit

/-- A change lies at a place: its five cells. -/
def ChAt (w:World) (b o:Nat) (c:Pp.Ch):Prop:=w.cell? ⟨b,o,none⟩=some (.int .i64 c.k)∧w.cell? ⟨b,o+1,none⟩=some (.string c.p)∧w.cell? ⟨b,o+2,none⟩=some (.string c.q)∧w.cell? ⟨b,o+3,none⟩=some (.string c.t)∧w.cell? ⟨b,o+4,none⟩=some (.int .i64 c.b)
def LiesC (w:World) (v:Value) (cs:List Pp.Ch):Prop:= ∃a cap,v= .slice a cs.length cap∧cs.length≤cap∧cs.length≤1000000000000000∧ ∀i (h:i<cs.length),∃b o,a=some ⟨b,o,none⟩∧b<w.heap.size∧ChAt w b (o+i*5) cs[i]
theorem ChAt.below {w w':World} {b o:Nat} {c:Pp.Ch} (h:ChAt w b o c) (hb:b<w.heap.size) (hw:Below w.heap.size w w'):ChAt w' b o c:=
 ⟨(hw.cell (p:=⟨b,o,none⟩) hb).trans h.1,(hw.cell (p:=⟨b,o+1,none⟩) hb).trans h.2.1,(hw.cell (p:=⟨b,o+2,none⟩) hb).trans h.2.2.1,(hw.cell (p:=⟨b,o+3,none⟩) hb).trans h.2.2.2.1,(hw.cell (p:=⟨b,o+4,none⟩) hb).trans h.2.2.2.2⟩
theorem LiesC.below {w w':World} {v:Value} {cs:List Pp.Ch} (h:LiesC w v cs) (hw:Below w.heap.size w w'):LiesC w' v cs:=by
 obtain⟨a,cap,hv,h1,h2,h3⟩:=h
 refine⟨a,cap,hv,h1,h2,fun i hi=>?_⟩
 obtain⟨b,o,ha,hb,he⟩:=h3 i hi
 exact⟨b,o,ha,Nat.lt_of_lt_of_le hb hw.size,he.below hb hw⟩
def SizedC (B:Nat) (cs:List Pp.Ch):Prop:= ∀c∈cs,c.p.size≤B∧c.q.size≤B∧c.t.size≤B
theorem lastIdx_any (s:ByteArray) (c:UInt8) (w:World) (hs:s.size≤1000000000000000):
    Calls Tryz.prog 138 #[.string s,.string ⟨#[c]⟩] w fun e w'=>e= .returned (.int .i64 (Lib.lastIndexByte s (c.toNat:Int)))∧w'=w:=
 Tryz.strings_LastIndex_one s ⟨#[c]⟩ rfl (by omega) w
set_option maxHeartbeats 400000 in
theorem split_any (s:ByteArray) (w:World) (hs:s.size≤1000000000000000):
    Calls Tryz.prog 118 #[.string s] w fun e w'=>e= .returned (.tuple #[.string ⟨(Pp.par s.data.toList).toArray⟩,.string ⟨(Pp.lst s.data.toList).toArray⟩])∧Below w.heap.size w w':=by
 rcases Pp.last_cases s 47 with⟨e,hn⟩|⟨a,b,e,hn,hl⟩
 · have HE:Hid (Lib.lastIndexByte s ((47:UInt8).toNat:Int)= -1):=e
   have HP:=hid (show s.extract 0 0=⟨(Pp.par s.data.toList).toArray⟩from Pp.bytes_eq (by rw[Lib.extract_data,Pp.par_none hn];simp));have HL:=hid (show⟨(Pp.lst s.data.toList).toArray⟩=s from by rw[Pp.lst_none hn]);clear e hn;go_enter Tryz.func118,Tryz.ntmps118
   go_wp2_with fail;refine(lastIdx_any s 47 _ hs).mono ?_
   rintro e w' ⟨rfl,rfl⟩;rw[HE.out];go_wp2_with fail;go_region
   go_wp2;go_ret2;exact⟨by rw[show(max (-1:Int) 0).toNat=0 from rfl,HP.out,HL.out];rfl,(Below.refl _ _).drew⟩
 · have HE:Hid (Lib.lastIndexByte s ((47:UInt8).toNat:Int)=a.length):=e
   have hz:s.size=a.length+b.length+1:=by rw[Lib.size_eq,hl];simp;try omega
   have l1:(a.length:Int)≤s.size:=by omega
   have l2:(a.length:Int)+1≤s.size:=by omega
   have HP:=hid (show s.extract 0 a.length=⟨(Pp.par s.data.toList).toArray⟩from Pp.bytes_eq (by rw[Lib.extract_data,hl,Pp.par_cut a hn];simp));have HL:=hid (show s.extract (a.length+1) s.size=⟨(Pp.lst s.data.toList).toArray⟩from Pp.bytes_eq (by rw[Lib.extract_data,hl,Pp.lst_cut a hn,hz];simp));clear e hn hl hz;go_enter Tryz.func118,Tryz.ntmps118
   go_wp2_with fail;refine(lastIdx_any s 47 _ hs).mono ?_
   rintro e w' ⟨rfl,rfl⟩;rw[HE.out];go_wp2_with fail;go_region
   go_wp2;go_ret2;exact⟨by rw[HP.out,HL.out];rfl,(Below.refl _ _).drew⟩
theorem checkAll1 (s:ByteArray) (ty:TypeId) (w:World) (hs:s.size≤1000000000000000):
    Calls Tryz.prog 113 #[.slice (some ⟨w.heap.size,0,none⟩) 1 1] (w.alloc (.cells #[.string s] ty)) fun e w'=>e= .returned (.int .i64 (Pp.chk s.data.toList))∧Below w.heap.size w w':=by
 refine(checkAll_any [s] w.heap.size 1 _ (by simp) (by simp) (fun i h=>?_) (fun i h=>?_)).mono ?_
 · obtain rfl:i=0:=by simpa using h
   exact hs
 · obtain rfl:i=0:=by simpa using h
   simp
 · rintro e w' ⟨rfl,hb⟩
   refine⟨Pp.ret_int ?_,((Below.refl _ _).alloc (Nat.le_refl _) _).trans (hb.mono (by simp))⟩
   simp only[List.map,Pp.chks];split
   · rename_i h;exact h.symm
   · rfl
set_option maxHeartbeats 400000 in
theorem parent_any (s:ByteArray) (w:World) (hs:s.size≤1000000000000000):
    Calls Tryz.prog 92 #[.string s] w fun e w'=>e= .returned (.tuple #[.string ⟨(Pp.ifc (Pp.chk s.data.toList) (Pp.par s.data.toList)).toArray⟩,.int .i64 (Pp.chk s.data.toList)])∧Below w.heap.size w w':=by
 by_cases hz:Pp.chk s.data.toList=0
 · have HZ:Hid (Pp.chk s.data.toList=0):=hz
   have HR:Hid (Pp.ifc 0 (Pp.par s.data.toList)=Pp.par s.data.toList):=Pp.ifc_yes rfl _;clear hz;go_enter Tryz.func92,Tryz.ntmps92
   go_wp2_with fail;refine(checkAll1 s _ _ hs).mono ?_
   rintro e w1 ⟨rfl,hb1⟩;rw[HZ.out];go_wp2_with fail;refine(split_any s _ hs).mono ?_
   rintro e w2 ⟨rfl,hb2⟩;go_wp2;go_ret2;exact⟨by rw[HZ.out,HR.out];rfl,hb1.trans (hb2.mono hb1.size)⟩
 · have hz2:(Pp.chk s.data.toList==0)=false:=by simpa using hz
   have HR:Hid (Pp.ifc (Pp.chk s.data.toList) (Pp.par s.data.toList)=[]):=Pp.ifc_no hz _;clear hz;go_enter Tryz.func92,Tryz.ntmps92
   go_wp2_with fail;refine(checkAll1 s _ _ hs).mono ?_
   rintro e w1 ⟨rfl,hb1⟩;go_wp2;go_ret2;exact⟨by rw[HR.out];rfl,hb1⟩
namespace Pp
theorem own_below {w w':World} {base:Nat} {e:TypeId} {size:Nat} {v:Value} {n:Nat} {xs:List Value} (h:w.ownsRow base e size v n xs) (hb:Below w.heap.size w w'):w'.ownsRow base e size v n xs:=by
 obtain⟨h1,h2⟩:=h
 refine⟨h1,?_⟩
 rcases h2 with h2|⟨g,cap,cur,hv,hg,hh,r⟩
 · exact .inl h2
 · refine .inr ⟨g,cap,cur,hv,hg,?_,r⟩
   have hlt:g<w.heap.size:=by
    rcases Nat.lt_or_ge g w.heap.size with h|h
    · exact h
    · rw[Array.getElem?_eq_none h]at hh;cases hh
   rw[hb.block g hlt];exact hh
theorem empty_iff (s:ByteArray):s.toList.isEmpty=true↔s.data.toList=[]:=by rw[Lib.toList_data,List.isEmpty_iff]
theorem not_empty {s:ByteArray} (h:s.toList.isEmpty=false): ¬s.data.toList=[]:=by
 intro e;rw[←empty_iff,h]at e;cases e
end Pp


namespace Pp
end Pp
end Go.Proofs.YtlllcifehellpaaGreatDoor
namespace Go.Proofs.YtlllcifehellpaaGreatDoor
open Go.RowKit

set_option maxHeartbeats 400000 in
theorem checkVersion_any (n:Int) (w:World):
    Calls Tryz.prog 81 #[.int .i64 n] w fun e w'=>e= .returned (.int .i64 (Pp.verE n))∧w'=w:=by
 by_cases h1:n<1
 · have H:=hid (show 3=Pp.verE n from by rw[Pp.verE,if_pos (Or.inl h1)])
   go_enter Tryz.func81,Tryz.ntmps81
   go_wp2;go_ret;exact⟨Pp.ret_int H.out,rfl⟩
 by_cases h2:1000000<n
 · have H:=hid (show 3=Pp.verE n from by rw[Pp.verE,if_pos (Or.inr h2)])
   go_enter Tryz.func81,Tryz.ntmps81
   go_wp2;go_ret;exact⟨Pp.ret_int H.out,rfl⟩
 · have H:=hid (show 0=Pp.verE n from by rw[Pp.verE,if_neg (by omega)])
   go_enter Tryz.func81,Tryz.ntmps81
   go_wp2;go_ret;exact⟨Pp.ret_int H.out,rfl⟩
set_option maxHeartbeats 800000 in
theorem checkEntry_any (p:ByteArray) (f:Bool) (t:ByteArray) (n:Int) (w:World) (hp:p.size≤1000000000000000) (ht:t.size≤1000000000000000):
    Calls Tryz.prog 68 #[.agg #[.string p,.bool f,.string t,.int .i64 n]] w fun e w'=>e= .returned (.int .i64 (Pp.entE ⟨p,f,t,n⟩))∧Below w.heap.size w w':=by
 by_cases hz:Pp.chk p.data.toList=0
 · have HZ:Hid (Pp.chk p.data.toList=0):=hz
   have hE:Pp.entE ⟨p,f,t,n⟩=if f=true∧ ¬t.data.toList=[]then 1 else if 300<t.size then 2 else Pp.verE n:=by rw[Pp.entE,if_pos hz]
   clear hz;cases f with
   |true=>
    cases hc:t.toList.isEmpty with
    |false=>
     have HE:=hid (show 1=Pp.entE ⟨p,true,t,n⟩from by rw[hE,if_pos ⟨rfl,Pp.not_empty hc⟩]);clear hE;go_enter Tryz.func68,Tryz.ntmps68
     go_wp2_with fail;refine(check_any p _ hp).mono ?_
     rintro e w1 ⟨rfl,hb1⟩;obtain⟨c0,c1,c2,c3,hb,hlt⟩:=box4 hb1
     clear hb1;rw[HZ.out];go_wp2_with fail;go_ret;exact⟨Pp.ret_int HE.out,hb⟩
    |true=>
     have ht0:t.size=0:=by rw[Lib.size_eq,(Pp.empty_iff t).1 hc];rfl
     have HE:=hid (show Pp.entE ⟨p,true,t,n⟩=Pp.verE n from by rw[hE,if_neg (fun h=>h.2 ((Pp.empty_iff t).1 hc)),if_neg (by omega)]);clear hE;have ht1:(t.size:Int)≤300:=by omega
     clear ht0;go_enter Tryz.func68,Tryz.ntmps68
     go_wp2_with fail;refine(check_any p _ hp).mono ?_
     rintro e w1 ⟨rfl,hb1⟩;obtain⟨c0,c1,c2,c3,hb,hlt⟩:=box4 hb1
     clear hb1;rw[HZ.out];go_wp2_with fail;refine(checkVersion_any n _).mono ?_
     rintro e w2 ⟨rfl,rfl⟩;go_wp2_with fail;go_ret;exact⟨Pp.ret_int HE.out.symm,hb⟩
   |false=>
    by_cases hl:300<(t.size:Int)
    · have HE:=hid (show 2=Pp.entE ⟨p,false,t,n⟩from by rw[hE,if_neg (fun h=>by cases h.1),if_pos (by omega)])
      clear hE;go_enter Tryz.func68,Tryz.ntmps68
      go_wp2_with fail;refine(check_any p _ hp).mono ?_
      rintro e w1 ⟨rfl,hb1⟩;obtain⟨c0,c1,c2,c3,hb,hlt⟩:=box4 hb1
      clear hb1;rw[HZ.out];go_wp2_with fail;go_ret;exact⟨Pp.ret_int HE.out,hb⟩
    · have HE:=hid (show Pp.entE ⟨p,false,t,n⟩=Pp.verE n from by rw[hE,if_neg (fun h=>by cases h.1),if_neg (by omega)])
      clear hE;go_enter Tryz.func68,Tryz.ntmps68
      go_wp2_with fail;refine(check_any p _ hp).mono ?_
      rintro e w1 ⟨rfl,hb1⟩;obtain⟨c0,c1,c2,c3,hb,hlt⟩:=box4 hb1
      clear hb1;rw[HZ.out];go_wp2_with fail;refine(checkVersion_any n _).mono ?_
      rintro e w2 ⟨rfl,rfl⟩;go_wp2_with fail;go_ret;exact⟨Pp.ret_int HE.out.symm,hb⟩
 · have HE:=hid (show Pp.chk p.data.toList=Pp.entE ⟨p,f,t,n⟩from by rw[Pp.entE,if_neg hz])
   have hz2:(Pp.chk p.data.toList==0)=false:=by simpa using hz
   go_enter Tryz.func68,Tryz.ntmps68
   go_wp2_with fail;refine(check_any p _ hp).mono ?_
   rintro e w1 ⟨rfl,hb1⟩;obtain⟨c0,c1,c2,c3,hb,hlt⟩:=box4 hb1
   clear hb1;go_wp2_with fail;go_ret;exact⟨Pp.ret_int HE.out,hb⟩
namespace Pp
theorem find_hit {L:List En} {pr:En→Bool} {k:Nat} (hlt:k<L.length) (h: ∀j (h:j<L.length),j<k→pr L[j]=false) (hp:pr L[k]=true):L.find? pr=some L[k]:=by
 rw[List.find?_eq_some_iff_getElem];exact⟨hp,k,hlt,rfl,fun j hj=>by simpa using h j (by omega) hj⟩
theorem find_miss {L:List En} {pr:En→Bool} (h: ∀j (h:j<L.length),pr L[j]=false):L.find? pr=none:=by
 rw[List.find?_eq_none];intro x hx;obtain⟨j,hj,rfl⟩:=List.getElem_of_mem hx
 simpa using h j hj
end Pp

/-- A predicate on entries, as a function value. -/
def Tells (w:World) (g:Nat) (cb:Array Value) (pr:En→Bool):Prop:=
 (∀args w,(callFunc g args).run Tryz.prog w= .ok (.enter g args) w)∧
 ∀(W:World),Below w.heap.size w W→ ∀e:En,e.path.size≤1000000000000000→Calls Tryz.prog g (#[.agg #[.string e.path,.bool e.folder,.string e.text,.int .i64 e.ver]]++cb) W fun r W'=>r= .returned (.bool (pr e))∧Below W.heap.size W W'
theorem Tells.below {w w':World} {g:Nat} {cb:Array Value} {pr:En→Bool} (h:Tells w g cb pr) (hw:Below w.heap.size w w'):Tells w' g cb pr:=
 ⟨h.1,fun W hW=>h.2 W (hw.trans (hW.mono hw.size))⟩
set_option maxHeartbeats 400000 in
theorem at1_any (p:ByteArray) (f:Bool) (t:ByteArray) (n:Int) (q:ByteArray) (b:Nat) (w:World) (hb:b<w.heap.size) (hc:w.cell? ⟨b,0,none⟩=some (.string q)):
    Calls Tryz.prog 126 #[.agg #[.string p,.bool f,.string t,.int .i64 n],.pointer (some ⟨b,0,none⟩)] w fun e w'=>e= .returned (.bool (Pp.atB q.data.toList ⟨p,f,t,n⟩))∧Below w.heap.size w w':=by
 have hc2: ∀o,(w.alloc o).cell? ⟨b,0,none⟩=some (.string q):=fun o=>(((Below.refl w.heap.size w).alloc (Nat.le_refl _) o).cell (p:=⟨b,0,none⟩) hb).trans hc
 go_enter Tryz.func126,Tryz.ntmps126
 go_wp2;go_ret;exact⟨Pp.ret_bool (by rw[Pp.atB,Lib.toList_data,Lib.toList_data]),(Below.refl _ _).alloc (Nat.le_refl _) _⟩
set_option maxHeartbeats 400000 in
theorem at_any (q:ByteArray) (w:World):
    Calls Tryz.prog 103 #[.string q] w fun e w'=>e= .returned (.func (.func 126) #[] #[.pointer (some ⟨w.heap.size,0,none⟩)])∧Tells w' 126 #[.pointer (some ⟨w.heap.size,0,none⟩)] (Pp.atB q.data.toList)∧Below w.heap.size w w':=by
 go_enter Tryz.func103,Tryz.ntmps103
 go_wp2;go_ret;refine⟨rfl,⟨enters_of Tryz.func126 (by kernel_rfl) rfl,fun W hW e he=>?_⟩,(Below.refl _ _).alloc (Nat.le_refl _) _⟩
 exact at1_any e.path e.folder e.text e.ver q w.heap.size W (Nat.lt_of_lt_of_le (by simp) hW.size) ((hW.cell (p:=⟨w.heap.size,0,none⟩) (by simp)).trans (by simp))
def fnd (r:Option En):Value:=match r with
 |some x=> .tuple #[.agg #[.string x.path,.bool x.folder,.string x.text,.int .i64 x.ver],.bool true]
 |none=> .tuple #[.agg #[.string ⟨#[]⟩,.bool false,.string ⟨#[]⟩,.int .i64 0],.bool false]
set_option maxHeartbeats 800000 in
theorem first_any (L:List En) (v:Value) (g:Nat) (cb:Array Value) (pr:En→Bool) (w:World) (hv:Lies w v L) (hg:Tells w g cb pr) (hs: ∀e∈L,e.path.size≤1000000000000000):
    Calls Tryz.prog 102 #[v,.func (.func g) #[] cb] w fun e w'=>e= .returned (fnd (L.find? pr))∧Below w.heap.size w w':=by
 obtain⟨a,cap,rfl,hcap,hcap2,hL⟩:=hv
 have HL:Hid (∀i (h:i<L.length),∃b o,a=some ⟨b,o,none⟩∧b<w.heap.size∧EnAt w b (o+i*4) L[i]):=hL;have HG:Hid (Tells w g cb pr):=hg;have HS:Hid (∀e∈L,e.path.size≤1000000000000000):=hs;have eg:=hg.1;clear hL hg hs;go_enter Tryz.func102,Tryz.ntmps102
 go_wp2_with fail;go_loopw [10] (fun i wr=> ∃k:Nat,k≤L.length∧i= .int .i64 k∧Hid (∀j (h:j<L.length),j<k→pr L[j]=false)∧Below (w.alloc (.cells #[.string ⟨#[]⟩,.bool false,.string ⟨#[]⟩,.int .i64 0] 64)).heap.size (w.alloc (.cells #[.string ⟨#[]⟩,.bool false,.string ⟨#[]⟩,.int .i64 0] 64)) wr) (fun i _=>L.length-(intOf i).toNat)
 case atStart=>exact⟨0,Nat.zero_le _,rfl,(fun j _ h=>absurd h (Nat.not_lt_zero _): ∀j (h:j<L.length),j<0→pr L[j]=false),Below.refl _ _⟩
 case round=>
  obtain⟨k,hk,rfl,HP,hbel⟩:=hrel
  obtain⟨r0,r1,r2,r3,hbw,hlt0⟩:=box4 hbel
  by_cases hlt:k<L.length
  · obtain⟨b,o,rfl,hb,he⟩:=HL.out k hlt
    obtain⟨c0,c1,c2,c3⟩:=he.below hb hbw
    have hsz:=HS.out L[k] (List.getElem_mem hlt);cases hp:pr L[k]with
    |true=>
     have HF:=hid (show L.find? pr=some L[k]from Pp.find_hit hlt HP.out hp);go_wp2_with fail;refine(HG.out.2 _ (hbw.alloc (Nat.le_of_lt hlt0) _) L[k] hsz).mono ?_
     rintro e w1 ⟨rfl,hb1⟩;obtain⟨d0,d1,d2,d3,hb1w,hlt1⟩:=box4 hb1
     have hbel1:=hbel.trans (hb1w.mono hbel.size);obtain⟨s0,s1,s2,s3,hbw1,hlt2⟩:=box4 hbel1
     have f0:=box4f hbel1 0;have f1:=box4f hbel1 1;have f2:=box4f hbel1 2;have f3:=box4f hbel1 3;rw[hp];clear hb1 c0 c1 c2 c3 r0 r1 r2 r3 hbel hbel1 eg;go_wp2_with fail;refine bodyPost_ret (v:= .tuple #[.agg #[.string L[k].path,.bool L[k].folder,.string L[k].text,.int .i64 L[k].ver],.bool true]) (by simp[results,Tryz.results102,go_sem,s0,s1,s2,s3]) rfl ⟨by rw[HF.out];rfl,?_⟩
     exact(((hbw1.setCell (Nat.le_refl _) _).setCell (Nat.le_refl _) _).setCell (Nat.le_refl _) _).setCell (Nat.le_refl _) _
    |false=>
     go_wp2_with fail;refine(HG.out.2 _ (hbw.alloc (Nat.le_of_lt hlt0) _) L[k] hsz).mono ?_
     rintro e w1 ⟨rfl,hb1⟩;obtain⟨d0,d1,d2,d3,hb1w,hlt1⟩:=box4 hb1
     have hbel1:=hbel.trans (hb1w.mono hbel.size);rw[hp];clear hb1 c0 c1 c2 c3 r0 r1 r2 r3 hbel eg;go_wp2_with fail;go_roundw
     case rel=>exact⟨k+1,by omega,by simp,(fun j h1 h2=>by
      by_cases e:j=k
      · subst e;exact hp
      · exact HP.out j h1 (by omega): ∀j (h:j<L.length),j<k+1→pr L[j]=false),hbel1⟩
     case measure=>simp[intOf];omega
  · have f0:=box4f hbel 0
    have f1:=box4f hbel 1;have f2:=box4f hbel 2;have f3:=box4f hbel 3;have HF:=hid (show L.find? pr=none from Pp.find_miss (fun j h=>HP.out j h (by omega)));go_wp2_with fail;refine bodyPost_ret (v:= .tuple #[.agg #[.string ⟨#[]⟩,.bool false,.string ⟨#[]⟩,.int .i64 0],.bool false]) (by simp[results,Tryz.results102,go_sem,r0,r1,r2,r3]) rfl ⟨by rw[HF.out];rfl,?_⟩
    exact(((hbw.setCell (Nat.le_refl _) _).setCell (Nat.le_refl _) _).setCell (Nat.le_refl _) _).setCell (Nat.le_refl _) _
end Go.Proofs.YtlllcifehellpaaGreatDoor
namespace Go.Proofs.YtlllcifehellpaaGreatDoor
open Go.RowKit

set_option maxHeartbeats 800000 in
theorem checkFolder_any (L:List En) (v:Value) (q:ByteArray) (w:World) (hv:Lies w v L) (hs: ∀e∈L,e.path.size≤1000000000000000):
    Calls Tryz.prog 93 #[v,.string q] w fun e w'=>e= .returned (.int .i64 (Pp.foldE L q.data.toList))∧Below w.heap.size w w':=by
 have HV:Hid (Lies w v L):=hv;have HS:Hid (∀e∈L,e.path.size≤1000000000000000):=hs;clear hv hs;cases hc:q.toList.isEmpty with
 |true=>
  have HE:=hid (show 0=Pp.foldE L q.data.toList from by rw[Pp.foldE,if_pos ((Pp.empty_iff q).1 hc)]);go_enter Tryz.func93,Tryz.ntmps93
  go_wp2;go_ret;exact⟨Pp.ret_int HE.out,Below.refl _ _⟩
 |false=>
  have hne:=Pp.not_empty hc;cases hf:L.find? (Pp.atB q.data.toList)with
  |none=>
   have HF:Hid (L.find? (Pp.atB q.data.toList)=none):=hf;have HE:=hid (show 5=Pp.foldE L q.data.toList from by rw[Pp.foldE,if_neg hne,hf]);clear hf hne;go_enter Tryz.func93,Tryz.ntmps93
   go_wp2_with fail;refine(at_any q _).mono ?_
   rintro e w1 ⟨rfl,ht,hb1⟩;have HT:Hid (Tells w1 126 #[.pointer (some ⟨w.heap.size,0,none⟩)] (Pp.atB q.data.toList)):=ht;clear ht;go_wp2_with fail;refine(first_any L v _ _ _ _ (HV.out.below hb1) HT.out HS.out).mono ?_
   rintro e w2 ⟨rfl,hb2⟩;rw[HF.out,fnd];go_wp2_with fail;go_ret;exact⟨Pp.ret_int HE.out,(below_trans hb1 hb2).alloc (Nat.le_trans hb1.size hb2.size) _⟩
  |some x=>
   have HF:Hid (L.find? (Pp.atB q.data.toList)=some x):=hf;have hE:Pp.foldE L q.data.toList=if x.folder=true then 0 else 4:=by rw[Pp.foldE,if_neg hne,hf]
   clear hf hne;cases hx:x.folder with
   |true=>
    have HE:=hid (show 0=Pp.foldE L q.data.toList from by rw[hE,hx];rfl);clear hE;go_enter Tryz.func93,Tryz.ntmps93
    go_wp2_with fail;refine(at_any q _).mono ?_
    rintro e w1 ⟨rfl,ht,hb1⟩;have HT:Hid (Tells w1 126 #[.pointer (some ⟨w.heap.size,0,none⟩)] (Pp.atB q.data.toList)):=ht;clear ht;go_wp2_with fail;refine(first_any L v _ _ _ _ (HV.out.below hb1) HT.out HS.out).mono ?_
    rintro e w2 ⟨rfl,hb2⟩;rw[HF.out,fnd];go_wp2_with fail;go_ret;exact⟨Pp.ret_int HE.out,(below_trans hb1 hb2).alloc (Nat.le_trans hb1.size hb2.size) _⟩
   |false=>
    have HE:=hid (show 4=Pp.foldE L q.data.toList from by rw[hE,hx];rfl);clear hE;go_enter Tryz.func93,Tryz.ntmps93
    go_wp2_with fail;refine(at_any q _).mono ?_
    rintro e w1 ⟨rfl,ht,hb1⟩;have HT:Hid (Tells w1 126 #[.pointer (some ⟨w.heap.size,0,none⟩)] (Pp.atB q.data.toList)):=ht;clear ht;go_wp2_with fail;refine(first_any L v _ _ _ _ (HV.out.below hb1) HT.out HS.out).mono ?_
    rintro e w2 ⟨rfl,hb2⟩;rw[HF.out,fnd];go_wp2_with fail;go_ret;exact⟨Pp.ret_int HE.out,(below_trans hb1 hb2).alloc (Nat.le_trans hb1.size hb2.size) _⟩
namespace Pp
/-- Behind k entries: none had no parent; told is 4 just where one's parent is no folder. -/
def parsTo (L:List En) (k:Nat) (told:Int):Prop:=(L.take k).any (fun e=>parF L e==5)=false∧told=if(L.take k).any (fun e=>parF L e==4)=true then 4 else 0
theorem parsTo_zero (L:List En):parsTo L 0 0:=⟨by simp,by simp⟩
theorem parsTo_step {L:List En} {k:Nat} {t:Int} (hlt:k<L.length) (h:parsTo L k t) (h5:parF L L[k]≠5):parsTo L (k+1) (if parF L L[k]=4 then 4 else t):=by
 refine⟨?_,?_⟩
 · rw[List.take_succ_eq_append_getElem hlt,List.any_append,h.1];simpa using h5
 · rw[List.take_succ_eq_append_getElem hlt,List.any_append,h.2]
   by_cases e:parF L L[k]=4
   · simp[e]
   · simp[e]
theorem parsTo_hit {L:List En} {k:Nat} (hlt:k<L.length) (h5:parF L L[k]=5):5=parsE L L:=by
 rw[parsE,if_pos];rw[List.any_eq_true];exact⟨L[k],List.getElem_mem hlt,by simpa using h5⟩
theorem parsTo_end {L:List En} {k:Nat} {t:Int} (hk:L.length≤k) (h:parsTo L k t):t=parsE L L:=by
 obtain⟨h1,h2⟩:=h
 rw[List.take_of_length_le hk]at h1 h2;rw[parsE,if_neg (by rw[h1];decide),h2]
end Pp

set_option maxHeartbeats 1000000 in
theorem checkParents_any (L:List En) (v:Value) (w:World) (hv:Lies w v L) (hn:L.length≤60) (hs: ∀e∈L,e.path.size≤1000000000000000) (hc: ∀e∈L,Pp.chk e.path.data.toList=0):
    Calls Tryz.prog 70 #[v] w fun e w'=>e= .returned (.int .i64 (Pp.parsE L L))∧Below w.heap.size w w':=by
 have HV:Hid (Lies w v L):=hv;have HS:Hid (∀e∈L,e.path.size≤1000000000000000):=hs;have HC:Hid (∀e∈L,Pp.chk e.path.data.toList=0):=hc;obtain⟨a,cap,rfl,hcap,hcap2,hL⟩:=hv
 have HL:Hid (∀i (h:i<L.length),∃b o,a=some ⟨b,o,none⟩∧b<w.heap.size∧EnAt w b (o+i*4) L[i]):=hL;clear hL hs hc;go_enter Tryz.func70,Tryz.ntmps70
 go_wp2_with fail;go_loopw [3,10] (fun t i wr=> ∃(k:Nat) (told:Int),k≤L.length∧i= .int .i64 k∧t= .int .i64 told∧Hid (Pp.parsTo L k told)∧Below w.heap.size w wr) (fun _ i _=>L.length-(intOf i).toNat)
 case atStart=>exact⟨0,0,Nat.zero_le _,rfl,rfl,Pp.parsTo_zero L,Below.refl _ _⟩
 case round=>
  obtain⟨k,told,hk,rfl,rfl,HP,hbel⟩:=hrel
  by_cases hlt:k<L.length
  · obtain⟨b,o,rfl,hb,he⟩:=HL.out k hlt
    obtain⟨c0,c1,c2,c3⟩:=he.below hb hbel
    have hsz:=HS.out L[k] (List.getElem_mem hlt);have HZ:Hid (Pp.chk (L[k]).path.data.toList=0):=HC.out L[k] (List.getElem_mem hlt);have b1:=Pp.len_par (L[k]).path.data.toList;rw[←Lib.size_eq]at b1;go_wp2_with fail;refine(parent_any (L[k]).path _ hsz).mono ?_
    rintro e w1 ⟨rfl,hb1⟩;rw[HZ.out,Pp.ifc_yes rfl];obtain⟨d0,d1,d2,d3,hb1w,hlt1⟩:=box4 hb1
    have hbel1:=below_trans hbel hb1w;clear hb1 c0 c1 c2 c3 d0 d1 d2 d3;go_wp2_with fail;refine(checkFolder_any L _ ⟨(Pp.par (L[k]).path.data.toList).toArray⟩ _ (HV.out.below hbel1) HS.out).mono ?_
    rintro e w2 ⟨rfl,hb2⟩;have hbel2:=below_trans hbel1 hb2;clear hbel1 hb2 hb1w;rw[show Pp.foldE L _=Pp.parF L L[k]from rfl];by_cases h5:Pp.parF L L[k]=5
    · have H5:Hid (Pp.parF L L[k]=5):=h5
      clear h5;rw[H5.out];go_wp2_with fail;go_ret;exact⟨Pp.ret_int (Pp.parsTo_hit hlt H5.out),hbel2⟩
    · have H5:Hid (Pp.parF L L[k]≠5):=h5
      by_cases h4:Pp.parF L L[k]=4
      · have H4:Hid (Pp.parF L L[k]=4):=h4
        have HN:=hid (show Pp.parsTo L (k+1) 4 from by have:=Pp.parsTo_step hlt HP.out h5;rwa [if_pos h4]at this);clear h4 h5;rw[H4.out];go_wp2_with fail;go_roundw
        case rel=>exact⟨k+1,4,by omega,by simp,rfl,HN.out,hbel2⟩
        case measure=>simp[intOf];omega
      · have HN:=hid (show Pp.parsTo L (k+1) told from by have:=Pp.parsTo_step hlt HP.out h5;rwa [if_neg h4]at this)
        have H0:=hid (show Pp.parF L L[k]=0 from by rcases Pp.foldE_range L (Pp.par (L[k]).path.data.toList)with h|h|h;exact h;exact absurd h h4;exact absurd h h5);clear h4 h5;rw[H0.out];go_wp2_with fail;go_roundw
        case rel=>exact⟨k+1,told,by omega,by simp,rfl,HN.out,hbel2⟩
        case measure=>simp[intOf];omega
  · go_wp2_with fail
    go_ret;exact⟨Pp.ret_int (Pp.parsTo_end (by omega) HP.out),hbel⟩
end Go.Proofs.YtlllcifehellpaaGreatDoor
namespace Go.Proofs.YtlllcifehellpaaGreatDoor
open Go.RowKit

namespace Pp
theorem rises_iff: ∀(L:List En),risesB L=true↔ ∀i (h:i+1<L.length),lt L[i] L[i+1]=true
 |[]=>by simp[risesB]
 |[_]=>by simp[risesB]
 |a::b::r=>by
  rw[risesB,Bool.and_eq_true,rises_iff (b::r)];constructor
  · rintro ⟨h1,h2⟩ i hi
    cases i with
    |zero=>exact h1
    |succ i=>exact h2 i (by simpa using hi)
  · intro h
    exact⟨h 0 (by simp),fun i hi=>h (i+1) (by simpa using hi)⟩
theorem rises_no {L:List En} {m:Nat} (h:m+1<L.length) (hl:lt L[m] L[m+1]=false):false=risesB L:=by
 cases e:risesB L with
 |false=>rfl
 |true=>have:=(rises_iff L).1 e m h;rw[hl]at this;cases this
theorem rises_yes {L:List En} (h: ∀i (h:i+1<L.length),lt L[i] L[i+1]=true):true=risesB L:=((rises_iff L).2 h).symm
end Pp

set_option maxHeartbeats 800000 in
theorem rises_any (L:List En) (v:Value) (w:World) (hv:Lies w v L) (hn:L.length≤1000000000):
    Calls Tryz.prog 69 #[v] w fun e w'=>e= .returned (.bool (Pp.risesB L))∧Below w.heap.size w w':=by
 obtain⟨a,cap,rfl,hcap,hcap2,hL⟩:=hv
 have HL:Hid (∀i (h:i<L.length),∃b o,a=some ⟨b,o,none⟩∧b<w.heap.size∧EnAt w b (o+i*4) L[i]):=hL;clear hL;go_enter Tryz.func69,Tryz.ntmps69
 go_wp2_with fail;go_loopw [3] (fun i wr=> ∃m:Nat,m≤L.length∧i= .int .i64 ((m:Int)+1)∧Hid (∀i (h:i+1<L.length),i<m→Pp.lt L[i] L[i+1]=true)∧Below w.heap.size w wr) (fun i _=>L.length+2-(intOf i).toNat)
 case atStart=>exact⟨0,Nat.zero_le _,rfl,(fun i _ h=>absurd h (Nat.not_lt_zero _): ∀i (h:i+1<L.length),i<0→Pp.lt L[i] L[i+1]=true),Below.refl _ _⟩
 case round=>
  obtain⟨m,hm,rfl,HP,hbel⟩:=hrel
  by_cases hlt:m+1<L.length
  · obtain⟨b,o,rfl,hb,he⟩:=HL.out m (by omega)
    obtain⟨c0,c1,c2,c3⟩:=he.below hb hbel
    obtain⟨b',o',hbo,hb',he'⟩:=HL.out (m+1) hlt
    obtain⟨rfl,rfl⟩:b=b'∧o=o':=by simpa using hbo
    obtain⟨d0,d1,d2,d3⟩:=he'.below hb hbel
    have hlt2:(m:Int)+1<L.length:=by omega
    clear c1 c2 c3 d1 d2 d3 hbo;cases hl:Pp.lt L[m] L[m+1]with
    |true=>
     have hl2:Op.bytesLess (L[m]).path.toList (L[m+1]).path.toList=true:=hl;go_wp2_with fail;go_region
     go_wp2;go_roundw
     case rel=>exact⟨m+1,by omega,by simp,(fun i h1 h2=>by
      by_cases e:i=m
      · subst e;exact hl
      · exact HP.out i h1 (by omega): ∀i (h:i+1<L.length),i<m+1→Pp.lt L[i] L[i+1]=true),hbel.drew⟩
     case measure=>simp[intOf];omega
    |false=>
     have hl2:Op.bytesLess (L[m]).path.toList (L[m+1]).path.toList=false:=hl;go_wp2_with fail;go_region
     go_wp2;go_ret;exact⟨Pp.ret_bool (Pp.rises_no hlt hl),hbel.drew⟩
  · go_wp2_with fail
    go_ret;exact⟨Pp.ret_bool (Pp.rises_yes fun i h=>HP.out i h (by omega)),hbel⟩
def Sized (L:List En):Prop:= ∀e∈L,e.path.size≤1000000000000000∧e.text.size≤1000000000000000
set_option maxHeartbeats 1000000 in
theorem tcheck_any (L:List En) (v:Value) (w:World) (hv:Lies w v L) (hn:L.length≤1000000000) (hs:Sized L):
    Calls Tryz.prog 47 #[v] w fun e w'=>e= .returned (.int .i64 (Pp.treeE L))∧Below w.heap.size w w':=by
 have HV:Hid (Lies w v L):=hv;have HS:Hid (Sized L):=hs;obtain⟨a,cap,rfl,hcap,hcap2,hL⟩:=hv
 have HL:Hid (∀i (h:i<L.length),∃b o,a=some ⟨b,o,none⟩∧b<w.heap.size∧EnAt w b (o+i*4) L[i]):=hL;clear hL hs;by_cases h60:60<(L.length:Int)
 · have HE:=hid (show 2=Pp.treeE L from by rw[Pp.treeE,if_pos (by omega)])
   go_enter Tryz.func47,Tryz.ntmps47
   go_wp2_with fail;go_ret;exact⟨Pp.ret_int HE.out,Below.refl _ _⟩
 have HT:=hid (show Pp.treeE L=if Pp.entsE L=0 then(if Pp.risesB L=true then Pp.parsE L L else 4)else Pp.entsE L from by rw[Pp.treeE,if_neg (by omega)]);go_enter Tryz.func47,Tryz.ntmps47
 go_wp2_with fail;go_loopw [11] (fun i wr=> ∃k:Nat,k≤L.length∧i= .int .i64 k∧Hid (Pp.entsE L=Pp.entsE (L.drop k))∧Below w.heap.size w wr) (fun i _=>L.length-(intOf i).toNat)
 case atStart=>exact⟨0,Nat.zero_le _,rfl,(rfl:Pp.entsE L=Pp.entsE (L.drop 0)),Below.refl _ _⟩
 case round=>
  obtain⟨k,hk,rfl,HQ,hbel⟩:=hrel
  by_cases hlt:k<L.length
  · obtain⟨b,o,rfl,hb,he⟩:=HL.out k hlt
    obtain⟨c0,c1,c2,c3⟩:=he.below hb hbel
    have HD:Hid (L.drop k=L[k]::L.drop (k+1)):=List.drop_eq_getElem_cons hlt;have hsz:=HS.out L[k] (List.getElem_mem hlt);by_cases hz:Pp.entE L[k]=0
    · have HZ:Hid (Pp.entE L[k]=0):=hz
      clear hz;go_wp2_with fail;refine(checkEntry_any (L[k]).path (L[k]).folder (L[k]).text (L[k]).ver _ hsz.1 hsz.2).mono ?_
      rintro e w1 ⟨rfl,hb1⟩;rw[show Pp.entE _=0 from HZ.out];obtain⟨d0,d1,d2,d3,hb1w,hlt1⟩:=box4 hb1
      have hbel1:=below_trans hbel hb1w;clear hb1 c0 c1 c2 c3 d0 d1 d2 d3;go_wp2_with fail;go_roundw
      case rel=>exact⟨k+1,by omega,by simp,(by rw[HQ.out,HD.out,Pp.entsE,if_pos HZ.out]:Pp.entsE L=Pp.entsE (L.drop (k+1))),hbel1⟩
      case measure=>simp[intOf];omega
    · have HZ:Hid (¬Pp.entE L[k]=0):=hz
      have hz2:(Pp.entE L[k]==0)=false:=by simpa using hz
      have HE:=hid (show Pp.entE L[k]=Pp.treeE L from by
       have e1:Pp.entsE L=Pp.entE L[k]:=by rw[HQ.out,HD.out,Pp.entsE,if_neg hz]
       rw[HT.out,if_neg (by rw[e1];exact hz),e1])
      go_wp2_with fail;refine(checkEntry_any (L[k]).path (L[k]).folder (L[k]).text (L[k]).ver _ hsz.1 hsz.2).mono ?_
      rintro e w1 ⟨rfl,hb1⟩;rw[show Pp.entE _=Pp.entE L[k]from rfl];obtain⟨d0,d1,d2,d3,hb1w,hlt1⟩:=box4 hb1
      have hbel1:=below_trans hbel hb1w;clear hb1 c0 c1 c2 c3 d0 d1 d2 d3;go_wp2_with fail;go_ret;exact⟨Pp.ret_int HE.out,hbel1⟩
  · have h0:Pp.entsE L=0:=by rw[HQ.out,List.drop_of_length_le (by omega)];rfl
    have hT2:Pp.treeE L=if Pp.risesB L=true then Pp.parsE L L else 4:=by rw[HT.out,if_pos h0]
    have HC:=hid (show∀e∈L,Pp.chk e.path.data.toList=0 from fun e he=>Pp.entE_path (Pp.entsE_all h0 e he));clear h0;cases hr:Pp.risesB L with
    |true=>
     have HR:Hid (Pp.risesB L=true):=hr;have HE:=hid (show Pp.parsE L L=Pp.treeE L from by rw[hT2,if_pos hr]);clear hr hT2;go_wp2_with fail;refine(rises_any L _ _ (HV.out.below hbel) hn).mono ?_
     rintro e w1 ⟨rfl,hb1⟩;rw[HR.out];have hbel1:=below_trans hbel hb1;clear hbel hb1;go_wp2_with fail;refine(checkParents_any L _ _ (HV.out.below hbel1) (by omega) (fun e he=>(HS.out e he).1) HC.out).mono ?_
     rintro e w2 ⟨rfl,hb2⟩;go_wp2_with fail;go_ret;exact⟨Pp.ret_int HE.out,below_trans hbel1 hb2⟩
    |false=>
     have HR:Hid (Pp.risesB L=false):=hr;have HE:=hid (show 4=Pp.treeE L from by rw[hT2,if_neg (by rw[hr];decide)]);clear hr hT2;go_wp2_with fail;refine(rises_any L _ _ (HV.out.below hbel) hn).mono ?_
     rintro e w1 ⟨rfl,hb1⟩;rw[HR.out];go_wp2_with fail;go_ret;exact⟨Pp.ret_int HE.out,below_trans hbel hb1⟩
end Go.Proofs.YtlllcifehellpaaGreatDoor
namespace Go.Proofs.YtlllcifehellpaaGreatDoor
open Go.RowKit

theorem hid {p:Prop} (h:p):Hid p:=h
theorem lies_nil (w:World):Lies w (.slice none 0 0) []:=⟨none,0,rfl,Nat.le_refl _,by simp,fun i hi=>absurd hi (by simp)⟩
namespace Pp
theorem chk_len {l:List UInt8} (h:chk l=0):l.length≤80:=by
 have h1:=chk_not_big h;rw[big,Bool.or_eq_false_iff]at h1;have:=of_decide_eq_false h1.2
 omega
end Pp
end Go.Proofs.YtlllcifehellpaaGreatDoor
namespace Go.Proofs.YtlllcifehellpaaGreatDoor
open Go.RowKit

set_option maxHeartbeats 1000000 in
theorem tcheck_all (L:List En) (v:Value) (w:World) (hv:Lies w v L) (hs:Sized L):
    Calls Tryz.prog 47 #[v] w fun e w'=>e= .returned (.int .i64 (Pp.treeE L))∧Below w.heap.size w w':=by
 by_cases h60:L.length≤60
 · exact tcheck_any L v w hv (by omega) hs
 · have HE:=hid (show 2=Pp.treeE L from by rw[Pp.treeE,if_pos (by omega)])
   obtain⟨a,cap,rfl,hcap,hcap2,hL⟩:=hv
   have hl:60<(L.length:Int):=by omega
   clear hL hs;go_enter Tryz.func47,Tryz.ntmps47
   go_wp2_with fail;go_ret;exact⟨Pp.ret_int HE.out,Below.refl _ _⟩
end Go.Proofs.YtlllcifehellpaaGreatDoor
