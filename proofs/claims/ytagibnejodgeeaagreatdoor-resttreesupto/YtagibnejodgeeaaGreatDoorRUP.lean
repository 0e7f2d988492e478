/- The reference's merge as mathematics: one path after the other; versions at the end; all of it held against the program's. -/
import Derived.Test.YtagibnejodgeeaaGreatDoorRUN
import Derived.Test.YtagibnejodgeeaaGreatDoorRUO
import Derived.Test.YtagibnejodgeeaaGreatDoorRUD
set_option linter.unusedSimpArgs false
set_option linter.unusedVariables false
namespace Go.Proofs.YtagibnejodgeeaaGreatDoor
open Go.RowKit Go.Maps

namespace Mg
/-- What goes aside, with one version. -/
def one1 (a:En):En:=⟨a.path,false,a.text,1⟩
def gos (B M T:List En) (U:List En):List En:=(sets (fG B M T) U).map one1
/-- How many paths there may be: what was put in so far, of each of the three. -/
def acc (B M T:List En):Nat→List En
 |0=>[]
 |1=>over [] B
 |2=>over (over [] B) M
 |_=>over (over (over [] B) M) T
theorem acc_rise (B M T:List En): ∀k,Sp.Rise (acc B M T k)
 |0=>List.Pairwise.nil
 |1=>over_rise List.Pairwise.nil B
 |2=>over_rise (over_rise List.Pairwise.nil B) M
 |_+3=>over_rise (over_rise (over_rise List.Pairwise.nil B) M) T
theorem acc3 {B M T:List En} (h:Sp.Rise B):acc B M T 3=uni B M T:=by
 show over (over (over [] B) M) T=_
 rw[over_nil h];rfl
theorem acc_len (B M T:List En): ∀k,(acc B M T k).length≤B.length+M.length+T.length
 |0=>Nat.zero_le _
 |1=>by have:=over_len [] B;simp only[List.length_nil]at this;show(over [] B).length≤_;omega
 |2=>by have:=over_len [] B;have h2:=over_len (over [] B) M;simp only[List.length_nil]at this;show(over (over [] B) M).length≤_;omega
 |_+3=>by have:=over_len [] B;have h2:=over_len (over [] B) M;have h3:=over_len (over (over [] B) M) T;simp only[List.length_nil]at this;show(over (over (over [] B) M) T).length≤_;omega
theorem pths_len (L:List En):(pths L).length=L.length:=by rw[pths,List.length_map]
theorem pths_get {L:List En} {i:Nat} (h:i<L.length) (h1:i<(pths L).length):(pths L)[i]=L[i].path.data.toList:=by simp only[pths,List.getElem_map]
/-- What is settled at a path, in the reference's order. -/
theorem way1 {b m t:Spo} (h:lk m t=true):(stays b m t).w=m.w∧(stays b m t).t=m.t∧(goes b m t).w=0:=by
 have h1:=lk_iff.1 h;rw[stays,goes,if_pos (Or.inl h),if_pos (Or.inl h)];exact⟨h1.1.symm,h1.2.symm,rfl⟩
theorem way2 {b m t:Spo} (h:lk m t=false) (h1:lk t b=true):(stays b m t).w=m.w∧(stays b m t).t=m.t∧(goes b m t).w=0:=by
 have h2: ¬(lk m t=true∨lk m b=true):=by
  rintro (h2|h2)
  · rw[h]at h2;cases h2
  · rw[lk_trans h2 (lk_symm h1)]at h;cases h
 rw[stays,goes,if_neg h2,if_pos h1,if_neg h2,if_pos h1];exact⟨rfl,rfl,rfl⟩
theorem way3 {b m t:Spo} (h:lk m b=true):(stays b m t).w=t.w∧(stays b m t).t=t.t∧(goes b m t).w=0:=by
 rw[stays,goes,if_pos (Or.inr h),if_pos (Or.inr h)];exact⟨rfl,rfl,rfl⟩
theorem way_no {b m t:Spo} (h:lk m t=false) (h1:lk t b=false) (h2:lk m b=false):stays b m t=(if m.w=1∨t.w=0 then m else t)∧goes b m t=if m.w=1∨t.w=0 then t else m:=by
 have h3: ¬(lk m t=true∨lk m b=true):=by rw[h,h2];simp
 have h4: ¬lk t b=true:=by rw[h1];simp
 rw[stays,goes,if_neg h3,if_neg h4,if_neg h3,if_neg h4];exact⟨rfl,rfl⟩
theorem way4 {b m t:Spo} (hm:Ok m) (ht:Ok t) (h:lk m t=false) (h1:lk t b=false) (h2:lk m b=false) (hw:m.w=1):(stays b m t).w=1∧(stays b m t).t=⟨#[]⟩∧(goes b m t).w=t.w∧(goes b m t).t=t.t∧(t.w=2∨t.w=0):=by
 obtain⟨e1,e2⟩:=way_no h h1 h2
 rw[if_pos (Or.inl hw)]at e1 e2;rw[e1,e2];refine⟨hw,hm.fold hw,rfl,rfl,?_⟩
 rcases ht.w with h0|h0|h0
 · exact Or.inr h0
 · rw[lk_fold hm ht (by omega) (by omega)]at h;cases h
 · exact Or.inl h0
theorem way5 {b m t:Spo} (hm:Ok m) (ht:Ok t) (h:lk m t=false) (h1:lk t b=false) (h2:lk m b=false) (hw: ¬m.w=1) (hw2:t.w=1):(stays b m t).w=1∧(stays b m t).t=⟨#[]⟩∧(goes b m t).w=m.w∧(goes b m t).t=m.t∧(m.w=2∨m.w=0):=by
 obtain⟨e1,e2⟩:=way_no h h1 h2
 rw[if_neg (by omega)]at e1 e2;rw[e1,e2];refine⟨hw2,ht.fold hw2,rfl,rfl,?_⟩
 rcases hm.w with h0|h0|h0
 · exact Or.inr h0
 · exact absurd h0 hw
 · exact Or.inl h0
theorem way6 {b m t:Spo} (h:lk m t=false) (h1:lk t b=false) (h2:lk m b=false) (hw:m.w=2) (hw2:t.w=2):(stays b m t).w=2∧(stays b m t).t=t.t∧(goes b m t).w=2∧(goes b m t).t=m.t:=by
 obtain⟨e1,e2⟩:=way_no h h1 h2
 rw[if_neg (by omega)]at e1 e2;rw[e1,e2];exact⟨hw2,rfl,hw,rfl⟩
theorem way7 {b m t:Spo} (ht:Ok t) (h:lk m t=false) (h1:lk t b=false) (h2:lk m b=false) (hw:m.w=2) (hw1: ¬t.w=1) (hw2: ¬t.w=2):(stays b m t).w=2∧(stays b m t).t=m.t∧(goes b m t).w=0:=by
 have h0:t.w=0:=by
  rcases ht.w with h|h|h
  · exact h
  · exact absurd h hw1
  · exact absurd h hw2
 obtain⟨e1,e2⟩:=way_no h h1 h2
 rw[if_pos (Or.inr h0)]at e1 e2;rw[e1,e2];exact⟨hw,rfl,h0⟩
theorem way8 {b m t:Spo} (hm:Ok m) (ht:Ok t) (h:lk m t=false) (h1:lk t b=false) (h2:lk m b=false) (hw: ¬m.w=2) (hw1: ¬m.w=1) (hw2: ¬t.w=1):(stays b m t).w=t.w∧(stays b m t).t=t.t∧(goes b m t).w=0:=by
 have h0:m.w=0:=by
  rcases hm.w with h|h|h
  · exact h
  · exact absurd h hw1
  · exact absurd h hw
 have h3: ¬t.w=0:=fun h3=>by rw[lk_fold hm ht (by omega) (by omega)]at h;cases h
 obtain⟨e1,e2⟩:=way_no h h1 h2
 rw[if_neg (by omega)]at e1 e2;rw[e1,e2];exact⟨rfl,rfl,h0⟩
/-- One more path. -/
theorem now_step {B M T U:List En} (hr:Sp.Rise U) {k:Nat} (hk:k<U.length) {w:Int} {t:ByteArray} (hw:(fS B M T U[k].path.data.toList).w=w) (ht:(fS B M T U[k].path.data.toList).t=t):(0<w→nowR B M T (U.take (k+1))=Sp.put1 ⟨U[k].path,w==1,t,1⟩ (nowR B M T (U.take k)))∧(¬0<w→nowR B M T (U.take (k+1))=nowR B M T (U.take k)):=by
 have hok:=(fS_ok B M T U[k].path.data.toList).w;constructor
 · intro h0
   have h1: ¬(fR B M T U[k].path.data.toList).w=0:=by rw[fR,one_w];omega
   rw[nowR,nowR,sets_put hr hk h1]
   have:enOf U[k].path (fR B M T U[k].path.data.toList)=⟨U[k].path,w==1,t,1⟩:=by
    rw[fR,one,if_neg (by omega),enOf,hw,ht]
   rw[this]
 · intro h0
   have h1:(fR B M T U[k].path.data.toList).w=0:=by rw[fR,one_w];omega
   rw[nowR,nowR,sets_take0 hk h1]
theorem gos_no {B M T U:List En} {k:Nat} (hk:k<U.length) (hw:(fG B M T U[k].path.data.toList).w=0):gos B M T (U.take (k+1))=gos B M T (U.take k):=by
 rw[gos,gos,sets_take0 hk hw]
theorem gos_yes {B M T U:List En} (hr:Sp.Rise U) {k:Nat} (hk:k<U.length) {t:ByteArray} (hw:(fG B M T U[k].path.data.toList).w=2) (ht:(fG B M T U[k].path.data.toList).t=t):gos B M T (U.take (k+1))=gos B M T (U.take k)++[⟨U[k].path,false,t,1⟩]:=by
 rw[gos,gos,sets_take hr hk (by omega),List.map_append];show _++[one1 (enOf _ _)]=_
 rw[enOf,one1,ht]
def gP (A:List En):List Value:=A.map (fun e=>Value.string e.path)
def gT (A:List En):List Value:=A.map (fun e=>Value.string e.text)
theorem gP_snoc (A:List En) (e:En):gP A++[.string e.path]=gP (A++[e]):=by simp[gP]
theorem gT_snoc (A:List En) (e:En):gT A++[.string e.text]=gT (A++[e]):=by simp[gT]
theorem gos_len (B M T U:List En):(gos B M T U).length≤U.length:=by rw[gos,List.length_map];exact sets_len _ _
/-- What a list of entries is, while the reference merges. -/
structure Fit (N:List En):Prop where
 rise:Sp.Rise N
 ents: ∀e∈N,Pp.chk e.path.data.toList=0∧Sp.tx e=e.text∧e.ver=1
theorem Fit.put {N:List En} (h:Fit N) {e:En} (h1:Pp.chk e.path.data.toList=0) (h2:Sp.tx e=e.text) (h3:e.ver=1):Fit (Sp.put1 e N):=⟨Sp.put1_rise h.rise,fun x hx=>by
 rcases Sp.mem_put1.1 hx with rfl|⟨hx,_⟩
 · exact⟨h1,h2,h3⟩
 · exact h.ents x hx⟩
theorem uni_chk {B M T:List En} (gB:Pp.Good B) (gM:Pp.Good M) (gT:Pp.Good T) {x:En} (h:x∈uni B M T):Pp.chk x.path.data.toList=0:=by
 rcases uni_mem h with h|h|h
 · exact Pp.entE_path (gB.ents x h)
 · exact Pp.entE_path (gM.ents x h)
 · exact Pp.entE_path (gT.ents x h)
theorem fit_now {B M T:List En} (gB:Pp.Good B) (gM:Pp.Good M) (gT:Pp.Good T):Fit (nowR B M T (uni B M T)):=by
 refine⟨sets_rise (uni_rise gB.rise M T),fun e he=>?_⟩
 obtain⟨x,hx,hs⟩:=mem_sets.1 he
 obtain⟨h1,h2,h3⟩:=set1_path hs
 rw[h1];refine⟨uni_chk gB gM gT hx,?_,?_⟩
 · rw[h2,Sp.tx]
   split
   · rename_i hf
     have hw:(fR B M T x.path.data.toList).w=1:=by simpa[enOf]using hf
     exact((one_ok (fS_ok B M T x.path.data.toList)).fold hw).symm
   · rfl
 · rw[h2,enOf,fR,one,if_neg (by rw[fR,one_w]at h3;exact h3)]
theorem gos_mem {B M T:List En} (gB:Pp.Good B) (gM:Pp.Good M) (gT:Pp.Good T) {a:En} (h:a∈gos B M T (uni B M T)):Pp.chk a.path.data.toList=0:=by
 rw[gos,List.mem_map]at h;obtain⟨x,hx,rfl⟩:=h
 obtain⟨y,hy,hs⟩:=mem_sets.1 hx
 show Pp.chk x.path.data.toList=0
 rw[(set1_path hs).1];exact uni_chk gB gM gT hy
theorem fit_file {N:List En} (h:Fit N) {q:List UInt8} (hq:Pp.chk q=0) (t:ByteArray):Fit (Sp.put1 (file q ⟨2,t,1⟩) N):=h.put (by simpa[file]using hq) rfl rfl
theorem fit_fold {N:List En} (h:Fit N) {q:ByteArray} (hq:Pp.chk q.data.toList=0):Fit (Sp.put1 (fold1 q) N):=h.put hq rfl rfl
/-- All of the reference's merge. -/
def runR (B M T:List En):Option (List En×CC):=(asds M T (gos B M T (uni B M T)) (nowR B M T (uni B M T),[])).bind (fun s=>mksR M T (allR s.1 s.1.length) s)
theorem runR_run {B M T:List En} (gB:Pp.Good B) (gM:Pp.Good M) (gT:Pp.Good T):(run B M T=none→runR B M T=none)∧ ∀X Y,run B M T=some (X,Y)→ ∃X',runR B M T=some (X',Y)∧Sp.Rise X∧Sp.Rise X'∧Sim X X':=by
 have hr:=uni_rise gB.rise M T
 have hw: ∀a∈asi0 B M T,Sp.wh a=2:=fun a ha=>by
  obtain⟨x,hx,hs⟩:=mem_sets.1 ha
  obtain⟨h1,h2,h3⟩:=set1_path hs
  have h4:=goes_file (b:=st B x.path.data.toList) (ok_st M x.path.data.toList) (ok_st T x.path.data.toList) h3;have h5:(fG B M T x.path.data.toList).w=2:=h4;rw[h2,Sp.wh,enOf,h5];rfl
 obtain⟨a1,a2⟩:=asds_sim (M:=M) (T:=T) (asi0 B M T) (now0 B M T) (nowR B M T (uni B M T)) [] (sets_rise hr) (sets_rise hr) (sim_now gB.rise (Sp.apart_rise gM.rise) (Sp.apart_rise gT.rise)) hw one1 (fun a ha=>⟨rfl,rfl,by
  have hf:=hw a ha;rw[Sp.wh]at hf;have: ¬a.folder=true:=fun h=>by rw[if_pos h]at hf;cases hf
  show a.text=Sp.tx a
  rw[Sp.tx,if_neg this]⟩)
 rw[run,runR];cases ha:asds M T (asi0 B M T) (now0 B M T,[])with
 |none=>
  rw[show asds M T (gos B M T (uni B M T)) (nowR B M T (uni B M T),[])=none from a1 ha];exact⟨fun _=>rfl,fun X Y hh=>by cases hh⟩
 |some s=>
  obtain⟨X1,Y1⟩:=s
  obtain⟨X1',e1,r1,r2,s1⟩:=a2 X1 Y1 ha
  rw[show asds M T (gos B M T (uni B M T)) (nowR B M T (uni B M T),[])=some (X1',Y1)from e1];show(mks M T (allP X1 X1.length) (X1,Y1)=none→mksR M T (allR X1' X1'.length) (X1',Y1)=none)∧ ∀X Y,mks M T (allP X1 X1.length) (X1,Y1)=some (X,Y)→ ∃X',mksR M T (allR X1' X1'.length) (X1',Y1)=some (X',Y)∧_
  rw[allR_eq,←sim_allP r1 r2 s1];exact mksR_sim _ _ _ _ r1 r2 s1
theorem mrgR {B M T:List En} (gB:Pp.Good B) (gM:Pp.Good M) (gT:Pp.Good T):mrg B M T=(runR B M T).bind (fun s=>if 60<s.1.length then none else some (outs M T s.1,s.2)):=by
 obtain⟨h1,h2⟩:=runR_run gB gM gT
 rw[mrg];cases hr:run B M T with
 |none=>rw[h1 hr]
 |some s=>
  obtain⟨X,Y⟩:=s
  obtain⟨X',e1,r1,r2,s1⟩:=h2 X Y hr
  rw[e1];show(if 60<X.length then none else some (outs M T X,Y))=if 60<X'.length then none else some (outs M T X',Y)
  rw[sim_len r1 r2 s1,sim_outs r1 r2 s1]
/-- One entry with another version. -/
def setV (N:List En) (i:Nat) (v:Int):List En:=N.modify i (fun e=>⟨e.path,e.folder,e.text,v⟩)
theorem setV_len (N:List En) (i:Nat) (v:Int):(setV N i v).length=N.length:=by rw[setV,List.length_modify]
theorem setV_get {N:List En} {i j:Nat} {v:Int} (h:j<N.length) (h1:j<(setV N i v).length):(setV N i v)[j]=if i=j then⟨N[j].path,N[j].folder,N[j].text,v⟩else N[j]:=by
 simp only[setV,List.getElem_modify]
/-- Versions that are told so far. -/
def outV (M T N:List En) (i:Nat):List En:=(N.take i).map (out1 M T N)++N.drop i
theorem outV_len (M T N:List En) (i:Nat):(outV M T N i).length=N.length:=by
 rw[outV,List.length_append,List.length_map,List.length_take,List.length_drop];omega
theorem outV_get {M T N:List En} {i j:Nat} (h:j<N.length) (h1:j<(outV M T N i).length):(outV M T N i)[j]=if j<i then out1 M T N N[j]else N[j]:=by
 simp only[outV,List.getElem_append,List.length_map,List.length_take];by_cases hj:j<i
 · rw[dif_pos (by omega),if_pos hj]
   simp
 · rw[dif_neg (by omega),if_neg hj]
   simp only[List.getElem_drop];congr 1
   omega
theorem outV_zero (M T N:List En):outV M T N 0=N:=by simp[outV]
theorem outV_all (M T N:List En):outV M T N N.length=outs M T N:=by simp[outV,outs]
theorem fit_out1 {M T N:List En} (h:Fit N) {e:En} (he:e∈N):out1 M T N e=⟨e.path,e.folder,e.text,ver M T N e.path.data.toList⟩:=by
 rw[out1,wh_fold,(h.ents e he).2.1]
theorem outV_succ {M T N:List En} (h:Fit N) {i:Nat} (hi:i<N.length):outV M T N (i+1)=setV (outV M T N i) i (ver M T N N[i].path.data.toList):=by
 refine List.ext_getElem (by rw[outV_len,setV_len,outV_len]) (fun j h1 h2=>?_)
 have hj:j<N.length:=by rw[outV_len]at h1;exact h1
 have hj2:j<(outV M T N i).length:=by rw[outV_len];exact hj
 rw[outV_get hj h1,setV_get hj2 h2,outV_get hj hj2];by_cases e:i=j
 · subst e
   rw[if_pos (by omega),if_pos rfl,if_neg (by omega),fit_out1 h (List.getElem_mem hj)]
 · rw[if_neg e]
   by_cases h3:j<i
   · rw[if_pos (by omega),if_pos h3]
   · rw[if_neg (by omega),if_neg h3]
/-- Lists that differ in versions alone. -/
theorem sim_same {N N':List En} (hN:Sp.Rise N) (hl:N.length=N'.length) (h: ∀i (h1:i<N.length) (h2:i<N'.length),N'[i].path=N[i].path∧N'[i].folder=N[i].folder∧N'[i].text=N[i].text):Sp.Rise N'∧Sim N N':=by
 have hr:Sp.Rise N':=by
  rw[Sp.Rise,List.pairwise_iff_getElem];intro i j hi hj hij;rw[Pp.lt,(h i (by omega) hi).1,(h j (by omega) hj).1];exact List.pairwise_iff_getElem.1 hN i j (by omega) (by omega) hij
 refine⟨hr,fun p=>?_⟩
 have hs: ∀i (h1:i<N.length) (h2:i<N'.length),lk (spo N[i]) (spo N'[i])=true:=fun i h1 h2=>by
  obtain⟨_,e2,e3⟩:=h i h1 h2
  refine lk_iff.2 ⟨?_,?_⟩
  · show Sp.wh _=Sp.wh _
    rw[Sp.wh,Sp.wh,e2]
  · show Sp.tx _=Sp.tx _
    rw[Sp.tx,Sp.tx,e2,e3]
 by_cases hw:(st N p).w=0
 · have hn:=st_w0.1 hw
   have hn':Sp.at_ N' p=none:=Sp.at_none.2 (fun e he hp=>by
    obtain⟨i,hi,rfl⟩:=List.getElem_of_mem he
    rw[(h i (by omega) hi).1]at hp;exact Sp.at_none.1 hn _ (List.getElem_mem (by omega)) hp)
   rw[st_none hn,st_none hn'];exact lk_refl _
 · obtain⟨e,he,hp,hst⟩:=st_get hN hw
   obtain⟨i,hi,rfl⟩:=List.getElem_of_mem he
   have hi':i<N'.length:=by omega
   have hp':N'[i].path.data.toList=p:=by rw[(h i hi hi').1];exact hp
   rw[hst,←hp',st_mem hr (List.getElem_mem hi')];exact hs i hi hi'
theorem sim_outV {M T N:List En} (h:Fit N) (i:Nat):Sp.Rise (outV M T N i)∧Sim N (outV M T N i):=by
 refine sim_same h.rise (outV_len M T N i).symm (fun j h1 h2=>?_)
 rw[outV_get h1 h2];split
 · rw[fit_out1 h (List.getElem_mem h1)]
   exact⟨rfl,rfl,rfl⟩
 · exact⟨rfl,rfl,rfl⟩
theorem sim_setV {N:List En} (h:Sp.Rise N) (i:Nat) (v:Int):Sp.Rise (setV N i v)∧Sim N (setV N i v):=by
 refine sim_same h (setV_len N i v).symm (fun j h1 h2=>?_)
 rw[setV_get h1 h2];split<;>exact⟨rfl,rfl,rfl⟩
theorem setV_setV (N:List En) (i:Nat) (v u:Int):setV (setV N i v) i u=setV N i u:=by
 refine List.ext_getElem (by rw[setV_len,setV_len,setV_len]) (fun j h1 h2=>?_)
 have hj:j<N.length:=by rw[setV_len]at h2;exact h2
 have hj2:j<(setV N i v).length:=by rw[setV_len];exact hj
 rw[setV_get hj2 h1,setV_get hj h2,setV_get hj hj2];split<;>rfl
theorem setV_self {N:List En} {i:Nat} (hi:i<N.length) {v:Int} (h:N[i].ver=v):setV N i v=N:=by
 refine List.ext_getElem (setV_len N i v) (fun j h1 h2=>?_)
 rw[setV_get h2 h1];split
 · rename_i e
   subst e;rw[←h]
 · rfl
theorem flat_setV: ∀(N:List En) (i:Nat) (v:Int),i<N.length→Pp.flat (setV N i v)=(Pp.flat N).set (i*4+3) (.int .i64 v)
 |e::r,0,v,_=>rfl
 |e::r,i+1,v,h=>by
  have ih:=flat_setV r i v (by simpa using h);have e1:setV (e::r) (i+1) v=e::setV r i v:=rfl;have e2: ∀l:List En,Pp.flat (e::l)= .string e.path:: .bool e.folder:: .string e.text:: .int .i64 e.ver::Pp.flat l:=fun l=>rfl
  rw[e1,e2,e2,ih,show(i+1)*4+3=(i*4+3)+1+1+1+1 by omega];simp
end Mg
theorem ownsRow_set {w:World} {base g n cap size:Nat} {e:TypeId} {xs:List Value} (h:w.ownsRow base e size (.slice (some ⟨g,0,none⟩) n cap) n xs) (j:Nat) (u:Value):(w.setCell ⟨g,j,none⟩ u).ownsRow base e size (.slice (some ⟨g,0,none⟩) n cap) n (xs.set j u):=by
 obtain⟨hl,hc⟩:=h
 refine⟨by rw[List.length_set];exact hl,?_⟩
 rcases hc with⟨hc,_⟩|⟨g',cap',cur,hv,hg,hh,h1,h2,h3,h4⟩
 · cases hc
 · injection hv with e1 _ e3
   injection e1 with e1
   injection e1 with e1 _ _
   subst e1;subst e3;refine Or.inr ⟨g,cap,cur.setIfInBounds j u,rfl,hg,?_,h1,h2,by simpa using h3,?_⟩
   · unfold World.setCell
     simp only[Array.getElem?_modify,hh,if_true,Option.map_some];rfl
   · rw[Array.toList_setIfInBounds,List.take_set,h4]
/-- Behind another version. -/
theorem RJ.ver {w0 w:World} {bm bt bo bp bc g cap n:Nat} {vm vt vc:Value} {M T N:List En} {C:Mg.CC} (h:RJ w0 w bm bt bo bp bc vm vt (.slice (some ⟨g,0,none⟩) n cap) vc M T N C) (hn:n=N.length) {i:Nat} (hi:i<N.length) (v:Int):RJ w0 (w.setCell ⟨g,i*4+3,none⟩ (.int .i64 v)) bm bt bo bp bc vm vt (.slice (some ⟨g,0,none⟩) n cap) vc M T (Mg.setV N i v) C:=by
 subst hn;obtain⟨F,f1,f2,f9,f3⟩:=h.put
 have hs:=nb_set w g (i*4+3) (.int .i64 v);have hg:w0.heap.size≤g:=(h.lo.lt g rfl).1;have hb: ∀{b:Nat} {cs:Array Value} {E:TypeId},w.heap[b]?=some (.cells cs E)→E≠27→(w.setCell ⟨g,i*4+3,none⟩ (.int .i64 v)).heap[b]?=some (.cells cs E):=fun hh hE=>(hs.block _ (heap_lt hh) (fun e=>own_ne_box h.lo hh hE e.symm)).trans hh
 refine⟨h.bel.setCell (p:=⟨g,i*4+3,none⟩) hg _,h.lm,h.lt,hb h.mine rj_types.1,hb h.theirs rj_types.1,hb h.out rj_types.1,?_,⟨F,f1,f2,f9,hb f3 f1⟩,hb h.copies rj_types.2.2.1,h.row.kept (row:=some g) hs ?_,h.low,h.ne⟩
 · have:=ownsRow_set h.lo (i*4+3) (.int .i64 v)
   rw[←Mg.flat_setV N i v hi]at this;rw[Mg.setV_len];exact this
 · exact(row_ne_row h.lo h.row rj_types.2.2.2.2).symm
/-- What is at a path that a side has. -/
theorem Mg.st_there {S:List En} {p:List UInt8} (h: ¬(Mg.st S p).w=0): ∃k,∃hk:k<S.length,Pp.idx S p=(k:Int)∧(Mg.st S p).v=S[k].ver:=by
 rcases Mg.st_ways S p with⟨_,h2⟩|⟨k,hk,h1,_,h2⟩|⟨k,hk,h1,_,h2⟩
 · rw[h2]at h;exact absurd rfl h
 · exact⟨k,hk,h1,by rw[h2]⟩
 · exact⟨k,hk,h1,by rw[h2]⟩
/-- The closure aside, both ways in one. -/
theorem maside_one {w0 w:World} {bm bt bo bp bc:Nat} {vm vt vo vc:Value} {M T N:List En} {C:Mg.CC} (h:RJ w0 w bm bt bo bp bc vm vt vo vc M T N C) (hr:Sp.Rise N) (hn:N.length≤1000000) (hC:C.length≤100000) (p t:ByteArray) (hp:Pp.chk p.data.toList=0):
    Calls Tryz.prog 43 #[.string p,.string t,.pointer (some ⟨bm,0,none⟩),.pointer (some ⟨bt,0,none⟩),.pointer (some ⟨bo,0,none⟩),.pointer (some ⟨bp,0,none⟩),.pointer (some ⟨bc,0,none⟩)] w fun e w'=>
     e= .returned (.bool (Mg.asd M T N p.data.toList).isSome)∧FrR w w' bo bc∧ ∃vo' vc' N' C',RJ w0 w' bm bt bo bp bc vm vt vo' vc' M T N' C'∧ ∀q,Mg.asd M T N p.data.toList=some q→N'=Sp.put1 (Mg.file q ⟨2,t,1⟩) N∧C'=C++[(p,⟨q.toArray⟩)]:=by
 refine(maside_any h hr hn hC p t hp).mono ?_
 rintro e w' ⟨h1,h2⟩;cases ha:Mg.asd M T N p.data.toList with
 |none=>
  obtain⟨rfl,hb⟩:=h1 ha
  exact⟨rfl,FrR.of_below hb,vo,vc,N,C,h.below hb,fun q hq=>by cases hq⟩
 |some q=>
  obtain⟨rfl,vo',vc',hJ,hF⟩:=h2 q ha
  exact⟨rfl,hF,vo',vc',_,_,hJ,fun q' hq=>by injection hq with hq;rw[←hq];exact⟨rfl,rfl⟩⟩
namespace Mg
theorem asds_step {M T A N0 N:List En} {C:CC} {i:Nat} (hi:i<A.length) (h:asds M T (A.take i) (N0,[])=some (N,C)):(asd M T N A[i].path.data.toList=none→asds M T A (N0,[])=none)∧ ∀q,asd M T N A[i].path.data.toList=some q→asds M T (A.take (i+1)) (N0,[])=some (Sp.put1 (file q (spo A[i])) N,C++[(A[i].path,⟨q.toArray⟩)]):=by
 constructor
 · intro hn
   have:=asds_none (b:=A.drop (i+1)) h hn
   rw[List.append_assoc,List.singleton_append,List.getElem_cons_drop,List.take_append_drop]at this;exact this
 · intro q hq
   rw[List.take_succ_eq_append_getElem hi];exact asds_some h hq
theorem allR_split {N:List En} {j k:Nat} (hj:j<N.length) (hk:k+1<(Pp.nm N[j].path.data.toList).length): ∃r,Mg.allR N N.length=(Mg.allR N j++Mg.presN N[j].path k)++[⟨(Pp.join ((Pp.nm N[j].path.data.toList).take (k+1))).toArray⟩]++r:=by
 obtain⟨r1,h1⟩:=allR_more N (k:=j+1) (by omega)
 obtain⟨r2,h2⟩:=presN_more N[j].path (k:=k+1) (n:=(Pp.nm N[j].path.data.toList).length-1) (by omega)
 refine⟨r2++r1,?_⟩
 rw[h1,allR_succ hj,h2,presN_succ];simp only[List.append_assoc]
theorem flat_one' (L:List En): ∀u∈Pp.flat L,u.oneCell'=true:=by
 intro u hu;obtain⟨e,_,h⟩:=List.mem_flatMap.1 hu
 exact Pp.cells_one e u h
theorem emp_own (w:World) (B:Nat) (hB:B≤w.heap.size):(w.alloc (.cells #[] 27)).ownsRow B 27 4 (.slice (some ⟨w.heap.size,0,none⟩) 0 0) 0 []:=
 ⟨rfl,.inr ⟨w.heap.size,0,#[],rfl,hB,heap_alloc_new w _,Nat.le_refl _,by unfold maxLen;omega,rfl,rfl⟩⟩
theorem sim_lk {N N':List En} (h:Sim N N') (p:List UInt8) (s:Spo):lk (st N' p) s=lk (st N p) s:=by
 cases hc:lk (st N p) s with
 |true=>exact lk_trans (lk_symm (h p)) hc
 |false=>
  cases hd:lk (st N' p) s with
  |false=>rfl
  |true=>exact absurd (lk_trans (h p) hd) (by rw[hc];decide)
theorem gos_file {B M T U:List En} {a:En} (h:a∈gos B M T U) (q:List UInt8):file q (spo a)=file q ⟨2,a.text,1⟩:=by
 rw[gos,List.mem_map]at h;obtain⟨x,_,rfl⟩:=h
 rfl
end Mg
end Go.Proofs.YtagibnejodgeeaaGreatDoor
