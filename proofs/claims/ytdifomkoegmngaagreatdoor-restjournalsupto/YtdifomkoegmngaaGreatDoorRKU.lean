/- The document's Scanner: texts, counts. -/
import Derived.Test.YtdifomkoegmngaaGreatDoorRKS
import Derived.Test.YtdifomkoegmngaaGreatDoorRKT
import Derived.Test.YtdifomkoegmngaaGreatDoorRKG
import Derived.Test.YtdifomkoegmngaaGreatDoorRKC
import Derived.Laws.OwnMore
set_option linter.unusedSimpArgs false
set_option linter.unusedVariables false
namespace Go.Proofs.YtdifomkoegmngaaGreatDoor
open Go.RowKit

/-- What the document's scanner answers. -/
def ScP {α:Type} (b:Nat) (s:ByteArray) (bad:Bool) (w:World) (res:Option (α×List UInt8)) (V:α→Value→World→Prop) (Z:Value→World→Prop) (e:Ending) (w':World):Prop:=
 ∃v j bad',e= .returned v∧Sc b s j bad' w'∧j≤s.size∧w.grownBy w' (some b)∧
  ((bad=true∨res=none)→bad'=true∧Z v w')∧(bad=false→ ∀m r,res=some (m,r)→bad'=false∧V m v w'∧s.data.toList.drop j=r)
namespace Wr
def MR:Int:=1152921504606846976
theorem cntR (l:List UInt8):txtP gR MR l=match rdG gR l with
    |none=>none
    |some (n,r)=>if 0≤n∧n≤r.length then some (⟨(r.take n.toNat).toArray⟩,r.drop n.toNat)else none:=by
 unfold txtP cntP bindP;cases h:rdG gR l with
 |none=>rfl
 |some z=>
  obtain⟨n,r⟩:=z
  have hg:=(rd_some h).2.2.2.1;simp only[gR,decide_eq_true_eq]at hg;simp only;by_cases h0:0≤n
  · rw[if_pos ⟨h0,by unfold MR;omega⟩]
    simp only;by_cases h1:n≤r.length
    · rw[if_pos h1,if_pos ⟨h0,h1⟩]
    · rw[if_neg h1,if_neg (fun h=>h1 h.2)]
  · rw[if_neg (fun h=>h0 h.1),if_neg (fun h=>h0 h.1)]
theorem txR_none {l:List UInt8} (h:rdG gR l=none):txtP gR MR l=none:=by rw[cntR,h]
theorem txR_bad {l r:List UInt8} {n:Int} (h:rdG gR l=some (n,r)) (hn: ¬(0≤n∧n≤r.length)):txtP gR MR l=none:=by rw[cntR,h];exact if_neg hn
theorem txR_some {l r:List UInt8} {n:Int} (h:rdG gR l=some (n,r)) (hn:0≤n∧n≤r.length):txtP gR MR l=some (⟨(r.take n.toNat).toArray⟩,r.drop n.toNat):=by rw[cntR,h];exact if_pos hn
end Wr
/-- A number that was read: it was wrong, or it is there. -/
theorem SnPost.ways {b i:Nat} {s:ByteArray} {bad:Bool} {w w':World} {l:List UInt8} {e:Ending} (h:SnPost b i s bad w (Wr.numS l) e w'):
    (∃j,e= .returned (.int .i64 0)∧Sc b s j true w'∧j≤s.size∧w.grownBy w' (some b)∧(bad=true∨Wr.rdG Wr.gR l=none))∨
    (∃n j,e= .returned (.int .i64 n)∧Sc b s j false w'∧j≤s.size∧w.grownBy w' (some b)∧bad=false∧Wr.rdG Wr.gR l=some (n,s.data.toList.drop j)):=by
 rw[Wr.numS_rd]at h;obtain⟨n,j,bad',he,hS,hj,hg,hA,hB⟩:=h
 cases hr:Wr.rdG Wr.gR l with
 |none=>obtain⟨rfl,rfl⟩:=hA (Or.inr hr);exact Or.inl ⟨j,he,hS,hj,hg,Or.inr rfl⟩
 |some z=>
  obtain⟨m,r⟩:=z
  cases bad with
  |true=>obtain⟨rfl,rfl⟩:=hA (Or.inl rfl);exact Or.inl ⟨j,he,hS,hj,hg,Or.inl rfl⟩
  |false=>obtain⟨rfl,rfl,h3⟩:=hB rfl m r hr;exact Or.inr ⟨n,j,he,hS,hj,hg,rfl,by rw[h3]⟩
set_option maxHeartbeats 4000000 in
set_option maxRecDepth 4000 in
theorem sctxt_any (b i:Nat) (s:ByteArray) (bad:Bool) (w:World) (h:Sc b s i bad w) (hi:i≤s.size) (hs:s.size≤140737488351232):
    Calls Tryz.prog 38 #[.pointer (some ⟨b,0,none⟩)] w fun e w'=>ScP b s bad w (Wr.txtP Wr.gR Wr.MR (s.data.toList.drop i)) (fun x v _=>v= .string x) (fun v _=>v= .string ⟨#[]⟩) e w':=by
 have HK:=hid (scnum_any b i s bad w h hi hs);have HS:=hid hs;obtain⟨RES,hRES⟩: ∃x,x=Wr.txtP Wr.gR Wr.MR (s.data.toList.drop i):=⟨_,rfl⟩
 rw[←hRES];have HRES:=hid hRES;clear h hs hRES;go_enter Tryz.func38,Tryz.ntmps38
 go_wp2_with fail;refine HK.out.mono ?_
 intro e w1 hw;rcases hw.ways with⟨j,rfl,h1,hj,hg,hb⟩|⟨n,j,rfl,h1,hj,hg,hb,hr⟩
 · have HH:=hid h1
   have HW:=hid (show bad=true∨RES=none from hb.imp id (fun h=>by rw[HRES.out];exact Wr.txR_none h));have c2:=h1.cs.cell 2 rfl;clear hb h1 hw HK;go_wp2_with fail;go_quiet (fail)
   generalize hwq:World.drewN w1 _=wq;have R1:=hid (hwq▸HH.out.drewN:Sc b s j true wq);have R2:=hid (nb_tr hg (hwq▸nb_drewN w1 b _:w1.grownBy wq (some b)));have d2:=R1.out.cs.cell 2 rfl;have g2:=R1.out.cs.fr 2;clear hwq c2;go_wp2_with fail;refine bodyPost_ret (results_tmp rfl _ _ _) rfl ?_
   exact⟨_,j,true,rfl,R1.out.bad,hj,nb_tr R2.out (nb_set _ b 2 _),fun _=>⟨rfl,rfl⟩,fun h1 m r h2=>by
    rcases HW.out with h|h
    · rw[h1]at h;cases h
    · rw[h2]at h;cases h⟩
 · have HH:=hid h1
   have c0:=h1.cs.cell 0 rfl;have c1:=h1.cs.cell 1 rfl;have c2:=h1.cs.cell 2 rfl;have HHR:=hid hr;have HB:=hid hb;have hnb:n.natAbs/10<1125899906842624:=by have:=(Wr.rd_some hr).2.2.2.1;simpa[Wr.gR]using this
   have HNB:=hid hnb;have hdl:(s.data.toList.drop j).length=s.size-j:=by rw[List.length_drop,←Lib.size_eq]
   have HDL:=hid hdl;have w1':IntKind.i64.wrap ((s.size:Int)-j)=(s.size:Int)-j:=by have:=HS.out;rw[IntKind.wrap_i64]<;>omega
   clear h1 hw HK hr hb hnb hdl;by_cases hgood:0≤n∧n≤(s.size:Int)-j
   · obtain⟨k,rfl⟩: ∃k:Nat,n=k:=⟨n.toNat,by omega⟩
     have n0: ¬(k:Int)<0:=by omega
     have n1: ¬(s.size:Int)-j<k:=by omega
     have n2:(k:Int)≤(s.size:Int)-j:=by omega
     have HX:=hid (show RES=some (⟨((s.data.toList.drop j).take k).toArray⟩,(s.data.toList.drop j).drop k)from by
      rw[HRES.out,Wr.txR_some HHR.out ⟨by omega,by rw[HDL.out];omega⟩];rfl)
     have w2:IntKind.i64.wrap ((j:Int)+k)=((j+k:Nat):Int):=by have:=HS.out;rw[IntKind.wrap_i64]<;>omega
     have w3:IntKind.i64.wrap (((j+k:Nat):Int)-k)=j:=by have:=HS.out;rw[IntKind.wrap_i64]<;>omega
     go_wp2_with fail;go_quiet (fail)
     generalize hwq:World.drewN w1 _=wq;have R1:=hid (hwq▸HH.out.drewN:Sc b s j false wq);have R2:=hid (nb_tr hg (hwq▸nb_drewN w1 b _:w1.grownBy wq (some b)));have d1:=R1.out.cs.cell 1 rfl;have g1:=R1.out.cs.fr 1;have R3:=hid (R1.out.set (j+k));have R4:=hid (nb_tr R2.out (nb_set wq b 1 (.int .i64 ((j+k:Nat):Int))));clear hwq c0 c1 c2 hgood;go_wp2_with fail;generalize hwz:wq.setCell _ _=wz
     have R5:Sc b s (j+k) false wz:=by
      rw[←hwz];have h5:=R3.out;rw[show((j+k:Nat):Int)=(j:Int)+k from by omega]at h5;exact h5
     have R6:w.grownBy wz (some b):=by
      rw[←hwz];have h5:=R4.out;rw[show((j+k:Nat):Int)=(j:Int)+k from by omega]at h5;exact h5
     have e0:=R5.cs.cell 0 rfl;have e1:=R5.cs.cell 1 rfl;have HR5:=hid R5;have HR6:=hid R6;have b1:(0:Int)≤j:=by omega
     have b2:(j:Int)≤((j+k:Nat):Int):=by omega
     have b3:((j+k:Nat):Int)≤s.size:=by omega
     have b4:j+k≤s.size:=by omega
     have HEX:=hid (show s.extract j (j+k)=(⟨((s.data.toList.drop j).take k).toArray⟩:ByteArray)from Pp.bytes_eq (by rw[Lib.extract_data];simp));clear hwz R5 R6 d1 g1 w2 w1' n0 n1 n2;generalize hjk:j+k=q at*;go_quiet (fail)
     generalize hwq2:World.drewN wz _=wy;have R7:=hid (hwq2▸HR5.out.drewN:Sc b s q false wy);have R8:=hid (nb_tr HR6.out (hwq2▸nb_drewN wz b _:wz.grownBy wy (some b)));clear hwq2;go_wp2_with fail;refine bodyPost_ret (results_tmp rfl _ _ _) rfl ?_
     refine⟨_,q,false,rfl,R7.out,b4,R8.out,fun h=>?_,fun h1 m r h2=>?_⟩
     · rcases h with h|h
       · rw[HB.out]at h;cases h
       · rw[HX.out]at h;cases h
     · rw[HX.out]at h2
       simp only[Option.some.injEq,Prod.mk.injEq]at h2;refine⟨rfl,?_,by rw[←h2.2,List.drop_drop,hjk]⟩
       rw[←h2.1,←HEX.out];rfl
   · have HW:=hid (show RES=none from by rw[HRES.out];exact Wr.txR_bad HHR.out (fun h=>hgood ⟨h.1,by have:=h.2;rw[HDL.out]at this;omega⟩))
     by_cases h0:n<0
     · clear hgood
       go_wp2_with fail;go_quiet (fail)
       generalize hwq:World.drewN w1 _=wq;have R1:=hid (hwq▸HH.out.drewN:Sc b s j false wq);have R2:=hid (nb_tr hg (hwq▸nb_drewN w1 b _:w1.grownBy wq (some b)));have d2:=R1.out.cs.cell 2 rfl;have g2:=R1.out.cs.fr 2;clear hwq c0 c1 c2;go_wp2_with fail;refine bodyPost_ret (results_tmp rfl _ _ _) rfl ?_
       exact⟨_,j,true,rfl,R1.out.bad,hj,nb_tr R2.out (nb_set _ b 2 _),fun _=>⟨rfl,rfl⟩,fun h1 m r h2=>by
        rw[HW.out]at h2;cases h2⟩
     · have n0: ¬n<0:=h0
       have n1:(s.size:Int)-j<n:=by omega
       clear hgood;go_wp2_with fail;go_quiet (fail)
       generalize hwq:World.drewN w1 _=wq;have R1:=hid (hwq▸HH.out.drewN:Sc b s j false wq);have R2:=hid (nb_tr hg (hwq▸nb_drewN w1 b _:w1.grownBy wq (some b)));have d2:=R1.out.cs.cell 2 rfl;have g2:=R1.out.cs.fr 2;clear hwq c0 c1 c2;go_wp2_with fail;refine bodyPost_ret (results_tmp rfl _ _ _) rfl ?_
       exact⟨_,j,true,rfl,R1.out.bad,hj,nb_tr R2.out (nb_set _ b 2 _),fun _=>⟨rfl,rfl⟩,fun h1 m r h2=>by
        rw[HW.out]at h2;cases h2⟩
end Go.Proofs.YtdifomkoegmngaaGreatDoor
namespace Go.Proofs.YtdifomkoegmngaaGreatDoor
open Go.RowKit

namespace Wr
/-- So many more are read behind those that are there. -/
def repA {α:Type} (p:Ps α) (n:Nat) (xs:List α) (l:List UInt8):Option (List α×List UInt8):=match repP p n l with
 |none=>none
 |some (ys,r)=>some (xs++ys,r)
theorem repA_nil {α:Type} (p:Ps α) (n:Nat) (l:List UInt8):repP p n l=repA p n [] l:=by
 unfold repA;split<;>simp_all
theorem repA_zero {α:Type} (p:Ps α) (xs:List α) (l:List UInt8):repA p 0 xs l=some (xs,l):=by simp[repA,repP,pureP]
theorem repA_no {α:Type} {p:Ps α} {n:Nat} {xs:List α} {l:List UInt8} (h:p l=none):repA p (n+1) xs l=none:=by simp[repA,repP,bindP,h]
theorem repA_yes {α:Type} {p:Ps α} {n:Nat} {xs:List α} {l r:List UInt8} {x:α} (h:p l=some (x,r)):repA p (n+1) xs l=repA p n (xs++[x]) r:=by
 unfold repA;rw[show repP p (n+1) l=bindP p (fun x=>bindP (repP p n) fun xs=>pureP (x::xs)) l from rfl,bind_some h];cases h2:repP p n r with
 |none=>rw[bind_none h2]
 |some z=>obtain⟨ys,r'⟩:=z;rw[bind_some h2];simp[pureP]
theorem lst_none {α:Type} {g:Int→Bool} {m:Int} {p:Ps α} {l:List UInt8} (h:cntP g m l=none):lstP g m p l=none:=bind_none h
theorem lst_some {α:Type} {g:Int→Bool} {m:Int} {p:Ps α} {l r:List UInt8} {n:Int} (h:cntP g m l=some (n,r)):lstP g m p l=repA p n.toNat [] r:=by
 rw[←repA_nil];exact bind_some h
/-- What is read is not longer than what there was. -/
def Shr {α:Type} (p:Ps α):Prop:= ∀l x r,p l=some (x,r)→r.length≤l.length
theorem shr_rd (g:Int→Bool):Shr (rdG g):=fun _ _ _ h=>rd_len h
theorem shr_txt (g:Int→Bool) (m:Int):Shr (txtP g m):=fun _ _ _ h=>txt_rest h
theorem shr_cnt (g:Int→Bool) (m:Int):Shr (cntP g m):=fun _ _ _ h=>cnt_len h
theorem shr_pure {α:Type} (x:α):Shr (pureP x):=fun l y r h=>by
 simp only[pureP,Option.some.injEq,Prod.mk.injEq]at h;rw[h.2];exact Nat.le_refl _
theorem shr_bind {α β:Type} {p:Ps α} {f:α→Ps β} (hp:Shr p) (hf: ∀x,Shr (f x)):Shr (bindP p f):=fun l y r h=>by
 unfold bindP at h;split at h
 · cases h
 · rename_i x r' hx
   exact Nat.le_trans (hf _ _ _ _ h) (hp _ _ _ hx)
theorem shr_rep {α:Type} {p:Ps α} (hp:Shr p): ∀n,Shr (repP p n)
 |0=>shr_pure _
 |n+1=>shr_bind hp fun _=>shr_bind (shr_rep hp n) fun _=>shr_pure _
theorem shr_lst {α:Type} {p:Ps α} (g:Int→Bool) (m:Int) (hp:Shr p):Shr (lstP g m p):=shr_bind (shr_cnt g m) fun _=>shr_rep hp _
theorem shr_ch (g:Int→Bool) (m:Int):Shr (chP g m):=shr_bind (shr_rd g) fun _=>shr_bind (shr_txt g m) fun _=>shr_bind (shr_txt g m) fun _=>shr_bind (shr_txt g m) fun _=>shr_bind (shr_rd g) fun _=>shr_pure _
end Wr

/-- The cells of an element. -/
def ElV (n:Nat) {α:Type} (V:α→List Value→World→Prop) (z:α×List Value) (W:World):Prop:=V z.1 z.2 W∧z.2.length=n∧ ∀u∈z.2,u.oneCell'=true
/-- A row of one's own that was read. -/
def RowV (B:Nat) (T:TypeId) (n:Nat) {α:Type} (V:α→List Value→World→Prop) (xs:List α) (v:Value) (W:World):Prop:=
 ∃Z:List (α×List Value),Z.map (·.1)=xs∧W.ownsRow B T n v Z.length (Z.map (·.2)).flatten∧ ∀z∈Z,ElV n V z W
theorem rowV_nil (B:Nat) (T:TypeId) (n:Nat) {α:Type} (V:α→List Value→World→Prop) (W:World):RowV B T n V [] (.slice none 0 0) W:=⟨[],rfl,World.ownsRow_nil _ _ _ _,by simp⟩
/-- One change that is read. -/
theorem rch1_any (b g:Nat) (l:List UInt8) (w:World) (h:Rd b l w) (hg:RBox w b g) (hs:l.length≤MaxL) (h6:5<b) (hv:VarsW w):
    Calls Tryz.prog 68 #[.pointer (some ⟨g,0,none⟩)] w fun e w'=>RdPost b (Wr.chP Wr.gN 1000 l) (fun c v _=>v= .agg #[.int .i64 c.k,.string c.p,.string c.q,.string c.t,.int .i64 c.b]) e w'∧w.grownBy w' (some b):=by
 unfold Wr.chP;cases h1:Wr.rdG Wr.gN l with
 |none=>exact(rch1_no1 b g l [] [] [] [] [] 0 0 ⟨#[]⟩ ⟨#[]⟩ ⟨#[]⟩ w h hg hs h6 hv h1).mono fun e w' hh=>⟨RdPost.no (Wr.bind_none h1) hh.1,hh.2⟩
 |some z1=>
 obtain⟨k,r1⟩:=z1
 rw[Wr.bind_some h1];cases h2:Wr.txtP Wr.gN 1000 r1 with
 |none=>exact(rch1_no2 b g l r1 [] [] [] [] k 0 ⟨#[]⟩ ⟨#[]⟩ ⟨#[]⟩ w h hg hs h6 hv h1 h2).mono fun e w' hh=>⟨RdPost.no (Wr.bind_none h2) hh.1,hh.2⟩
 |some z2=>
 obtain⟨p,r2⟩:=z2
 rw[Wr.bind_some h2];cases h3:Wr.txtP Wr.gN 1000 r2 with
 |none=>exact(rch1_no3 b g l r1 r2 [] [] [] k 0 p ⟨#[]⟩ ⟨#[]⟩ w h hg hs h6 hv h1 h2 h3).mono fun e w' hh=>⟨RdPost.no (Wr.bind_none h3) hh.1,hh.2⟩
 |some z3=>
 obtain⟨q,r3⟩:=z3
 rw[Wr.bind_some h3];cases h4:Wr.txtP Wr.gN 1000 r3 with
 |none=>exact(rch1_no4 b g l r1 r2 r3 [] [] k 0 p q ⟨#[]⟩ w h hg hs h6 hv h1 h2 h3 h4).mono fun e w' hh=>⟨RdPost.no (Wr.bind_none h4) hh.1,hh.2⟩
 |some z4=>
 obtain⟨t,r4⟩:=z4
 rw[Wr.bind_some h4];cases h5:Wr.rdG Wr.gN r4 with
 |none=>exact(rch1_no5 b g l r1 r2 r3 r4 [] k 0 p q t w h hg hs h6 hv h1 h2 h3 h4 h5).mono fun e w' hh=>⟨RdPost.no (Wr.bind_none h5) hh.1,hh.2⟩
 |some z5=>
 obtain⟨cb,r5⟩:=z5
 exact(rch1_ok b g l r1 r2 r3 r4 r5 k cb p q t w h hg hs h6 hv h1 h2 h3 h4 h5).mono fun e w' hh=>⟨RdPost.yes (x:=⟨k,p,q,t,cb⟩) _ (Wr.bind_some h5) hh.1 rfl hh.2.1,hh.2.2⟩
theorem ownsRow_nbX {w w':World} {base:Nat} {e:TypeId} {size:Nat} {v:Value} {n:Nat} {xs:List Value} {g:Nat} (h:w.ownsRow base e size v n xs) (hw:w.grownBy w' (some g)) (hg:g<base):w'.ownsRow base e size v n xs:=
 h.kept (row:=some g) hw (by
  cases hv:v.ownBlock with
  |none=>exact Or.inl rfl
  |some q=>exact Or.inr (fun he=>by injection he with he;have:=(h.lt q hv).1;omega))
theorem nb_then {w W W':World} {b:Nat} (h:w.grownBy W (some b)) (k:Below w.heap.size W W'):w.grownBy W' (some b):=⟨k.os.trans h.os,k.tape.trans h.tape,k.output.trans h.output,Nat.le_trans h.size k.size,fun x hx hn=>(k.block x hx).trans (h.block x hx hn)⟩
theorem Rd.belowB {b B:Nat} {l:List UInt8} {w w':World} (h:Rd b l w) (hb:Below B w w') (hB:b<B):Rd b l w':=(hb.block b hB).trans h
theorem RBox.belowB {b g B:Nat} {w w':World} (h:RBox w b g) (hb:Below B w w') (hB:g<B):RBox w' b g:=⟨(hb.block g hB).trans h.1,h.2⟩
/-- A row that was read stays, while other blocks are written. -/
theorem RowV.snoc {B:Nat} {T:TypeId} {n:Nat} {α:Type} {V:α→List Value→World→Prop} {Z:List (α×List Value)} {x:α} {r:List Value} {v:Value} {W:World} (ho:W.ownsRow B T n v (Z.length+1) ((Z.map (·.2)).flatten++r)) (h: ∀z∈Z,ElV n V z W) (hx:ElV n V (x,r) W):RowV B T n V (Z.map (·.1)++[x]) v W:=by
 refine⟨Z++[(x,r)],by simp,by simpa using ho,fun z hz=>?_⟩
 rcases List.mem_append.1 hz with h1|h1
 · exact h z h1
 · rw[List.mem_singleton]at h1;rw[h1];exact hx
theorem ownsRow_lowX {w:World} {B B':Nat} {e:TypeId} {size:Nat} {v:Value} {n:Nat} {xs:List Value} (h:w.ownsRow B e size v n xs) (hB:B'≤B):w.ownsRow B' e size v n xs:=by
 obtain⟨h1,h2⟩:=h
 refine⟨h1,?_⟩
 rcases h2 with h2|⟨g,cap,cur,hv,hg,r⟩
 · exact .inl h2
 · exact .inr ⟨g,cap,cur,hv,Nat.le_trans hB hg,r⟩
end Go.Proofs.YtdifomkoegmngaaGreatDoor
namespace Go.Proofs.YtdifomkoegmngaaGreatDoor
open Go.RowKit

/-- What may be appended: nil, or so many records that lie at an address. -/
def SrcC (w:World) (sx:Value) (m size:Nat) (news:List Value):Prop:=(sx= .slice none 0 0∧m=0∧news=[])∨ ∃ad c,sx= .slice (some ad) m c∧news.length=m*size∧(∀j u,news[j]?=some u→w.cell? (ad.add j)=some u)
theorem SrcC.own {w:World} {B:Nat} {e:TypeId} {size:Nat} {v:Value} {n:Nat} {xs:List Value} (h:w.ownsRow B e size v n xs):SrcC w v n size xs:=by
 have h':=h;obtain⟨hl,h2⟩:=h
 rcases h2 with⟨rfl,rfl⟩|⟨g,cap,cur,rfl,hg,hh,hn,hm,hz,htake⟩
 · exact Or.inl ⟨rfl,rfl,List.length_eq_zero_iff.1 (by rw[hl];simp)⟩
 · refine Or.inr ⟨⟨g,0,none⟩,cap,rfl,hl,fun j u hj=>?_⟩
   have hadd:(⟨g,0,none⟩:Addr).add j=⟨g,j,none⟩:=by unfold Addr.add;split<;>simp_all
   have hlt:j<n*size:=by
    have:=(List.getElem?_eq_some_iff.1 hj).1
    omega
   rw[hadd,h'.cellAt j hlt];exact hj
theorem Tryz.infoW5:(Tryz.prog.info? 53).map (fun i=>(i.zero,i.size,i.bytes))=some (some (.agg #[.int .i64 0,.string ⟨#[]⟩,.string ⟨#[]⟩,.string ⟨#[]⟩,.int .i64 0]),5,64):=by kernel_rfl
def VCh (x:Pp.Ch) (r:List Value) (_:World):Prop:=r=[.int .i64 x.k,.string x.p,.string x.q,.string x.t,.int .i64 x.b]
theorem rlc_enters: ∀args w,(callFunc 68 args).run Tryz.prog w= .ok (.enter 68 args) w:=enters_of Tryz.func68 (by kernel_rfl) rfl
/-- A list that is being read. -/
structure Rrlc (w:World) (b g:Nat) (x:Value) (xs:List (Pp.Ch)) (r:List UInt8) (W:World):Prop where
 row:RowV w.heap.size 53 5 VCh xs x W
 rd:Rd b r W
 box:RBox W b g
 v:VarsW W
 fr:w.grownBy W (some b)
 rl:r.length≤MaxL
theorem rlc_new (W:World) (x:Pp.Ch): ∀j u,([.int .i64 x.k,.string x.p,.string x.q,.string x.t,.int .i64 x.b]:List Value)[j]?=some u→(W.alloc (.cells #[.int .i64 x.k,.string x.p,.string x.q,.string x.t,.int .i64 x.b] 53)).cell? ((⟨W.heap.size,0,none⟩:Addr).add j)=some u:=by
 intro j u hu;have h:=Cs.new W ([.int .i64 x.k,.string x.p,.string x.q,.string x.t,.int .i64 x.b]) 53;have h2:=h.cell j hu;rw[Addr.add_lit,Nat.zero_add];exact h2
set_option maxHeartbeats 2000000 in
theorem rlc_any (b g:Nat) (l:List UInt8) (w:World) (h:Rd b l w) (hg:RBox w b g) (hs:l.length≤MaxL) (h6:5<b) (hv:VarsW w):
    Calls Tryz.prog 67 #[.pointer (some ⟨b,0,none⟩),.int .i64 20,.func (.func 68) #[] #[.pointer (some ⟨g,0,none⟩)]] w fun e w'=>RdPost b (Wr.lstP Wr.gN 20 (Wr.chP Wr.gN 1000) l) (RowV w.heap.size 53 5 VCh) e w'∧w.grownBy w' (some b):=by
 have eg:=rlc_enters;cases hc:Wr.cntP Wr.gN 20 l with
 |none=>
  have HK:=hid (rcnt_no h hs h6 hv hc);have HN:=hid (Wr.lst_none (p:=Wr.chP Wr.gN 1000) hc);clear h hv hc hg;go_enter Tryz.func67,Tryz.ntmps67
  go_wp2_with fail;refine HK.out.mono ?_
  rintro e w1 ⟨rfl,hb1⟩;exact bodyPost_panic rfl ⟨RdPost.no HN.out rfl,hb1⟩
 |some z=>
 obtain⟨n,r1⟩:=z
 obtain⟨_,n0,n1⟩:=Wr.cnt_some hc
 obtain⟨N,rfl⟩: ∃k:Nat,n=k:=⟨n.toNat,by omega⟩
 have HK:=hid (rcnt_ok h hs h6 hv hc);have HN:=hid (Wr.lst_some (p:=Wr.chP Wr.gN 1000) hc);rw[show((N:Int).toNat)=N from rfl]at HN;have hl1:=Wr.cnt_len hc;obtain⟨i0,hi0,hz0,hz1,hz2⟩:=info_parts Tryz.infoW5
 have hbl:=h.lt;have hgb:=heap_lt hg.1;have HS:=hid (Wr.shr_ch _ _:Wr.Shr (Wr.chP Wr.gN 1000));have HG:=hid hg;have HV0:=hid hv;clear h hv hc hg;go_enter Tryz.func67,Tryz.ntmps67
 go_wp2_with fail;refine HK.out.mono ?_
 rintro e w1 ⟨rfl,hr1,hb1⟩;have HR:=hid (show Rrlc w b g (.slice none 0 0) [] r1 w1 from⟨rowV_nil _ _ _ _ _,hr1,HG.out.nb hb1,HV0.out.nb h6 (by omega) hb1,hb1,by omega⟩);clear HK hr1 hb1 HG HV0;go_wp2_with fail;go_loopw [7,11] (fun x i wr=> ∃(k:Nat) (xs:List (Pp.Ch)) (r:List UInt8),k≤N∧i= .int .i64 k∧Hid (Rrlc w b g x xs r wr)∧Hid (Wr.lstP Wr.gN 20 (Wr.chP Wr.gN 1000) l=Wr.repA (Wr.chP Wr.gN 1000) (N-k) xs r)∧xs.length=k) (fun _ i _=>N-(intOf i).toNat)
 case atStart=>exact⟨0,[],r1,Nat.zero_le _,rfl,HR,HN,rfl⟩
 case round=>
  obtain⟨k,xs,r,hk,rfl,HL,HE,hxk⟩:=hrel
  by_cases hlt:k<N
  · have HO:=hid (rch1_any b g r wr HL.out.rd HL.out.box HL.out.rl h6 HL.out.v)
    obtain⟨m,hm⟩: ∃m,N-k=m+1:=⟨N-k-1,by omega⟩
    cases hp:(Wr.chP Wr.gN 1000) r with
    |none=>
     have HF:=hid (Wr.repA_no (n:=m) (xs:=xs) hp);rw[hm]at HE;rw[hp]at HO;clear hp HN HR hm;go_wp2_with fail;refine HO.out.mono ?_
     rintro e w2 ⟨he,hb2⟩;cases he
     exact(show bodyPost Tryz.prog Tryz.f67 (fun e w'=>RdPost b (Wr.lstP Wr.gN 20 (Wr.chP Wr.gN 1000) l) (RowV w.heap.size 53 5 VCh) e w'∧w.grownBy w' (some b)) (.panic _) _ w2 from bodyPost_panic rfl ⟨RdPost.no (HE.out.trans HF.out) rfl,nb_tr HL.out.fr hb2⟩)
    |some z=>
     obtain⟨x,r'⟩:=z
     have HF:=hid (Wr.repA_yes (n:=m) (xs:=xs) hp);rw[hm]at HE;have hl2:=HS.out _ _ _ hp;rw[hp]at HO;have hrl:=HL.out.rl;clear hp HN HR;obtain⟨Z,hZ1,hZ2,hZ3⟩:=HL.out.row
     have hZl:Z.length=k:=by rw[←hxk,←hZ1,List.length_map]
     go_wp2_with fail;refine HO.out.mono ?_
     rintro e w2 ⟨⟨v2,rfl,rfl,hr2⟩,hb2⟩;have hfr2:=nb_tr HL.out.fr hb2;have hO2:=ownsRow_nbX hZ2 hb2 hbl;have hsz2:=hfr2.size;have HB2:=hid (HL.out.box.nb hb2);have HV2:=hid (HL.out.v.nb h6 (by have:=HL.out.rd.lt;omega) hb2);have HR2:=hid hr2;have hgl:=HL.out.box;have hsr:=HL.out.fr.size;clear hr2 HO;go_wp2_with (at_builtin;refine wpList_append_own _ rfl _ _ 26 rfl w.heap.size 53 i0 (.agg #[.int .i64 0,.string ⟨#[]⟩,.string ⟨#[]⟩,.string ⟨#[]⟩,.int .i64 0]) 5 64 Tryz.underlying26 hi0 hz0 hz1 hz2 rfl (by decide) _ _ _ rfl (hO2.alloc _) ⟨w2.heap.size,0,none⟩ 1 1 ([.int .i64 x.k,.string x.p,.string x.q,.string x.t,.int .i64 x.b]) rfl rfl (rlc_new w2 x) (by simp[Value.oneCell']) (by unfold maxLen;omega) (by omega) (by simp;omega) ?_)
     intro v5 w5 ho5 hgr5 hnn5;have hB5:Below w.heap.size w2 w5:=((Below.refl _ w2).alloc hsz2 _).grown hgr5 (by simp;omega) (fun q hq=>(hO2.lt q hq).1);have HL5:=hid (show Rrlc w b g v5 (xs++[x]) r' w5 from⟨by rw[←hZ1];exact RowV.snoc (r:=[.int .i64 x.k,.string x.p,.string x.q,.string x.t,.int .i64 x.b]) (by rw[hZl];exact ho5) (fun z hz=>⟨(hZ3 z hz).1,(hZ3 z hz).2⟩) ⟨rfl,rfl,by simp[Value.oneCell']⟩,HR2.out.belowB hB5 hbl,HB2.out.belowB hB5 hgb,HV2.out.belowB (by omega) hB5,nb_then hfr2 hB5,by omega⟩);clear ho5 hgr5 hnn5 hO2 hZ1 hZ2 hZ3 hB5;go_wp2_with fail;go_roundw
     case rel=>exact⟨k+1,xs++[x],r',by omega,by simp,HL5,hid (by rw[HE.out,HF.out,show N-(k+1)=m from by omega]),by simp[hxk]⟩
     case measure=>simp[intOf];omega
  · obtain rfl:k=N:=by omega
    rw[Nat.sub_self,Wr.repA_zero]at HE;clear HN HR;go_wp2_with fail;go_ret;exact⟨RdPost.yes _ HE.out rfl HL.out.row HL.out.rd,HL.out.fr⟩
theorem RowV.low {B B':Nat} {T:TypeId} {n:Nat} {α:Type} {V:α→List Value→World→Prop} {xs:List α} {v:Value} {W:World} (h:RowV B T n V xs v W) (hB:B'≤B):RowV B' T n V xs v W:=by
 obtain⟨Z,h1,h2,h3⟩:=h
 exact⟨Z,h1,ownsRow_lowX h2 hB,h3⟩
theorem RdPost.map {α:Type} {b:Nat} {res:Option (α×List UInt8)} {V V':α→Value→World→Prop} {e:Ending} {w':World} (h:RdPost b res V e w') (hV: ∀x v,V x v w'→V' x v w'):RdPost b res V' e w':=by
 cases res with
 |none=>exact h
 |some z=>obtain⟨v,h1,h2,h3⟩:=h;exact⟨v,h1,hV _ _ h2,h3⟩
set_option maxHeartbeats 1000000 in
theorem rchs_any (b:Nat) (l:List UInt8) (w:World) (h:Rd b l w) (hs:l.length≤MaxL) (h6:5<b) (hv:VarsW w):
    Calls Tryz.prog 36 #[.pointer (some ⟨b,0,none⟩)] w fun e w'=>RdPost b (Wr.lstP Wr.gN 20 (Wr.chP Wr.gN 1000) l) (RowV w.heap.size 53 5 VCh) e w'∧w.grownBy w' (some b):=by
 have hmf: ∀(fn:Fn) (first cap:Array Value) (w:World),(Instr.makeFunc fn first cap).run Tryz.prog w= .ok (.func fn first cap) w:=fun _ _ _ _=>rfl
 have hlt:=h.lt;obtain⟨wz,hwz⟩: ∃wz,wz=w.alloc (.cells #[.pointer (some ⟨b,0,none⟩)] 75):=⟨_,rfl⟩
 have hbz:Below w.heap.size w wz:=by rw[hwz];exact below_alloc _ _
 have hgz:RBox wz b w.heap.size:=⟨by rw[hwz];exact heap_alloc_new w _,by omega⟩
 have hsz:=hbz.size;have HK:=hid (rlc_any b w.heap.size l wz (h.below hbz) hgz hs h6 (hv.belowB (by omega) hbz));have HF:=hid (nb_below b hbz);rw[hwz]at HK;have HWZ:=hid hwz;clear hwz hgz hv h;go_enter Tryz.func36,Tryz.ntmps36
 go_wp2_with fail;refine HK.out.mono ?_
 rintro e w2 ⟨hp,hf2⟩;rw[←HWZ.out]at hf2 hp;have hp2:=hp.map (V':=RowV w.heap.size 53 5 VCh) (fun x v hx=>hx.low hsz);cases hr:Wr.lstP Wr.gN 20 (Wr.chP Wr.gN 1000) l with
 |none=>
  rw[hr]at hp2;cases hp2
  exact bodyPost_panic rfl ⟨RdPost.no hr rfl,nb_tr HF.out hf2⟩
 |some z=>
  obtain⟨cs,r⟩:=z
  rw[hr]at hp2;obtain⟨v,rfl,hV,hrd⟩:=hp2
  have HV:=hid hV;have HR:=hid hrd;clear hV hrd hp;go_wp2_with fail;go_ret;exact⟨RdPost.yes v hr rfl HV.out HR.out,nb_tr HF.out hf2⟩
theorem rnum_any {b:Nat} {l:List UInt8} {w:World} (h:Rd b l w) (hs:l.length≤MaxL) (h6:5<b) (hv:VarsW w):
    Calls Tryz.prog 34 #[.pointer (some ⟨b,0,none⟩)] w fun e w'=>RdPost b (Wr.rdG Wr.gN l) (fun n v _=>v= .int .i64 n) e w'∧w.grownBy w' (some b):=by
 cases hr:Wr.rdG Wr.gN l with
 |none=>exact(rnum_no h hs h6 hv hr).mono fun e w' hh=>⟨hh.1,hh.2⟩
 |some z=>exact(rnum_ok h hs h6 hv hr).mono fun e w' hh=>⟨⟨_,hh.1,rfl,hh.2.1⟩,hh.2.2⟩
theorem rtxt_any {b:Nat} {l:List UInt8} {w:World} (h:Rd b l w) (hs:l.length≤MaxL) (h6:5<b) (hv:VarsW w):
    Calls Tryz.prog 35 #[.pointer (some ⟨b,0,none⟩)] w fun e w'=>RdPost b (Wr.txtP Wr.gN 1000 l) (fun x v _=>v= .string x) e w'∧w.grownBy w' (some b):=by
 cases hr:Wr.txtP Wr.gN 1000 l with
 |none=>exact(rtxt_no h hs h6 hv hr).mono fun e w' hh=>⟨hh.1,hh.2⟩
 |some z=>exact(rtxt_ok h hs h6 hv hr).mono fun e w' hh=>⟨⟨_,hh.1,rfl,hh.2.1⟩,hh.2.2⟩
/-- A reader at work on a record of its own. -/
structure R4 (w:World) (b C R:Nat) (l:List UInt8) (cs zs:List Value) (W:World):Prop where
 rd:Rd b l W
 v:VarsW W
 cC:Cs W C cs
 cR:Cs W R zs
 fr:w.grownBy W (some b)
 bl:b<w.heap.size
 Cl:w.heap.size≤C
 Rl:w.heap.size≤R
 ne:C≠R
 b6:5<b
theorem R4.call {w W W':World} {b C R:Nat} {l r:List UInt8} {cs zs:List Value} (h:R4 w b C R l cs zs W) (hn:W.grownBy W' (some b)) (hr:Rd b r W'):R4 w b C R r cs zs W':=
 ⟨hr,h.v.nb h.b6 (by have:=h.rd.lt;have:=h.b6;omega) hn,h.cC.nb hn (by have:=h.bl;have:=h.Cl;omega),h.cR.nb hn (by have:=h.bl;have:=h.Rl;omega),nb_tr h.fr hn,h.bl,h.Cl,h.Rl,h.ne,h.b6⟩
theorem R4.set {w W:World} {b C R:Nat} {l:List UInt8} {cs zs:List Value} (h:R4 w b C R l cs zs W) (i:Nat) (v:Value):R4 w b C R l (cs.set i v) zs (W.setCell ⟨C,i,none⟩ v):=by
 have hb:=h.bl;have hC:=h.Cl;have hn:=nb_set W C i v;exact⟨h.rd.nb hn (by omega),h.v.nb (by have:=h.b6;omega) (by have:=h.rd.lt;have:=h.b6;omega) hn,h.cC.set i v,h.cR.nb hn h.ne.symm,nb_new h.fr h.Cl v,h.bl,h.Cl,h.Rl,h.ne,h.b6⟩
theorem R4.drew {w W:World} {b C R:Nat} {l:List UInt8} {cs zs:List Value} (h:R4 w b C R l cs zs W):R4 w b C R l cs zs W.drew:=
 h.call (nb_below b (Below.refl _ _).drew) h.rd
theorem r4_new {w:World} {b:Nat} {l:List UInt8} (cs zs:List Value) (T U:TypeId) (h:Rd b l w) (h6:5<b) (hv:VarsW w):R4 w b (w.heap.size+1) w.heap.size l cs zs ((w.alloc (.cells zs.toArray T)).alloc (.cells cs.toArray U)):=by
 have hbl:=h.lt;obtain⟨wa,hwa⟩: ∃wa,wa=w.alloc (.cells zs.toArray T):=⟨_,rfl⟩
 rw[←hwa];have sa:wa.heap.size=w.heap.size+1:=by rw[hwa];simp
 have hba:Below w.heap.size w wa:=by rw[hwa];exact below_alloc _ _
 have hbb:=below_alloc wa (.cells cs.toArray U);have hab:=hba.trans (hbb.mono (by omega));refine⟨h.below hab,hv.belowB (by omega) hab,?_,?_,nb_below b hab,hbl,by omega,Nat.le_refl _,by omega,h6⟩
 · rw[←sa];exact Cs.new wa cs _
 · exact Cs.belowAt (show Cs wa w.heap.size zs by rw[hwa];exact Cs.new w zs _) hbb (by omega)
theorem RowV.shape {B:Nat} {T:TypeId} {n:Nat} {α:Type} {V:α→List Value→World→Prop} {xs:List α} {v:Value} {W:World} (h:RowV B T n V xs v W): ∃a l c,v= .slice a l c:=by
 obtain⟨Z,_,⟨_,h2⟩,_⟩:=h
 rcases h2 with⟨rfl,_⟩|⟨g,cap,cur,rfl,_⟩
 · exact⟨_,_,_,rfl⟩
 · exact⟨_,_,_,rfl⟩
theorem RowV.nb {B:Nat} {T:TypeId} {n:Nat} {α:Type} {V:α→List Value→World→Prop} {xs:List α} {v:Value} {W W':World} {g:Nat} (h:RowV B T n V xs v W) (hw:W.grownBy W' (some g)) (hg:g<B) (hV: ∀x r,V x r W→V x r W'):RowV B T n V xs v W':=by
 obtain⟨Z,h1,h2,h3⟩:=h
 exact⟨Z,h1,ownsRow_nbX h2 hw hg,fun z hz=>⟨hV _ _ (h3 z hz).1,(h3 z hz).2⟩⟩
theorem RowV.setC {B:Nat} {T:TypeId} {n:Nat} {xs:List Pp.Ch} {v:Value} {W:World} (h:RowV B T n VCh xs v W) {g:Nat} (hg:g<B) (i:Nat) (u:Value):RowV B T n VCh xs v (W.setCell ⟨g,i,none⟩ u):=h.nb (nb_set W g i u) hg (fun _ _ h=>h)
namespace Wr
def rqP (g:Int→Bool) (m:Int):Ps Rq:=bindP (rdG g) fun k=>bindP (txtP g m) fun a=>bindP (txtP g m) fun b=>bindP (txtP g m) fun c=>bindP (txtP g m) fun d=>bindP (txtP g m) fun e=>bindP (rdG g) fun x=>bindP (rdG g) fun y=>bindP (rdG g) fun z=>bindP (lstP g 20 (chP g m)) fun cs=>pureP ⟨k,a,b,c,d,e,x,y,z,cs⟩
end Wr
abbrev zrq:List Value:=[.int .i64 0,.string ⟨#[]⟩,.string ⟨#[]⟩,.string ⟨#[]⟩,.string ⟨#[]⟩,.string ⟨#[]⟩,.int .i64 0,.int .i64 0,.int .i64 0,.slice none 0 0]
/-- A request that was read. -/
def RqV (B:Nat) (q:Rq) (v:Value) (W:World):Prop:= ∃vc,v= .agg #[.int .i64 q.kind,.string q.who,.string q.fo,.string q.name,.string q.key,.string q.text,.int .i64 q.num,.int .i64 q.off,.int .i64 q.base,vc]∧RowV B 53 5 VCh q.ch vc W
set_option maxHeartbeats 4000000 in
theorem rrq_any (b:Nat) (l:List UInt8) (w:World) (h:Rd b l w) (hs:l.length≤MaxL) (h6:5<b) (hv:VarsW w):
    Calls Tryz.prog 33 #[.pointer (some ⟨b,0,none⟩)] w fun e w'=>RdPost b (Wr.rqP Wr.gN 1000 l) (RqV w.heap.size) e w'∧w.grownBy w' (some b):=by
 have HE0:=hid (show Wr.rqP Wr.gN 1000 l=Wr.rqP Wr.gN 1000 l from rfl);conv at HE0=>arg 1;rhs;unfold Wr.rqP
 generalize hP:Wr.rqP Wr.gN 1000 l=res at*;clear hP;have H0:=hid (r4_new zrq zrq 39 39 h h6 hv);have hbl:=h.lt;have PN:=hid (show∀(a:Act) (W:World),a.defers=[]→w.grownBy W (some b)→res=none→bodyPost Tryz.prog Tryz.f33 (fun e w'=>RdPost b res (RqV w.heap.size) e w'∧w.grownBy w' (some b)) (.panic [{v:= .iface 28 (.int .i64 1),recovered:=false}]) a W from fun a W hd hw hr=>bodyPost_panic hd ⟨RdPost.no hr rfl,hw⟩);clear hv h;go_enter Tryz.func33,Tryz.ntmps33
 go_wp2_with fail;refine(rnum_any H0.out.rd (by omega) h6 H0.out.v).mono ?_
 rintro e w1 ⟨hp,hn1⟩;cases hq:Wr.rdG Wr.gN l with
 |none=>
  rw[hq]at hp;cases hp
  exact PN.out _ _ rfl (nb_tr H0.out.fr hn1) (HE0.out.trans (Wr.bind_none hq))
 |some z=>
 obtain⟨k,r1⟩:=z
 rw[hq]at hp;obtain⟨_,rfl,rfl,hr1⟩:=hp
 have HE1:=hid (HE0.out.trans (Wr.bind_some hq));have s1:=Wr.rd_len hq;have H1:=hid (H0.out.call hn1 hr1);clear hq HE0;have c0:=H1.out.cC.cell 0 rfl;have f0:=H1.out.cC.fr 0;go_wp2_with fail;clear c0 f0;refine(rtxt_any (H1.out.set 0 (.int .i64 k)).rd (by omega) h6 (H1.out.set 0 (.int .i64 k)).v).mono ?_
 rintro e w2 ⟨hp,hn2⟩;cases hq:Wr.txtP Wr.gN 1000 r1 with
 |none=>
  rw[hq]at hp;cases hp
  exact PN.out _ _ rfl (nb_tr (H1.out.set 0 (.int .i64 k)).fr hn2) (HE1.out.trans (Wr.bind_none hq))
 |some z=>
 obtain⟨ta,r2⟩:=z
 rw[hq]at hp;obtain⟨_,rfl,rfl,hr2⟩:=hp
 have HE2:=hid (HE1.out.trans (Wr.bind_some hq));have s2:=Wr.txt_rest hq;have H2:=hid ((H1.out.set 0 (.int .i64 k)).call hn2 hr2);clear hq HE1;go_wp2_with fail;refine(rtxt_any H2.out.rd (by omega) h6 H2.out.v).mono ?_
 rintro e w3 ⟨hp,hn3⟩;cases hq:Wr.txtP Wr.gN 1000 r2 with
 |none=>
  rw[hq]at hp;cases hp
  exact PN.out _ _ rfl (nb_tr H2.out.fr hn3) (HE2.out.trans (Wr.bind_none hq))
 |some z=>
 obtain⟨tb,r3⟩:=z
 rw[hq]at hp;obtain⟨_,rfl,rfl,hr3⟩:=hp
 have HE3:=hid (HE2.out.trans (Wr.bind_some hq));have s3:=Wr.txt_rest hq;have H3:=hid (H2.out.call hn3 hr3);clear hq HE2;go_wp2_with fail;refine(rtxt_any H3.out.rd (by omega) h6 H3.out.v).mono ?_
 rintro e w4 ⟨hp,hn4⟩;cases hq:Wr.txtP Wr.gN 1000 r3 with
 |none=>
  rw[hq]at hp;cases hp
  exact PN.out _ _ rfl (nb_tr H3.out.fr hn4) (HE3.out.trans (Wr.bind_none hq))
 |some z=>
 obtain⟨tc,r4⟩:=z
 rw[hq]at hp;obtain⟨_,rfl,rfl,hr4⟩:=hp
 have HE4:=hid (HE3.out.trans (Wr.bind_some hq));have s4:=Wr.txt_rest hq;have H4:=hid (H3.out.call hn4 hr4);clear hq HE3;go_wp2_with fail;refine(rtxt_any H4.out.rd (by omega) h6 H4.out.v).mono ?_
 rintro e w5 ⟨hp,hn5⟩;cases hq:Wr.txtP Wr.gN 1000 r4 with
 |none=>
  rw[hq]at hp;cases hp
  exact PN.out _ _ rfl (nb_tr H4.out.fr hn5) (HE4.out.trans (Wr.bind_none hq))
 |some z=>
 obtain⟨td,r5⟩:=z
 rw[hq]at hp;obtain⟨_,rfl,rfl,hr5⟩:=hp
 have HE5:=hid (HE4.out.trans (Wr.bind_some hq));have s5:=Wr.txt_rest hq;have H5:=hid (H4.out.call hn5 hr5);clear hq HE4;go_wp2_with fail;refine(rtxt_any H5.out.rd (by omega) h6 H5.out.v).mono ?_
 rintro e w6 ⟨hp,hn6⟩;cases hq:Wr.txtP Wr.gN 1000 r5 with
 |none=>
  rw[hq]at hp;cases hp
  exact PN.out _ _ rfl (nb_tr H5.out.fr hn6) (HE5.out.trans (Wr.bind_none hq))
 |some z=>
 obtain⟨te,r6⟩:=z
 rw[hq]at hp;obtain⟨_,rfl,rfl,hr6⟩:=hp
 have HE6:=hid (HE5.out.trans (Wr.bind_some hq));have s6:=Wr.txt_rest hq;have H6:=hid (H5.out.call hn6 hr6);clear hq HE5;have c1:=H6.out.cC.cell 1 rfl;have f1:=H6.out.cC.fr 1;have c2:=H6.out.cC.cell 2 rfl;have f2:=H6.out.cC.fr 2;have c3:=H6.out.cC.cell 3 rfl;have f3:=H6.out.cC.fr 3;have c4:=H6.out.cC.cell 4 rfl;have f4:=H6.out.cC.fr 4;have c5:=H6.out.cC.cell 5 rfl;have f5:=H6.out.cC.fr 5;go_wp2_with fail;clear c1 f1 c2 f2 c3 f3 c4 f4 c5 f5;refine(rnum_any (((((H6.out.set 1 (.string ta)).set 2 (.string tb)).set 3 (.string tc)).set 4 (.string td)).set 5 (.string te)).rd (by omega) h6 (((((H6.out.set 1 (.string ta)).set 2 (.string tb)).set 3 (.string tc)).set 4 (.string td)).set 5 (.string te)).v).mono ?_
 rintro e w7 ⟨hp,hn7⟩;cases hq:Wr.rdG Wr.gN r6 with
 |none=>
  rw[hq]at hp;cases hp
  exact PN.out _ _ rfl (nb_tr (((((H6.out.set 1 (.string ta)).set 2 (.string tb)).set 3 (.string tc)).set 4 (.string td)).set 5 (.string te)).fr hn7) (HE6.out.trans (Wr.bind_none hq))
 |some z=>
 obtain⟨x,r7⟩:=z
 rw[hq]at hp;obtain⟨_,rfl,rfl,hr7⟩:=hp
 have HE7:=hid (HE6.out.trans (Wr.bind_some hq));have s7:=Wr.rd_len hq;have H7:=hid ((((((H6.out.set 1 (.string ta)).set 2 (.string tb)).set 3 (.string tc)).set 4 (.string td)).set 5 (.string te)).call hn7 hr7);clear hq HE6;go_wp2_with fail;refine(rnum_any H7.out.rd (by omega) h6 H7.out.v).mono ?_
 rintro e w8 ⟨hp,hn8⟩;cases hq:Wr.rdG Wr.gN r7 with
 |none=>
  rw[hq]at hp;cases hp
  exact PN.out _ _ rfl (nb_tr H7.out.fr hn8) (HE7.out.trans (Wr.bind_none hq))
 |some z=>
 obtain⟨y,r8⟩:=z
 rw[hq]at hp;obtain⟨_,rfl,rfl,hr8⟩:=hp
 have HE8:=hid (HE7.out.trans (Wr.bind_some hq));have s8:=Wr.rd_len hq;have H8:=hid (H7.out.call hn8 hr8);clear hq HE7;go_wp2_with fail;refine(rnum_any H8.out.rd (by omega) h6 H8.out.v).mono ?_
 rintro e w9 ⟨hp,hn9⟩;cases hq:Wr.rdG Wr.gN r8 with
 |none=>
  rw[hq]at hp;cases hp
  exact PN.out _ _ rfl (nb_tr H8.out.fr hn9) (HE8.out.trans (Wr.bind_none hq))
 |some z=>
 obtain⟨z',r9⟩:=z
 rw[hq]at hp;obtain⟨_,rfl,rfl,hr9⟩:=hp
 have HE9:=hid (HE8.out.trans (Wr.bind_some hq));have s9:=Wr.rd_len hq;have H9:=hid (H8.out.call hn9 hr9);clear hq HE8;have c6:=H9.out.cC.cell 6 rfl;have f6:=H9.out.cC.fr 6;have c7:=H9.out.cC.cell 7 rfl;have f7:=H9.out.cC.fr 7;have c8:=H9.out.cC.cell 8 rfl;have f8:=H9.out.cC.fr 8;go_wp2_with fail;clear c6 f6 c7 f7 c8 f8;refine(rchs_any b r9 _ (((H9.out.set 6 (.int .i64 x)).set 7 (.int .i64 y)).set 8 (.int .i64 z')).rd (by omega) h6 (((H9.out.set 6 (.int .i64 x)).set 7 (.int .i64 y)).set 8 (.int .i64 z')).v).mono ?_
 rintro e w10 ⟨hp,hn10⟩;cases hq:Wr.lstP Wr.gN 20 (Wr.chP Wr.gN 1000) r9 with
 |none=>
  rw[hq]at hp;cases hp
  exact PN.out _ _ rfl (nb_tr (((H9.out.set 6 (.int .i64 x)).set 7 (.int .i64 y)).set 8 (.int .i64 z')).fr hn10) (HE9.out.trans (Wr.bind_none hq))
 |some z=>
 obtain⟨cs,r10⟩:=z
 rw[hq]at hp;obtain⟨vc,rfl,hrow,hr10⟩:=hp
 have HE10:=hid (HE9.out.trans (Wr.bind_some hq));have s10:=Wr.shr_lst _ _ (Wr.shr_ch _ _) _ _ _ hq;have H10:=hid ((((H9.out.set 6 (.int .i64 x)).set 7 (.int .i64 y)).set 8 (.int .i64 z')).call hn10 hr10);clear hq HE9;have hbc:=hrow;obtain⟨av,lv,cv,rfl⟩:=hbc.shape
 have HRW:=hid hrow;have hs9:=(((H9.out.set 6 (.int .i64 x)).set 7 (.int .i64 y)).set 8 (.int .i64 z')).fr.size;have hCR:=H10.out.ne;have hC9:=((((H9.out.set 6 (.int .i64 x)).set 7 (.int .i64 y)).set 8 (.int .i64 z')).cC).lt;have hR9:=((((H9.out.set 6 (.int .i64 x)).set 7 (.int .i64 y)).set 8 (.int .i64 z')).cR).lt;clear hrow hbc;have y0:=H10.out.cC.cell 0 rfl;have y1:=H10.out.cC.cell 1 rfl;have y2:=H10.out.cC.cell 2 rfl;have y3:=H10.out.cC.cell 3 rfl;have y4:=H10.out.cC.cell 4 rfl;have y5:=H10.out.cC.cell 5 rfl;have y6:=H10.out.cC.cell 6 rfl;have y7:=H10.out.cC.cell 7 rfl;have y8:=H10.out.cC.cell 8 rfl;have y9:=H10.out.cC.cell 9 rfl;have z9:=H10.out.cC.fr 9;have v0:=H10.out.cR.cell 0 rfl;have x0:=H10.out.cR.fr 0;have v1:=H10.out.cR.cell 1 rfl;have x1:=H10.out.cR.fr 1;have v2:=H10.out.cR.cell 2 rfl;have x2:=H10.out.cR.fr 2;have v3:=H10.out.cR.cell 3 rfl;have x3:=H10.out.cR.fr 3;have v4:=H10.out.cR.cell 4 rfl;have x4:=H10.out.cR.fr 4;have v5:=H10.out.cR.cell 5 rfl;have x5:=H10.out.cR.fr 5;have v6:=H10.out.cR.cell 6 rfl;have x6:=H10.out.cR.fr 6;have v7:=H10.out.cR.cell 7 rfl;have x7:=H10.out.cR.fr 7;have v8:=H10.out.cR.cell 8 rfl;have x8:=H10.out.cR.fr 8;have v9:=H10.out.cR.cell 9 rfl;have x9:=H10.out.cR.fr 9;have n3: ¬w.heap.size=w.heap.size+1:=by omega
 have n4: ¬w.heap.size+1=w.heap.size:=by omega
 go_wp2_with fail;have nR:b≠w.heap.size:=by omega
 have nC:b≠w.heap.size+1:=by omega
 have l1:w.heap.size≤w.heap.size+1:=by omega
 have l0:=Nat.le_refl w.heap.size;refine bodyPost_ret (v:= .agg #[.int .i64 k,.string ta,.string tb,.string tc,.string td,.string te,.int .i64 x,.int .i64 y,.int .i64 z',.slice av lv cv]) (by simp[results,Tryz.results33,go_sem,n3,n4,v0,v1,v2,v3,v4,v5,v6,v7,v8,v9]) rfl ⟨RdPost.yes (x:=⟨k,ta,tb,tc,td,te,x,y,z',cs⟩) _ HE10.out rfl ⟨_,rfl,?_⟩ ?_,?_⟩
 · exact(HRW.out.setC hC9 _ _|>.setC hR9 _ _|>.setC hR9 _ _|>.setC hR9 _ _|>.setC hR9 _ _|>.setC hR9 _ _|>.setC hR9 _ _|>.setC hR9 _ _|>.setC hR9 _ _|>.setC hR9 _ _|>.setC hR9 _ _).low hs9
 · exact(H10.out.rd.set' nC _|>.set' nR _|>.set' nR _|>.set' nR _|>.set' nR _|>.set' nR _|>.set' nR _|>.set' nR _|>.set' nR _|>.set' nR _|>.set' nR _)
 · exact nb_new (nb_new (nb_new (nb_new (nb_new (nb_new (nb_new (nb_new (nb_new (nb_new (nb_new H10.out.fr l1 _) l0 _) l0 _) l0 _) l0 _) l0 _) l0 _) l0 _) l0 _) l0 _) l0 _
end Go.Proofs.YtdifomkoegmngaaGreatDoor
namespace Go.Proofs.YtdifomkoegmngaaGreatDoor
open Go.RowKit

namespace Wr
def e0:Ws:=⟨[],false,false⟩
theorem put_ne {s:Ws} {x:It} (h:s.l≠[]):(put s x).l≠[]:=by
 cases x with
 |n i=>simp[put,num]
 |t x=>
  show(txt s x).l≠[]
  unfold txt;split
  · exact h
  · simp[num]
 |big=>exact h
theorem run_ne: ∀{l:List It} {s:Ws},s.l≠[]→(run s l).l≠[]
 |[],_,h=>h
 |x::l,s,h=>run_ne (l:=l) (put_ne h)
theorem num_ne {s:Ws} {n:Int}:(num s n).l≠[]:=by simp[num]
end Wr
theorem wt_new (W:World) (B b:Nat) (hB:B≤b) (h:W.heap[b]?=some (.cells #[.pointer none,.slice none 0 0,.bool false,.bool false] 94 (0,0))):Wt B b Wr.e0 W:=
 Or.inl ⟨hB,.slice none 0 0,h,⟨by simp[Wr.e0,Lib.byteCells],Or.inl ⟨rfl,rfl⟩⟩,by simp[Value.ownBlock]⟩
structure WfQ (q:Rq):Prop where
 kind:I64 q.kind
 num:I64 q.num
 off:I64 q.off
 base:I64 q.base
 who:TxB q.who
 fo:TxB q.fo
 name:TxB q.name
 key:TxB q.key
 text:TxB q.text
 ch: ∀c∈q.ch,WfC c
set_option maxHeartbeats 1000000 in
theorem ask_any (q:Rq) (v:Value) (w:World) (hq:LiesQ w v q) (hz:WfQ q) (h3:3<w.heap.size) (ht:PowTab w):
    Calls Tryz.prog 23 #[v] w fun e w'=>e= .returned (.tuple #[.string (Wr.fin (Wr.run Wr.e0 (Wr.rqI q))).1,.int .i64 (Wr.fin (Wr.run Wr.e0 (Wr.rqI q))).2])∧Below w.heap.size w w':=by
 obtain⟨va,rfl,hL⟩:=hq
 obtain⟨kind,who,fo,name,key,text,num,off,base,ch⟩:=q
 obtain⟨zk,zn,zo,zb,z1,z2,z3,z4,z5,zc⟩:=hz
 simp only at hL zk zn zo zb z1 z2 z3 z4 z5 zc⊢;obtain⟨av,cv,rfl,hcv⟩: ∃av cv,va= .slice av ch.length cv∧True:=by obtain⟨a,c,h,_⟩:=hL;exact⟨a,c,h,trivial⟩
 obtain⟨wa,hwa⟩: ∃wa,wa=w.alloc (.cells #[.int .i64 kind,.string who,.string fo,.string name,.string key,.string text,.int .i64 num,.int .i64 off,.int .i64 base,.slice av ch.length cv] 39):=⟨_,rfl⟩
 obtain⟨wb,hwb⟩: ∃wb,wb=wa.alloc (.cells #[.pointer none,.slice none 0 0,.bool false,.bool false] 94):=⟨_,rfl⟩
 have sa:wa.heap.size=w.heap.size+1:=by rw[hwa];simp
 have hba:Below w.heap.size w wa:=by rw[hwa];exact below_alloc _ _
 have hbb:Below wa.heap.size wa wb:=by rw[hwb];exact below_alloc _ _
 have hab:Below w.heap.size w wb:=hba.trans (hbb.mono (by omega))
 have hm0:wb.heap[w.heap.size]?=some (.cells #[.int .i64 kind,.string who,.string fo,.string name,.string key,.string text,.int .i64 num,.int .i64 off,.int .i64 base,.slice av ch.length cv] 39 (0,0)):=by
  rw[hbb.block _ (by omega),hwa];exact heap_alloc_new w _
 have hwr:wb.heap[w.heap.size+1]?=some (.cells #[.pointer none,.slice none 0 0,.bool false,.bool false] 94 (0,0)):=by
  rw[←sa,hwb];exact heap_alloc_new wa _
 have hmb:w.heap.size≠w.heap.size+1:=by omega
 have h0:=wt_new wb w.heap.size (w.heap.size+1) (by omega) hwr;have ht0:=ht.belowB h3 hab;have HN1:=hid (wnum_any w.heap.size (w.heap.size+1) Wr.e0 kind wb h0 zk (by simp[Wr.e0]) h3 ht0);have l1:=Wr.num_len (s:=Wr.e0) zk;have l0:Wr.e0.l.length=0:=rfl;rw[hwb,hwa]at HN1;have HWB:Hid (wb=(w.alloc (.cells #[.int .i64 kind,.string who,.string fo,.string name,.string key,.string text,.int .i64 num,.int .i64 off,.int .i64 base,.slice av ch.length cv] 39)).alloc (.cells #[.pointer none,.slice none 0 0,.bool false,.bool false] 94)):=(by rw[hwb,hwa]:wb=_)
 have HM0:=hid hm0;have HT0:=hid ht0;have HL:=hid hL;have HZ:=hid (And.intro (And.intro zn (And.intro zo zb)) (And.intro z1 (And.intro z2 (And.intro z3 (And.intro z4 z5)))));have HC:=hid zc;have c0:=(show Cs (w.alloc (.cells #[.int .i64 kind,.string who,.string fo,.string name,.string key,.string text,.int .i64 num,.int .i64 off,.int .i64 base,.slice av ch.length cv] 39)) w.heap.size _ from⟨_,heap_alloc_new w _⟩)
 clear hwb hwa sa hbb hba hm0 hwr h0 ht0 ht hL hcv zk zn zo zb z1 z2 z3 z4 z5 zc c0;go_enter Tryz.func23,Tryz.ntmps23
 go_wp2_with fail;refine HN1.out.mono ?_
 rintro e w1 ⟨rfl,h1,hf1⟩;rw[←HWB.out]at hf1;have hm1:=hf1.row HM0.out hmb (by decide);have ht1:=HT0.out.fr h3 hf1;have hB1:w.heap.size≤w1.heap.size:=Nat.le_of_lt (Nat.lt_of_le_of_lt h1.B h1.lt);obtain⟨w2,hw2⟩: ∃w2,w2=w1.alloc (.cells #[.string who,.string fo,.string name,.string key,.string text] 9):=⟨_,rfl⟩
 have hb2:Below w1.heap.size w1 w2:=by rw[hw2];exact below_alloc _ _
 have hf2:FrW w.heap.size (w.heap.size+1) w1 w2:=fr_below hb2 hB1;have hx2:w2.heap[w1.heap.size]?=some (.cells (([who,fo,name,key,text]:List ByteArray).map Value.string).toArray 9 (0,0)):=by rw[hw2];exact heap_alloc_new w1 _
 have hxb:w1.heap.size≠w.heap.size+1:=fun e=>by have:=h1.lt;omega
 have c1:w1.cell? ⟨w.heap.size,1,none⟩=some (.string who):=by rw[Lib.cell_of_heap hm1];rfl
 have c2:w1.cell? ⟨w.heap.size,2,none⟩=some (.string fo):=by rw[Lib.cell_of_heap hm1];rfl
 have c3:w1.cell? ⟨w.heap.size,3,none⟩=some (.string name):=by rw[Lib.cell_of_heap hm1];rfl
 have c4:w1.cell? ⟨w.heap.size,4,none⟩=some (.string key):=by rw[Lib.cell_of_heap hm1];rfl
 have c5:w1.cell? ⟨w.heap.size,5,none⟩=some (.string text):=by rw[Lib.cell_of_heap hm1];rfl
 have HX:=hid (wtexts_any [who,fo,name,key,text] w.heap.size (w.heap.size+1) w1.heap.size (Wr.num Wr.e0 kind) w2 (h1.below hb2) hx2 hxb (by simp only[List.length_cons,List.length_nil];omega) h3 (ht1.fr h3 hf2) (by
  intro x hx;obtain⟨_,z1,z2,z3,z4,z5⟩:=HZ.out
  simp only[List.mem_cons,List.not_mem_nil,or_false]at hx;rcases hx with rfl|rfl|rfl|rfl|rfl
  · exact z1
  · exact z2
  · exact z3
  · exact z4
  · exact z5))
 have hm2:=hf2.row hm1 hmb (by decide);have ht2:=ht1.fr h3 hf2;rw[hw2]at HX;have HW2:=hid hw2;have HM2:=hid hm2;have HT2:=hid ht2;have n1:Hid ((Wr.num Wr.e0 kind).l≠[]):=Wr.num_ne;clear hw2 hm2 ht2 hm1 ht1 HM0 HT0 HN1 hx2 h1;go_wp2_with fail;refine HX.out.mono ?_
 rintro e w3 ⟨rfl,h5,hf3⟩;rw[←HW2.out]at hf3
 have l2:=Wr.run_len (([who,fo,name,key,text]:List ByteArray).map Wr.It.t) (Wr.num Wr.e0 kind) (by
  intro y hy;obtain⟨x,_,rfl⟩:=List.mem_map.1 hy
  trivial)
 rw[List.length_map]at l2;simp only[List.length_cons,List.length_nil]at l2;obtain⟨s2,hs2⟩: ∃s2,s2=Wr.run (Wr.num Wr.e0 kind) (([who,fo,name,key,text]:List ByteArray).map Wr.It.t):=⟨_,rfl⟩
 rw[←hs2]at h5 l2;have HS2:=hid hs2;clear hs2;have hm3:=hf3.row HM2.out hmb (by decide);have ht3:=HT2.out.fr h3 hf3;have hB3:w.heap.size≤w3.heap.size:=Nat.le_of_lt (Nat.lt_of_le_of_lt h5.B h5.lt);obtain⟨w4,hw4⟩: ∃w4,w4=w3.alloc (.cells #[.int .i64 num,.int .i64 off,.int .i64 base] 3):=⟨_,rfl⟩
 have hb4:Below w3.heap.size w3 w4:=by rw[hw4];exact below_alloc _ _
 have hf4:FrW w.heap.size (w.heap.size+1) w3 w4:=fr_below hb4 hB3;have hx4:w4.heap[w3.heap.size]?=some (.cells (([num,off,base]:List Int).map (Value.int .i64)).toArray 3 (0,0)):=by rw[hw4];exact heap_alloc_new w3 _
 have hxb4:w3.heap.size≠w.heap.size+1:=fun e=>by have:=h5.lt;omega
 have d1:w3.cell? ⟨w.heap.size,6,none⟩=some (.int .i64 num):=by rw[Lib.cell_of_heap hm3];rfl
 have d2:w3.cell? ⟨w.heap.size,7,none⟩=some (.int .i64 off):=by rw[Lib.cell_of_heap hm3];rfl
 have d3:w3.cell? ⟨w.heap.size,8,none⟩=some (.int .i64 base):=by rw[Lib.cell_of_heap hm3];rfl
 have HY:=hid (wnumbers_any [num,off,base] w.heap.size (w.heap.size+1) w3.heap.size s2 w4 (h5.below hb4) hx4 hxb4 (by simp only[List.length_cons,List.length_nil];omega) h3 (ht3.fr h3 hf4) (by
  intro x hx;obtain⟨⟨zn,zo,zb⟩,_⟩:=HZ.out
  simp only[List.mem_cons,List.not_mem_nil,or_false]at hx;rcases hx with rfl|rfl|rfl
  · exact zn
  · exact zo
  · exact zb))
 have hm4:=hf4.row hm3 hmb (by decide);have ht4:=ht3.fr h3 hf4;rw[hw4]at HY;have HW4:=hid hw4;have HM4:=hid hm4;have HT4:=hid ht4;clear hw4 hm4 ht4 hm3 ht3 HM2 HT2 HX hx4 h5 c1 c2 c3 c4 c5;go_wp2_with fail;refine HY.out.mono ?_
 rintro e w5 ⟨rfl,h7,hf5⟩;rw[←HW4.out]at hf5
 have l3:=Wr.run_len (([num,off,base]:List Int).map Wr.It.n) s2 (by
  intro y hy;obtain⟨⟨zn,zo,zb⟩,_⟩:=HZ.out
  simp only[List.map_cons,List.map_nil,List.mem_cons,List.not_mem_nil,or_false]at hy;rcases hy with rfl|rfl|rfl
  · exact zn
  · exact zo
  · exact zb)
 rw[List.length_map]at l3;simp only[List.length_cons,List.length_nil]at l3;obtain⟨s3,hs3⟩: ∃s3,s3=Wr.run s2 (([num,off,base]:List Int).map Wr.It.n):=⟨_,rfl⟩
 rw[←hs3]at h7 l3
 have HE:=hid (show Wr.run s3 (Wr.lst 20 Wr.chI ch)=Wr.run Wr.e0 (Wr.rqI ⟨kind,who,fo,name,key,text,num,off,base,ch⟩)from by
  rw[hs3,HS2.out,Wr.rqI,Wr.run_app];rfl)
 have HNE:Hid ((Wr.run s3 (Wr.lst 20 Wr.chI ch)).l≠[]):=Wr.run_ne (by rw[hs3];exact Wr.run_ne (by rw[HS2.out];exact Wr.run_ne n1.out));clear hs3;have hm5:=hf5.row HM4.out hmb (by decide);have ht5:=HT4.out.fr h3 hf5;have g1:w5.cell? ⟨w.heap.size,9,none⟩=some (.slice av ch.length cv):=by rw[Lib.cell_of_heap hm5];rfl
 have hfw:FrW w.heap.size (w.heap.size+1) wb w5:=hf1.trans (hf2.trans (hf3.trans (hf4.trans hf5)));have HP:=hid (wchanges_any w ch _ (w.heap.size+1) s3 w5 HL.out (hab.trans hfw.1) h7 (by omega) h3 ht5 HC.out);clear hm5 ht5 HM4 HT4 HY d1 d2 d3 h7;go_wp2_with fail;refine HP.out.mono ?_
 rintro e w6 ⟨rfl,h8,hf6⟩;have HQ:=hid (written_any w.heap.size (w.heap.size+1) _ w6 h8 HNE.out);clear h8 g1 HP;go_wp2_with fail;refine HQ.out.mono ?_
 rintro e w7 ⟨rfl,hb7⟩;go_wp2_with fail;go_ret2;rw[HE.out];exact⟨rfl,hab.trans (hfw.1.trans (hf6.1.trans hb7))⟩
end Go.Proofs.YtdifomkoegmngaaGreatDoor
