/- The program's writer: rows of texts and of numbers. -/
import Derived.Test.YtdifomkoegmngaaGreatDoorRKR
import Derived.Test.YtdifomkoegmngaaGreatDoorRKS
import Derived.Deep.RegionHeld3
import Derived.Deep.Cut
import Derived.Deep.CutRange
import Derived.Deep.DeepCutAuto
set_option linter.unusedSimpArgs false
set_option linter.unusedVariables false
namespace Go.Proofs.YtdifomkoegmngaaGreatDoor
open Go.RowKit

/-- A row of cells of another type than bytes stays. -/
theorem FrW.row {B b g:Nat} {cs:Array Value} {T:TypeId} {fz:Nat×Nat} {w w':World} (h:FrW B b w w') (hg:w.heap[g]?=some (.cells cs T fz)) (hgb:g≠b) (hT:T≠5):w'.heap[g]?=some (.cells cs T fz):=
 h.2 g _ hg (fun e=>hgb (by injection e)) (fun c fz' e=>by injection e with _ e2 _;exact hT e2)
theorem Wr.take_next {α:Type} (f:α→Wr.It) (s:Ws) (xs:List α) (k:Nat) (h:k<xs.length):Wr.run s ((xs.take (k+1)).map f)=Wr.put (Wr.run s ((xs.take k).map f)) (f xs[k]):=by
 rw[List.take_succ_eq_append_getElem h,List.map_append,Wr.run_app];rfl
theorem Wr.take_len {α:Type} (f:α→Wr.It) (s:Ws) (xs:List α) (k:Nat) (hw: ∀x∈xs,(f x).wf) (hs:s.l.length+1021*xs.length≤1000000000):(Wr.run s ((xs.take k).map f)).l.length≤1000000000:=by
 have:=Wr.run_len ((xs.take k).map f) s (fun y hy=>by
  obtain⟨x,hx,rfl⟩:=List.mem_map.1 hy
  exact hw x (List.mem_of_mem_take hx))
 have h2:((xs.take k).map f).length≤xs.length:=by rw[List.length_map,List.length_take];omega
 omega
set_option maxHeartbeats 1000000 in
theorem wtexts_any (xs:List ByteArray) (B b g:Nat) (s:Ws) (w:World) (h:Wt B b s w) (hg:w.heap[g]?=some (.cells (xs.map Value.string).toArray 9 (0,0))) (hgb:g≠b) (hlen:s.l.length+1021*xs.length≤1000000000) (h3:3<B) (ht:PowTab w) (hx: ∀x∈xs,(x.size:Int)≤9223372036854775807):
    Calls Tryz.prog 45 #[.pointer (some ⟨b,0,none⟩),.slice (some ⟨g,0,none⟩) xs.length xs.length] w fun e w'=>e= .returned (.tuple #[])∧Wt B b (Wr.run s (xs.map .t)) w'∧FrW B b w w':=by
 have HG:=hid hg;have HX:=hid hx;have HT:=hid ht;have HL:=hid (show∀k,(Wr.run s ((xs.take k).map Wr.It.t)).l.length≤1000000000 from fun k=>Wr.take_len _ s xs k (fun _ _=>trivial) hlen);have hxl:xs.length≤1000000:=by omega
 clear hg hx ht hlen;go_enter Tryz.func45,Tryz.ntmps45
 go_wp2_with fail;go_loopw [8] (fun i wr=> ∃k:Nat,k≤xs.length∧i= .int .i64 k∧Hid (Wt B b (Wr.run s ((xs.take k).map .t)) wr)∧FrW B b w wr) (fun i _=>xs.length-(intOf i).toNat)
 case atStart=>exact⟨0,Nat.zero_le _,rfl,(by rw[List.take_zero];exact h:Wt B b (Wr.run s ((xs.take 0).map .t)) w),FrW.refl _ _ _⟩
 case round=>
  obtain⟨k,hk,rfl,HW,hf⟩:=hrel
  by_cases hlt:k<xs.length
  · have c0:wr.cell? ⟨g,k,none⟩=some (.string xs[k]):=by rw[Lib.cell_of_heap (hf.row HG.out hgb (by decide))];simp[hlt]
    have hT2:=HT.out.fr h3 hf;have hT3:=hid hT2;clear hT2;go_wp2_with fail;refine(wtext_any B b _ xs[k] wr HW.out (HL.out k) h3 hT3.out (HX.out _ (List.getElem_mem hlt))).mono ?_
    rintro e w1 ⟨rfl,h1,hf1⟩;have H1:=hid h1;clear h1 c0;go_wp2_with fail;go_roundw
    case rel=>exact⟨k+1,by omega,by simp,(by rw[Wr.take_next _ s xs k hlt];exact H1.out:Wt B b (Wr.run s ((xs.take (k+1)).map .t)) w1),hf.trans hf1⟩
    case measure=>simp[intOf];omega
  · obtain rfl:k=xs.length:=by omega
    go_wp2_with fail;go_end0
    exact⟨rfl,by have:=HW.out;rw[List.take_length]at this;exact this,hf⟩
set_option maxHeartbeats 1000000 in
theorem wnumbers_any (xs:List Int) (B b g:Nat) (s:Ws) (w:World) (h:Wt B b s w) (hg:w.heap[g]?=some (.cells (xs.map (Value.int .i64)).toArray 3 (0,0))) (hgb:g≠b) (hlen:s.l.length+1021*xs.length≤1000000000) (h3:3<B) (ht:PowTab w) (hx: ∀x∈xs,I64 x):
    Calls Tryz.prog 46 #[.pointer (some ⟨b,0,none⟩),.slice (some ⟨g,0,none⟩) xs.length xs.length] w fun e w'=>e= .returned (.tuple #[])∧Wt B b (Wr.run s (xs.map .n)) w'∧FrW B b w w':=by
 have HG:=hid hg;have HX:=hid hx;have HT:=hid ht;have HL:=hid (show∀k,(Wr.run s ((xs.take k).map Wr.It.n)).l.length≤1000000000 from fun k=>Wr.take_len _ s xs k hx hlen);have hxl:xs.length≤1000000:=by omega
 clear hg hx ht hlen;go_enter Tryz.func46,Tryz.ntmps46
 go_wp2_with fail;go_loopw [8] (fun i wr=> ∃k:Nat,k≤xs.length∧i= .int .i64 k∧Hid (Wt B b (Wr.run s ((xs.take k).map .n)) wr)∧FrW B b w wr) (fun i _=>xs.length-(intOf i).toNat)
 case atStart=>exact⟨0,Nat.zero_le _,rfl,(by rw[List.take_zero];exact h:Wt B b (Wr.run s ((xs.take 0).map .n)) w),FrW.refl _ _ _⟩
 case round=>
  obtain⟨k,hk,rfl,HW,hf⟩:=hrel
  by_cases hlt:k<xs.length
  · have c0:wr.cell? ⟨g,k,none⟩=some (.int .i64 xs[k]):=by rw[Lib.cell_of_heap (hf.row HG.out hgb (by decide))];simp[hlt]
    have hT2:=HT.out.fr h3 hf;have hT3:=hid hT2;clear hT2;go_wp2_with fail;refine(wnum_any B b _ xs[k] wr HW.out (HX.out _ (List.getElem_mem hlt)) (HL.out k) h3 hT3.out).mono ?_
    rintro e w1 ⟨rfl,h1,hf1⟩;have H1:=hid h1;clear h1 c0;go_wp2_with fail;go_roundw
    case rel=>exact⟨k+1,by omega,by simp,(by rw[Wr.take_next _ s xs k hlt];exact H1.out:Wt B b (Wr.run s ((xs.take (k+1)).map .n)) w1),hf.trans hf1⟩
    case measure=>simp[intOf];omega
  · obtain rfl:k=xs.length:=by omega
    go_wp2_with fail;go_end0
    exact⟨rfl,by have:=HW.out;rw[List.take_length]at this;exact this,hf⟩
namespace Wr
/-- A list: how many there are, and each; or too many. -/
def lst {α:Type} (m:Nat) (f:α→List It) (l:List α):List It:=if l.length≤m then .n l.length::l.flatMap f else[.big]
def chI (c:Pp.Ch):List It:=[.n c.k,.t c.p,.t c.q,.t c.t,.n c.b]
def rqI (q:Rq):List It:=[.n q.kind,.t q.who,.t q.fo,.t q.name,.t q.key,.t q.text,.n q.num,.n q.off,.n q.base]++lst 20 chI q.ch
theorem fm_next {α:Type} (f:α→List It) (s:Ws) (xs:List α) (k:Nat) (h:k<xs.length):run s ((xs.take (k+1)).flatMap f)=run (run s ((xs.take k).flatMap f)) (f xs[k]):=by
 rw[List.take_succ_eq_append_getElem h,List.flatMap_append,run_app];simp
theorem fm_count {α:Type} (f:α→List It) (m:Nat): ∀(xs:List α),(∀x∈xs,(f x).length≤m)→(xs.flatMap f).length≤m*xs.length
 |[],_=>by simp
 |x::xs,h=>by
  have h1:=h x (by simp);have h2:=fm_count f m xs (fun y hy=>h y (by simp[hy]));rw[List.flatMap_cons,List.length_append,List.length_cons,Nat.mul_succ];omega
theorem fm_len {α:Type} (f:α→List It) (m:Nat) (s:Ws) (xs:List α) (k:Nat) (h: ∀x∈xs,(f x).length≤m∧ ∀y∈f x,y.wf):(run s ((xs.take k).flatMap f)).l.length≤s.l.length+1021*(m*xs.length):=by
 have h1:=run_len ((xs.take k).flatMap f) s (fun y hy=>by
  obtain⟨x,hx,hy⟩:=List.mem_flatMap.1 hy
  exact(h x (List.mem_of_mem_take hx)).2 y hy)
 have h2:=fm_count f m (xs.take k) (fun x hx=>(h x (List.mem_of_mem_take hx)).1);have h3:m*(xs.take k).length≤m*xs.length:=Nat.mul_le_mul_left _ (by rw[List.length_take];omega);omega
end Wr
def TxB (x:ByteArray):Prop:=(x.size:Int)≤9223372036854775807
structure WfC (c:Pp.Ch):Prop where
 k:I64 c.k
 b:I64 c.b
 p:TxB c.p
 q:TxB c.q
 t:TxB c.t
theorem WfC.it {c:Pp.Ch} (h:WfC c):(Wr.chI c).length≤5∧ ∀y∈Wr.chI c,y.wf:=by
 refine⟨by simp[Wr.chI],fun y hy=>?_⟩
 simp only[Wr.chI,List.mem_cons,List.not_mem_nil,or_false]at hy;rcases hy with rfl|rfl|rfl|rfl|rfl
 · exact h.k
 · trivial
 · trivial
 · trivial
 · exact h.b
/-- A box that bears the writer's address. -/
def WBox (w:World) (b g:Nat):Prop:=w.heap[g]?=some (.cells #[.pointer (some ⟨b,0,none⟩)] 88 (0,0))∧g≠b
theorem WBox.fr {B b g:Nat} {w w':World} (h:WBox w b g) (hf:FrW B b w w'):WBox w' b g:=⟨hf.row h.1 h.2 (by decide),h.2⟩
theorem WBox.below {b g:Nat} {w w':World} (h:WBox w b g) (hf:Below w.heap.size w w'):WBox w' b g:=⟨(hf.block g (heap_lt h.1)).trans h.1,h.2⟩
theorem WBox.cell {b g:Nat} {w:World} (h:WBox w b g):w.cell? ⟨g,0,none⟩=some (.pointer (some ⟨b,0,none⟩)):=by rw[Lib.cell_of_heap h.1];rfl
theorem below_alloc (w:World) (o:Obj):Below w.heap.size w (w.alloc o):=(Below.refl _ w).alloc (Nat.le_refl _) o
set_option maxHeartbeats 1000000 in
theorem wch1_any (c:Pp.Ch) (B b g:Nat) (s:Ws) (w:World) (h:Wt B b s w) (hg:WBox w b g) (hlen:s.l.length+6000≤1000000000) (h3:3<B) (ht:PowTab w) (hc:WfC c):
    Calls Tryz.prog 80 #[.agg #[.int .i64 c.k,.string c.p,.string c.q,.string c.t,.int .i64 c.b],.pointer (some ⟨g,0,none⟩)] w fun e w'=>e= .returned (.tuple #[])∧Wt B b (Wr.run s (Wr.chI c)) w'∧FrW B b w w':=by
 obtain⟨k,p,q,t,cb⟩:=c
 have hBw:B≤w.heap.size:=Nat.le_of_lt (Nat.lt_of_le_of_lt h.B h.lt);obtain⟨w0,hw0⟩: ∃w0,w0=w.alloc (.cells #[.int .i64 k,.string p,.string q,.string t,.int .i64 cb] 53):=⟨_,rfl⟩
 have hb0:Below w.heap.size w w0:=by rw[hw0];exact below_alloc _ _
 have hf0:FrW B b w w0:=fr_below hb0 hBw;have hm0:w0.heap[w.heap.size]?=some (.cells #[.int .i64 k,.string p,.string q,.string t,.int .i64 cb] 53 (0,0)):=by rw[hw0];exact heap_alloc_new w _
 have hmb:w.heap.size≠b:=fun e=>by have:=h.lt;omega
 have h0:=h.below hb0;have hg0:=hg.below hb0;have ht0:=ht.fr h3 hf0;have a0:=hg0.cell;rw[hw0]at a0;have HK:=hid (wnum_any B b s k w0 h0 hc.k (by omega) h3 ht0);have l1:=Wr.num_len (s:=s) hc.k;rw[hw0]at HK;have HM0:=hid hm0;have HG0:=hid hg0;have HT0:=hid ht0;have HC:=hid hc;have HW0:=hid hw0;clear hw0 hm0 hg0 ht0 hg ht hc h0;go_enter Tryz.func80,Tryz.ntmps80
 go_wp2_with fail;refine HK.out.mono ?_
 rintro e w1 ⟨rfl,h1,hf1⟩;rw[←HW0.out]at hf1;have hg1:=HG0.out.fr hf1;have hm1:=hf1.row HM0.out hmb (by decide);have ht1:=HT0.out.fr h3 hf1;have hB1:B≤w1.heap.size:=Nat.le_of_lt (Nat.lt_of_le_of_lt h1.B h1.lt);obtain⟨w2,hw2⟩: ∃w2,w2=w1.alloc (.cells #[.string p,.string q,.string t] 9):=⟨_,rfl⟩
 have hb2:Below w1.heap.size w1 w2:=by rw[hw2];exact below_alloc _ _
 have hf2:FrW B b w1 w2:=fr_below hb2 hB1;have hx2:w2.heap[w1.heap.size]?=some (.cells (([p,q,t]:List ByteArray).map Value.string).toArray 9 (0,0)):=by rw[hw2];exact heap_alloc_new w1 _
 have hxb:w1.heap.size≠b:=fun e=>by have:=h1.lt;omega
 have c0:=hg1.cell;have c1:w1.cell? ⟨w.heap.size,1,none⟩=some (.string p):=by rw[Lib.cell_of_heap hm1];rfl
 have c2:w1.cell? ⟨w.heap.size,2,none⟩=some (.string q):=by rw[Lib.cell_of_heap hm1];rfl
 have c3:w1.cell? ⟨w.heap.size,3,none⟩=some (.string t):=by rw[Lib.cell_of_heap hm1];rfl
 have HX:=hid (wtexts_any [p,q,t] B b w1.heap.size (Wr.num s k) w2 (h1.below hb2) hx2 hxb (by simp only[List.length_cons,List.length_nil];omega) h3 (ht1.fr h3 hf2) (by
  intro x hx;simp only[List.mem_cons,List.not_mem_nil,or_false]at hx;rcases hx with rfl|rfl|rfl
  · exact HC.out.p
  · exact HC.out.q
  · exact HC.out.t))
 have hg2:=hg1.fr hf2;have hm2:=hf2.row hm1 hmb (by decide);have ht2:=ht1.fr h3 hf2;rw[hw2]at HX;have HW2:=hid hw2;have HG2:=hid hg2;have HM2:=hid hm2;have HT2:=hid ht2;clear hw2 hg2 hm2 ht2 hg1 hm1 ht1 HM0 HG0 HT0 HK a0 hx2 h1;go_wp2_with fail;refine HX.out.mono ?_
 rintro e w3 ⟨rfl,h5,hf3⟩;rw[←HW2.out]at hf3;have hg3:=HG2.out.fr hf3;have hm3:=hf3.row HM2.out hmb (by decide);have ht3:=HT2.out.fr h3 hf3;have d0:=hg3.cell;have d1:w3.cell? ⟨w.heap.size,4,none⟩=some (.int .i64 cb):=by rw[Lib.cell_of_heap hm3];rfl
 have l2:=Wr.run_len (([p,q,t]:List ByteArray).map Wr.It.t) (Wr.num s k) (by
  intro y hy;simp only[List.map_cons,List.map_nil,List.mem_cons,List.not_mem_nil,or_false]at hy;rcases hy with rfl|rfl|rfl<;>trivial)
 simp only[List.map_cons,List.map_nil,List.length_cons,List.length_nil]at l2;have HN:=hid (wnum_any B b _ cb w3 h5 HC.out.b (by simp only[List.map_cons,List.map_nil];omega) h3 ht3);clear c0 c1 c2 c3 HX hg3 hm3 ht3 HG2 HM2 HT2 h5;go_wp2_with fail;refine HN.out.mono ?_
 rintro e w4 ⟨rfl,h6,hf4⟩;go_wp2_with fail;go_end0
 exact⟨rfl,h6,hf0.trans (hf1.trans (hf2.trans (hf3.trans hf4)))⟩
theorem wch1_enters: ∀args w,(callFunc 80 args).run Tryz.prog w= .ok (.enter 80 args) w:=enters_of Tryz.func80 (by kernel_rfl) rfl
set_option maxHeartbeats 1000000 in
theorem wlc_any (W0:World) (cs:List Pp.Ch) (v:Value) (b g:Nat) (s:Ws) (w:World) (hL:LiesC W0 v cs) (hW:Below W0.heap.size W0 w) (h:Wt W0.heap.size b s w) (hg:WBox w b g) (hlen:s.l.length+200000≤1000000000) (h3:3<W0.heap.size) (ht:PowTab w) (hc: ∀c∈cs,WfC c):
    Calls Tryz.prog 79 #[.pointer (some ⟨b,0,none⟩),v,.int .i64 20,.func (.func 80) #[] #[.pointer (some ⟨g,0,none⟩)]] w fun e w'=>e= .returned (.tuple #[])∧Wt W0.heap.size b (Wr.run s (Wr.lst 20 Wr.chI cs)) w'∧FrW W0.heap.size b w w':=by
 obtain⟨a,cap,rfl,hcap,hcap2,hLL⟩:=hL
 have hC:=wcount_any W0.heap.size b s cs.length 20 w h ⟨by omega,by omega⟩ (by omega) h3 ht;by_cases hn:(cs.length:Int)≤20
 · rw[if_pos hn,decide_eq_true hn]at hC
   have l1:=Wr.num_len (s:=s) (n:=cs.length) ⟨by omega,by omega⟩
   have HL:=hid (show∀k,(Wr.run (Wr.num s cs.length) ((cs.take k).flatMap Wr.chI)).l.length+6000≤1000000000 from fun k=>by
    have:=Wr.fm_len Wr.chI 5 (Wr.num s cs.length) cs k (fun x hx=>(hc x hx).it)
    omega)
   have HE:=hid (show Wr.run (Wr.num s cs.length) ((cs.take cs.length).flatMap Wr.chI)=Wr.run s (Wr.lst 20 Wr.chI cs)from by rw[List.take_length,Wr.lst,if_pos (by omega)];rfl);have HC:=hid hC;have HD:=hid hc;have HM:=hid hLL;have HG:=hid hg;have HT:=hid ht;have HW:=hid hW;have eg:=wch1_enters;clear hC hc hLL hg ht hW;go_enter Tryz.func79,Tryz.ntmps79
   go_wp2_with fail;refine HC.out.mono ?_
   rintro e w1 ⟨rfl,h1,hf1⟩;have HW1:=hid (show Wt W0.heap.size b (Wr.run (Wr.num s cs.length) ((cs.take 0).flatMap Wr.chI)) w1 from h1);have hB1:W0.heap.size≤w1.heap.size:=Nat.le_of_lt (Nat.lt_of_le_of_lt h1.B h1.lt);clear h1;go_wp2_with fail;go_loopw [18] (fun i wr=> ∃k:Nat,k≤cs.length∧i= .int .i64 k∧Hid (Wt W0.heap.size b (Wr.run (Wr.num s cs.length) ((cs.take k).flatMap Wr.chI)) wr)∧FrW W0.heap.size b w wr) (fun i _=>cs.length-(intOf i).toNat)
   case atStart=>exact⟨0,Nat.zero_le _,rfl,HW1,hf1⟩
   case round=>
    obtain⟨k,hk,rfl,HV,hf⟩:=hrel
    by_cases hlt:k<cs.length
    · obtain⟨bb,o,rfl,hbb,he⟩:=HM.out k hlt
      obtain⟨c0,c1,c2,c3,c4⟩:=he.below hbb (HW.out.trans hf.1)
      have hlr:=HV.out.lt;have hBr:W0.heap.size≤wr.heap.size:=Nat.le_of_lt (Nat.lt_of_le_of_lt HV.out.B hlr);obtain⟨wz,hwz⟩: ∃wz,wz=wr.alloc (.cells #[.int .i64 cs[k].k,.string cs[k].p,.string cs[k].q,.string cs[k].t,.int .i64 cs[k].b] 53):=⟨_,rfl⟩
      have hbz:Below wr.heap.size wr wz:=by rw[hwz];exact below_alloc _ _
      have hfz:FrW W0.heap.size b wr wz:=fr_below hbz hBr;have HK:=hid (wch1_any cs[k] W0.heap.size b g _ wz (HV.out.below hbz) (HG.out.fr (hf.trans hfz)) (HL.out k) h3 (HT.out.fr h3 (hf.trans hfz)) (HD.out _ (List.getElem_mem hlt)));rw[hwz]at HK;have HWZ:=hid hwz;clear hwz he;go_wp2_with fail;refine HK.out.mono ?_
      rintro e w2 ⟨rfl,h2,hf2⟩;rw[←HWZ.out]at hf2;rw[←Wr.fm_next _ _ _ _ hlt]at h2;have H2:=hid h2;clear h2 HK c0 c1 c2 c3 c4;go_wp2_with fail;go_roundw
      case rel=>exact⟨k+1,by omega,by simp,H2,hf.trans (hfz.trans hf2)⟩
      case measure=>simp[intOf];omega
    · obtain rfl:k=cs.length:=by omega
      go_wp2_with fail;go_end0
      exact⟨rfl,by rw[←HE.out];exact HV.out,hf⟩
 · rw[if_neg hn,decide_eq_false hn]at hC
   go_enter Tryz.func79,Tryz.ntmps79
   go_wp2_with fail;refine hC.mono ?_
   rintro e w1 ⟨rfl,h1,hf1⟩;go_wp2_with fail;refine bodyPost_ret (results_none rfl _ _ _) rfl ?_
   exact⟨rfl,by rw[Wr.lst,if_neg (by omega)];exact h1,hf1⟩
set_option maxHeartbeats 1000000 in
theorem wchanges_any (W0:World) (cs:List Pp.Ch) (v:Value) (b:Nat) (s:Ws) (w:World) (hL:LiesC W0 v cs) (hW:Below W0.heap.size W0 w) (h:Wt W0.heap.size b s w) (hlen:s.l.length+200000≤1000000000) (h3:3<W0.heap.size) (ht:PowTab w) (hc: ∀c∈cs,WfC c):
    Calls Tryz.prog 47 #[.pointer (some ⟨b,0,none⟩),v] w fun e w'=>e= .returned (.tuple #[])∧Wt W0.heap.size b (Wr.run s (Wr.lst 20 Wr.chI cs)) w'∧FrW W0.heap.size b w w':=by
 have hmf: ∀(fn:Fn) (first cap:Array Value) (w:World),(Instr.makeFunc fn first cap).run Tryz.prog w= .ok (.func fn first cap) w:=fun _ _ _ _=>rfl
 have hlt:=h.lt;have hB:W0.heap.size≤w.heap.size:=Nat.le_of_lt (Nat.lt_of_le_of_lt h.B hlt);obtain⟨wz,hwz⟩: ∃wz,wz=w.alloc (.cells #[.pointer (some ⟨b,0,none⟩)] 88):=⟨_,rfl⟩
 have hbz:Below w.heap.size w wz:=by rw[hwz];exact below_alloc _ _
 have hfz:FrW W0.heap.size b w wz:=fr_below hbz hB;have hgz:WBox wz b w.heap.size:=⟨by rw[hwz];exact heap_alloc_new w _,by omega⟩
 have HK:=hid (wlc_any W0 cs v b w.heap.size s wz hL (hW.trans hfz.1) (h.below hbz) hgz hlen h3 (ht.fr h3 hfz) hc);rw[hwz]at HK;have HWZ:=hid hwz;clear hwz hgz hL ht h;go_enter Tryz.func47,Tryz.ntmps47
 go_wp2_with fail;refine HK.out.mono ?_
 rintro e w2 ⟨rfl,h2,hf2⟩;rw[←HWZ.out]at hf2;go_wp2_with fail;go_end0
 exact⟨rfl,h2,hfz.trans hf2⟩
theorem Ws.fin_many {s:Ws} (h:s.mn=true):Wr.fin s=(⟨#[]⟩,2):=by rw[Wr.fin,if_pos h]
theorem Ws.fin_far {s:Ws} (h:s.mn=false) (h1:s.fr=true):Wr.fin s=(⟨#[]⟩,3):=by rw[Wr.fin,if_neg (by simp[h]),if_pos h1]
theorem Ws.fin_ok {s:Ws} (h:s.mn=false) (h1:s.fr=false):Wr.fin s=(⟨s.l.toArray⟩,0):=by rw[Wr.fin,if_neg (by simp[h]),if_neg (by simp[h1])]
set_option maxHeartbeats 1000000 in
theorem written_any (B b:Nat) (s:Ws) (w:World) (h:Wt B b s w) (hs:s.l≠[]):
    Calls Tryz.prog 48 #[.pointer (some ⟨b,0,none⟩)] w fun e w'=>e= .returned (.tuple #[.string (Wr.fin s).1,.int .i64 (Wr.fin s).2])∧Below B w w':=by
 obtain⟨p,_,v,hbk,_,_⟩:=h.at
 have c2:w.cell? ⟨b,2,none⟩=some (.bool s.mn):=by rw[Lib.cell_of_heap hbk];rfl
 have c3:w.cell? ⟨b,3,none⟩=some (.bool s.fr):=by rw[Lib.cell_of_heap hbk];rfl
 have HS:=hid (string_any B b s w h hs);clear hbk;cases hm:s.mn with
 |true=>
  rw[hm]at c2;rw[Ws.fin_many hm];go_enter Tryz.func48,Tryz.ntmps48
  go_wp2_with fail;go_ret2;exact⟨rfl,Below.refl _ _⟩
 |false=>
  rw[hm]at c2;cases hf:s.fr with
  |true=>
   rw[hf]at c3;rw[Ws.fin_far hm hf];go_enter Tryz.func48,Tryz.ntmps48
   go_wp2_with fail;go_ret2;exact⟨rfl,Below.refl _ _⟩
  |false=>
   rw[hf]at c3;rw[Ws.fin_ok hm hf];go_enter Tryz.func48,Tryz.ntmps48
   go_wp2_with fail;refine HS.out.mono ?_
   rintro e w1 ⟨rfl,hb1⟩;go_wp2_with fail;go_ret2;exact⟨rfl,hb1⟩
end Go.Proofs.YtdifomkoegmngaaGreatDoor
namespace Go.Proofs.YtdifomkoegmngaaGreatDoor
open Go.RowKit

namespace Wr
def chP (g:Int→Bool) (m:Int):Ps Pp.Ch:=bindP (rdG g) fun k=>bindP (txtP g m) fun p=>bindP (txtP g m) fun q=>bindP (txtP g m) fun t=>bindP (rdG g) fun b=>pureP ⟨k,p,q,t,b⟩
end Wr
/-- What a reading answers. -/
def RdPost {α:Type} (b:Nat) (res:Option (α×List UInt8)) (V:α→Value→World→Prop) (e:Ending) (w':World):Prop:=match res with
 |none=>GaveUp e
 |some (x,r)=> ∃v,e= .returned v∧V x v w'∧Rd b r w'
theorem RdPost.no {α:Type} {b:Nat} {res:Option (α×List UInt8)} {V:α→Value→World→Prop} {e:Ending} {w':World} (h:res=none) (he:GaveUp e):RdPost b res V e w':=by rw[h];exact he
theorem RdPost.yes {α:Type} {b:Nat} {res:Option (α×List UInt8)} {V:α→Value→World→Prop} {e:Ending} {w':World} {x:α} {r:List UInt8} (v:Value) (h:res=some (x,r)) (he:e= .returned v) (hV:V x v w') (hr:Rd b r w'):RdPost b res V e w':=by rw[h];exact⟨v,he,hV,hr⟩
/-- A box that bears the reader's address. -/
def RBox (w:World) (b g:Nat):Prop:=w.heap[g]?=some (.cells #[.pointer (some ⟨b,0,none⟩)] 75 (0,0))∧g≠b
theorem RBox.nb {b g:Nat} {w w':World} (h:RBox w b g) (hw:w.grownBy w' (some b)):RBox w' b g:=⟨(hw.block g (heap_lt h.1) (fun e=>h.2 (by injection e))).trans h.1,h.2⟩
theorem RBox.below {b g:Nat} {w w':World} (h:RBox w b g) (hf:Below w.heap.size w w'):RBox w' b g:=⟨(hf.block g (heap_lt h.1)).trans h.1,h.2⟩
theorem RBox.cell {b g:Nat} {w:World} (h:RBox w b g):w.cell? ⟨g,0,none⟩=some (.pointer (some ⟨b,0,none⟩)):=by rw[Lib.cell_of_heap h.1];rfl
theorem Rd.nb {b b':Nat} {l:List UInt8} {w w':World} (h:Rd b l w) (hw:w.grownBy w' (some b')) (hne:b≠b'):Rd b l w':=(hw.block b h.lt (fun e=>hne (by injection e))).trans h
theorem RBox.nb' {b g c:Nat} {w w':World} (h:RBox w b g) (hw:w.grownBy w' (some c)) (hne:g≠c):RBox w' b g:=⟨(hw.block g (heap_lt h.1) (fun e=>hne (by injection e))).trans h.1,h.2⟩
abbrev zch:List Value:=[.int .i64 0,.string ⟨#[]⟩,.string ⟨#[]⟩,.string ⟨#[]⟩,.int .i64 0]
theorem Rd.set' {b c i:Nat} {l:List UInt8} {w:World} (h:Rd b l w) (hne:b≠c) (v:Value):Rd b l (w.setCell ⟨c,i,none⟩ v):=h.nb (nb_set w c i v) hne
/-- A reader at work on a record of its own. -/
structure R3 (w:World) (b g C R:Nat) (l:List UInt8) (cs:List Value) (W:World):Prop where
 rd:Rd b l W
 box:RBox W b g
 v:VarsW W
 cC:Cs W C cs
 cR:Cs W R zch
 fr:w.grownBy W (some b)
 bl:b<w.heap.size
 gl:g<w.heap.size
 Cl:w.heap.size≤C
 Rl:w.heap.size≤R
 ne:C≠R
 b6:5<b
theorem R3.call {w W W':World} {b g C R:Nat} {l r:List UInt8} {cs:List Value} (h:R3 w b g C R l cs W) (hn:W.grownBy W' (some b)) (hr:Rd b r W'):R3 w b g C R r cs W':=
 ⟨hr,h.box.nb hn,h.v.nb h.b6 (by have:=h.rd.lt;have:=h.b6;omega) hn,h.cC.nb hn (by have:=h.bl;have:=h.Cl;omega),h.cR.nb hn (by have:=h.bl;have:=h.Rl;omega),nb_tr h.fr hn,h.bl,h.gl,h.Cl,h.Rl,h.ne,h.b6⟩
theorem nb_new {w W:World} {b c i:Nat} (h:w.grownBy W (some b)) (hc:w.heap.size≤c) (v:Value):w.grownBy (W.setCell ⟨c,i,none⟩ v) (some b):=
 ⟨h.os,h.tape,h.output,by simpa using h.size,fun k hk hne=>(Below.heap_setCell W _ v k (fun e=>by simp at e;omega)).trans (h.block k hk hne)⟩
theorem R3.set {w W:World} {b g C R:Nat} {l:List UInt8} {cs:List Value} (h:R3 w b g C R l cs W) (i:Nat) (v:Value):R3 w b g C R l (cs.set i v) (W.setCell ⟨C,i,none⟩ v):=by
 have hb:=h.bl;have hg:=h.gl;have hC:=h.Cl;have hn:=nb_set W C i v;exact⟨h.rd.nb hn (by omega),h.box.nb' hn (by omega),h.v.nb (by have:=h.b6;omega) (by have:=h.rd.lt;have:=h.b6;omega) hn,h.cC.set i v,h.cR.nb hn h.ne.symm,nb_new h.fr h.Cl v,h.bl,h.gl,h.Cl,h.Rl,h.ne,h.b6⟩
theorem R3.drew {w W:World} {b g C R:Nat} {l:List UInt8} {cs:List Value} (h:R3 w b g C R l cs W):R3 w b g C R l cs W.drew:=
 h.call (nb_below b (Below.refl _ _).drew) h.rd
theorem r3_new {w:World} {b g:Nat} {l:List UInt8} (h:Rd b l w) (hg:RBox w b g) (h6:5<b) (hv:VarsW w):R3 w b g (w.heap.size+1) w.heap.size l zch ((w.alloc (.cells #[.int .i64 0,.string ⟨#[]⟩,.string ⟨#[]⟩,.string ⟨#[]⟩,.int .i64 0] 53)).alloc (.cells #[.int .i64 0,.string ⟨#[]⟩,.string ⟨#[]⟩,.string ⟨#[]⟩,.int .i64 0] 53)):=by
 have hbl:=h.lt;obtain⟨wa,hwa⟩: ∃wa,wa=w.alloc (.cells #[.int .i64 0,.string ⟨#[]⟩,.string ⟨#[]⟩,.string ⟨#[]⟩,.int .i64 0] 53):=⟨_,rfl⟩
 rw[←hwa];have sa:wa.heap.size=w.heap.size+1:=by rw[hwa];simp
 have hba:Below w.heap.size w wa:=by rw[hwa];exact below_alloc _ _
 have hbb:=below_alloc wa (.cells #[.int .i64 0,.string ⟨#[]⟩,.string ⟨#[]⟩,.string ⟨#[]⟩,.int .i64 0] 53);have hab:=hba.trans (hbb.mono (by omega));refine⟨h.below hab,hg.below hab,hv.belowB (by omega) hab,?_,?_,nb_below b hab,hbl,heap_lt hg.1,by omega,Nat.le_refl _,by omega,h6⟩
 · rw[←sa];exact Cs.new wa zch _
 · exact Cs.belowAt (show Cs wa w.heap.size zch by rw[hwa];exact Cs.new w zch _) hbb (by omega)
set_option maxHeartbeats 4000000 in
theorem rch1_ok (b g:Nat) (l r1 r2 r3 r4 r5:List UInt8) (k cb:Int) (p q t:ByteArray) (w:World) (h:Rd b l w) (hg:RBox w b g) (hs:l.length≤MaxL) (h6:5<b) (hv:VarsW w)
    (h1:Wr.rdG Wr.gN l=some (k,r1)) (h2:Wr.txtP Wr.gN 1000 r1=some (p,r2)) (h3:Wr.txtP Wr.gN 1000 r2=some (q,r3)) (h4:Wr.txtP Wr.gN 1000 r3=some (t,r4)) (h5:Wr.rdG Wr.gN r4=some (cb,r5)):
    Calls Tryz.prog 68 #[.pointer (some ⟨g,0,none⟩)] w fun e w'=>e= .returned (.agg #[.int .i64 k,.string p,.string q,.string t,.int .i64 cb])∧Rd b r5 w'∧w.grownBy w' (some b):=by
 have s1:=Wr.rd_len h1;have s2:=Wr.txt_rest h2;have s3:=Wr.txt_rest h3;have s4:=Wr.txt_rest h4;have hgl:=heap_lt hg.1;have H0:=hid (r3_new h hg h6 hv);have g0:=H0.out.box.cell;have HK:=hid (rnum_ok H0.out.rd hs h6 H0.out.v h1);clear hv h hg;go_enter Tryz.func68,Tryz.ntmps68
 go_wp2_with fail;refine HK.out.mono ?_
 rintro e w1 ⟨rfl,hr1,hn1⟩;have H1:=hid (H0.out.call hn1 hr1);have c0:=H1.out.cC.cell 0 rfl;have f0:=H1.out.cC.fr 0;clear HK g0;go_wp2_with fail;obtain⟨w2,hw2⟩: ∃w2,w2=w1.setCell ⟨w.heap.size+1,0,none⟩ (.int .i64 k):=⟨_,rfl⟩
 rw[←hw2];have HA:=hid ((H1.out.set 0 (.int .i64 k)).drew);rw[←hw2]at HA;have n1: ¬g=w.heap.size+1:=by omega
 have n2: ¬w.heap.size+1=g:=by omega
 have KS:=hid (show∀(W:World) (i:Nat) (v:Value),W.cell? ⟨g,0,none⟩=some (.pointer (some ⟨b,0,none⟩))→(W.setCell ⟨w.heap.size+1,i,none⟩ v).cell? ⟨g,0,none⟩=some (.pointer (some ⟨b,0,none⟩))from fun W i v hW=>(World.cell?_of_block (w:=W) (a:=⟨g,0,none⟩) (Below.heap_setCell W _ v g (fun e=>n1 e))).trans hW);have hx0:w2.cell? ⟨g,0,none⟩=some (.pointer (some ⟨b,0,none⟩)):=HA.out.box.cell;clear hw2 c0 f0 hr1 hn1 H0 H1;go_cut [0,1,2] (fun x y z W=>x= .pointer (some ⟨g,0,none⟩)∧y= .pointer (some ⟨w.heap.size,0,none⟩)∧z= .pointer (some ⟨w.heap.size+1,0,none⟩)∧Hid (R3 w b g (w.heap.size+1) w.heap.size r4 [.int .i64 k,.string p,.string q,.string t,.int .i64 0] W))
 case first=>
  go_region_held3 (fun W=>W.cell? ⟨g,0,none⟩=some (.pointer (some ⟨b,0,none⟩))) (first|go_keep|exact KS.out _ _ _ jz|exact KS.out _ _ _ (KS.out _ _ _ jz)|exact KS.out _ _ _ (KS.out _ _ _ (KS.out _ _ _ jz))|exact KS.out _ _ _ jy|exact KS.out _ _ _ (KS.out _ _ _ jy)) (first|(go_at_call 35;refine(rtxt_ok HA.out.rd (by omega) h6 HA.out.v h2).mono ?_;rintro e wx ⟨rfl,hrx,hnx⟩;have HB:=hid (HA.out.call hnx hrx);have jx:=HB.out.box.cell)|(go_at_call 35;refine(rtxt_ok HB.out.rd (by omega) h6 HB.out.v h3).mono ?_;rintro e wy ⟨rfl,hry,hny⟩;have HD:=hid (HB.out.call hny hry);have jy:=HD.out.box.cell;have yc1:=HD.out.cC.cell 1 rfl;have yf1:=HD.out.cC.fr 1;have yc2:=HD.out.cC.cell 2 rfl;have yf2:=HD.out.cC.fr 2;have yc3:=HD.out.cC.cell 3 rfl;have yf3:=HD.out.cC.fr 3)|(go_at_call 35;refine(rtxt_ok HD.out.rd (by omega) h6 HD.out.v h4).mono ?_;rintro e wz ⟨rfl,hrz,hnz⟩;have HE:=hid (HD.out.call hnz hrz);have jz:=HE.out.box.cell;have zc1:=HE.out.cC.cell 1 rfl;have zf1:=HE.out.cC.fr 1;have zc2:=HE.out.cC.cell 2 rfl;have zf2:=HE.out.cC.fr 2;have zc3:=HE.out.cC.cell 3 rfl;have zf3:=HE.out.cC.fr 3)|(go_at_call 35;refine(rtxt_ok (HD.out.set 1 (.string p)).rd (by omega) h6 (HD.out.set 1 (.string p)).v h4).mono ?_;rintro e wz ⟨rfl,hrz,hnz⟩;have HE:=hid ((HD.out.set 1 (.string p)).call hnz hrz);have jz:=HE.out.box.cell;have zc1:=HE.out.cC.cell 1 rfl;have zf1:=HE.out.cC.fr 1;have zc2:=HE.out.cC.cell 2 rfl;have zf2:=HE.out.cC.fr 2;have zc3:=HE.out.cC.cell 3 rfl;have zf3:=HE.out.cC.fr 3)|(go_at_call 35;refine(rtxt_ok ((HD.out.set 1 (.string p)).set 2 (.string q)).rd (by omega) h6 ((HD.out.set 1 (.string p)).set 2 (.string q)).v h4).mono ?_;rintro e wz ⟨rfl,hrz,hnz⟩;have HE:=hid (((HD.out.set 1 (.string p)).set 2 (.string q)).call hnz hrz);have jz:=HE.out.box.cell;have zc1:=HE.out.cC.cell 1 rfl;have zf1:=HE.out.cC.fr 1;have zc2:=HE.out.cC.cell 2 rfl;have zf2:=HE.out.cC.fr 2;have zc3:=HE.out.cC.cell 3 rfl;have zf3:=HE.out.cC.fr 3))
  go_wp2_with fail;go_meet
  case rel=>exact⟨rfl,rfl,rfl,((HE.out.set 1 (.string p)).set 2 (.string q)).set 3 (.string t)⟩
 case rest=>
  obtain⟨rfl,rfl,rfl,HF⟩:=hcut
  have u0:=HF.out.box.cell;have HN:=hid (rnum_ok HF.out.rd (by omega) h6 HF.out.v h5);clear HA hx0 KS;go_wp2_with fail;refine HN.out.mono ?_
  rintro e w5 ⟨rfl,hr5,hn5⟩;have H5:=hid (HF.out.call hn5 hr5);have y0:=H5.out.cC.cell 0 rfl;have y1:=H5.out.cC.cell 1 rfl;have y2:=H5.out.cC.cell 2 rfl;have y3:=H5.out.cC.cell 3 rfl;have y4:=H5.out.cC.cell 4 rfl;have z4:=H5.out.cC.fr 4;have v0:=H5.out.cR.cell 0 rfl;have v1:=H5.out.cR.cell 1 rfl;have v2:=H5.out.cR.cell 2 rfl;have v3:=H5.out.cR.cell 3 rfl;have v4:=H5.out.cR.cell 4 rfl;have x0:=H5.out.cR.fr 0;have x1:=H5.out.cR.fr 1;have x2:=H5.out.cR.fr 2;have x3:=H5.out.cR.fr 3;have x4:=H5.out.cR.fr 4;have n3: ¬w.heap.size=w.heap.size+1:=by omega
  have n4: ¬w.heap.size+1=w.heap.size:=by omega
  clear HN u0;go_wp2_with fail;have hb:=H5.out.bl;have nR:b≠w.heap.size:=by omega
  have nC:b≠w.heap.size+1:=by omega
  have l1:w.heap.size≤w.heap.size+1:=by omega
  have l0:=Nat.le_refl w.heap.size;refine bodyPost_ret (v:= .agg #[.int .i64 k,.string p,.string q,.string t,.int .i64 cb]) (by simp[results,Tryz.results68,go_sem,n3,n4,v0,v1,v2,v3,v4]) rfl ⟨rfl,?_,?_⟩
  · exact(((((H5.out.rd.set' nC _).set' nR _).set' nR _).set' nR _).set' nR _).set' nR _
  · exact nb_new (nb_new (nb_new (nb_new (nb_new (nb_new H5.out.fr l1 _) l0 _) l0 _) l0 _) l0 _) l0 _
set_option maxHeartbeats 4000000 in
theorem rch1_no1 (b g:Nat) (l r1 r2 r3 r4 r5:List UInt8) (k cb:Int) (p q t:ByteArray) (w:World) (h:Rd b l w) (hg:RBox w b g) (hs:l.length≤MaxL) (h6:5<b) (hv:VarsW w)
    (h1:Wr.rdG Wr.gN l=none):
    Calls Tryz.prog 68 #[.pointer (some ⟨g,0,none⟩)] w fun e w'=>GaveUp e∧w.grownBy w' (some b):=by
 have hgl:=heap_lt hg.1;have H0:=hid (r3_new h hg h6 hv);have g0:=H0.out.box.cell;have HK:=hid (rnum_no H0.out.rd hs h6 H0.out.v h1);clear hv h hg;go_enter Tryz.func68,Tryz.ntmps68
 go_wp2_with fail;refine HK.out.mono ?_
 rintro e w1 ⟨rfl,hn1⟩;exact bodyPost_panic rfl ⟨rfl,nb_tr H0.out.fr hn1⟩
set_option maxHeartbeats 4000000 in
theorem rch1_no2 (b g:Nat) (l r1 r2 r3 r4 r5:List UInt8) (k cb:Int) (p q t:ByteArray) (w:World) (h:Rd b l w) (hg:RBox w b g) (hs:l.length≤MaxL) (h6:5<b) (hv:VarsW w)
    (h1:Wr.rdG Wr.gN l=some (k,r1)) (h2:Wr.txtP Wr.gN 1000 r1=none):
    Calls Tryz.prog 68 #[.pointer (some ⟨g,0,none⟩)] w fun e w'=>GaveUp e∧w.grownBy w' (some b):=by
 have s1:=Wr.rd_len h1;have hgl:=heap_lt hg.1;have H0:=hid (r3_new h hg h6 hv);have g0:=H0.out.box.cell;have HK:=hid (rnum_ok H0.out.rd hs h6 H0.out.v h1);clear hv h hg;go_enter Tryz.func68,Tryz.ntmps68
 go_wp2_with fail;refine HK.out.mono ?_
 rintro e w1 ⟨rfl,hr1,hn1⟩;have H1:=hid (H0.out.call hn1 hr1);have c0:=H1.out.cC.cell 0 rfl;have f0:=H1.out.cC.fr 0;clear HK g0;go_wp2_with fail;obtain⟨w2,hw2⟩: ∃w2,w2=w1.setCell ⟨w.heap.size+1,0,none⟩ (.int .i64 k):=⟨_,rfl⟩
 rw[←hw2];have HA:=hid ((H1.out.set 0 (.int .i64 k)).drew);rw[←hw2]at HA;have n1: ¬g=w.heap.size+1:=by omega
 have n2: ¬w.heap.size+1=g:=by omega
 have KS:=hid (show∀(W:World) (i:Nat) (v:Value),W.cell? ⟨g,0,none⟩=some (.pointer (some ⟨b,0,none⟩))→(W.setCell ⟨w.heap.size+1,i,none⟩ v).cell? ⟨g,0,none⟩=some (.pointer (some ⟨b,0,none⟩))from fun W i v hW=>(World.cell?_of_block (w:=W) (a:=⟨g,0,none⟩) (Below.heap_setCell W _ v g (fun e=>n1 e))).trans hW);have hx0:w2.cell? ⟨g,0,none⟩=some (.pointer (some ⟨b,0,none⟩)):=HA.out.box.cell;clear hw2 c0 f0 hr1 hn1 H0 H1;have hx1:w2.drew.cell? ⟨g,0,none⟩=some (.pointer (some ⟨b,0,none⟩)):=hx0;refine wp_region_held_drew (S:=fun W=>W.cell? ⟨g,0,none⟩=some (.pointer (some ⟨b,0,none⟩))) (by kernel_rfl) hx1 (fun hS=>?_)
 refine wpAnyH_take (i := 0) (oi := ⟨some 6, Op.load 75 (Operand.tmp 0), 75, "read.go:73", #[], none⟩) (v := .pointer (some ⟨b, 0, none⟩)) rfl (by kernel_rfl) (by kernel_rfl) (by kernel_rfl) (fun _ _ _ h => h) (Or.inl ⟨by rfl, fun W hW => by (try dsimp only at hW); go_simp⟩) hS ?_
 try simp only[Act.put,List.setIfInBounds_toArray,List.set_cons_zero,List.set_cons_succ]
 refine wpAnyH_take (i := 2) (oi := ⟨some 8, Op.load 75 (Operand.tmp 0), 75, "read.go:73", #[], none⟩) (v := .pointer (some ⟨b, 0, none⟩)) rfl (by kernel_rfl) (by kernel_rfl) (by kernel_rfl) (fun _ _ _ h => h) (Or.inl ⟨by rfl, fun W hW => by (try dsimp only at hW); go_simp⟩) hS ?_
 try simp only[Act.put,List.setIfInBounds_toArray,List.set_cons_zero,List.set_cons_succ]
 refine wpAnyH_take (i := 4) (oi := ⟨some 10, Op.load 75 (Operand.tmp 0), 75, "read.go:73", #[], none⟩) (v := .pointer (some ⟨b, 0, none⟩)) rfl (by kernel_rfl) (by kernel_rfl) (by kernel_rfl) (fun _ _ _ h => h) (Or.inl ⟨by rfl, fun W hW => by (try dsimp only at hW); go_simp⟩) hS ?_
 try simp only[Act.put,List.setIfInBounds_toArray,List.set_cons_zero,List.set_cons_succ]
 refine wpAnyH_ready (rs:=[1]) (by kernel_rfl) (by simp) ?_
 refine AllReadyH.cons (o := ⟨some 7, Op.call { callee := Callee.value (Operand.func 35), args := #[Operand.tmp 6], argTypes := #[75] }, 9, "read.go:73", #[⟨0, Ground.data⟩], none⟩) rfl (fun K hK => ?_) AllReadyH.nil
 go_simp
 refine(rtxt_no HA.out.rd (by omega) h6 HA.out.v h2).mono ?_
 rintro e wv ⟨rfl,hnv⟩;exact bodyPost_panic rfl ⟨rfl,nb_tr HA.out.fr hnv⟩
set_option maxHeartbeats 4000000 in
theorem rch1_no3 (b g:Nat) (l r1 r2 r3 r4 r5:List UInt8) (k cb:Int) (p q t:ByteArray) (w:World) (h:Rd b l w) (hg:RBox w b g) (hs:l.length≤MaxL) (h6:5<b) (hv:VarsW w)
    (h1:Wr.rdG Wr.gN l=some (k,r1)) (h2:Wr.txtP Wr.gN 1000 r1=some (p,r2)) (h3:Wr.txtP Wr.gN 1000 r2=none):
    Calls Tryz.prog 68 #[.pointer (some ⟨g,0,none⟩)] w fun e w'=>GaveUp e∧w.grownBy w' (some b):=by
 have s1:=Wr.rd_len h1;have s2:=Wr.txt_rest h2;have hgl:=heap_lt hg.1;have H0:=hid (r3_new h hg h6 hv);have g0:=H0.out.box.cell;have HK:=hid (rnum_ok H0.out.rd hs h6 H0.out.v h1);clear hv h hg;go_enter Tryz.func68,Tryz.ntmps68
 go_wp2_with fail;refine HK.out.mono ?_
 rintro e w1 ⟨rfl,hr1,hn1⟩;have H1:=hid (H0.out.call hn1 hr1);have c0:=H1.out.cC.cell 0 rfl;have f0:=H1.out.cC.fr 0;clear HK g0;go_wp2_with fail;obtain⟨w2,hw2⟩: ∃w2,w2=w1.setCell ⟨w.heap.size+1,0,none⟩ (.int .i64 k):=⟨_,rfl⟩
 rw[←hw2];have HA:=hid ((H1.out.set 0 (.int .i64 k)).drew);rw[←hw2]at HA;have n1: ¬g=w.heap.size+1:=by omega
 have n2: ¬w.heap.size+1=g:=by omega
 have KS:=hid (show∀(W:World) (i:Nat) (v:Value),W.cell? ⟨g,0,none⟩=some (.pointer (some ⟨b,0,none⟩))→(W.setCell ⟨w.heap.size+1,i,none⟩ v).cell? ⟨g,0,none⟩=some (.pointer (some ⟨b,0,none⟩))from fun W i v hW=>(World.cell?_of_block (w:=W) (a:=⟨g,0,none⟩) (Below.heap_setCell W _ v g (fun e=>n1 e))).trans hW);have hx0:w2.cell? ⟨g,0,none⟩=some (.pointer (some ⟨b,0,none⟩)):=HA.out.box.cell;clear hw2 c0 f0 hr1 hn1 H0 H1;have hx1:w2.drew.cell? ⟨g,0,none⟩=some (.pointer (some ⟨b,0,none⟩)):=hx0;refine wp_region_held_drew (S:=fun W=>W.cell? ⟨g,0,none⟩=some (.pointer (some ⟨b,0,none⟩))) (by kernel_rfl) hx1 (fun hS=>?_)
 refine wpAnyH_take (i := 0) (oi := ⟨some 6, Op.load 75 (Operand.tmp 0), 75, "read.go:73", #[], none⟩) (v := .pointer (some ⟨b, 0, none⟩)) rfl (by kernel_rfl) (by kernel_rfl) (by kernel_rfl) (fun _ _ _ h => h) (Or.inl ⟨by rfl, fun W hW => by (try dsimp only at hW); go_simp⟩) hS ?_
 try simp only[Act.put,List.setIfInBounds_toArray,List.set_cons_zero,List.set_cons_succ]
 refine wpAnyH_take (i := 2) (oi := ⟨some 8, Op.load 75 (Operand.tmp 0), 75, "read.go:73", #[], none⟩) (v := .pointer (some ⟨b, 0, none⟩)) rfl (by kernel_rfl) (by kernel_rfl) (by kernel_rfl) (fun _ _ _ h => h) (Or.inl ⟨by rfl, fun W hW => by (try dsimp only at hW); go_simp⟩) hS ?_
 try simp only[Act.put,List.setIfInBounds_toArray,List.set_cons_zero,List.set_cons_succ]
 refine wpAnyH_take (i := 4) (oi := ⟨some 10, Op.load 75 (Operand.tmp 0), 75, "read.go:73", #[], none⟩) (v := .pointer (some ⟨b, 0, none⟩)) rfl (by kernel_rfl) (by kernel_rfl) (by kernel_rfl) (fun _ _ _ h => h) (Or.inl ⟨by rfl, fun W hW => by (try dsimp only at hW); go_simp⟩) hS ?_
 try simp only[Act.put,List.setIfInBounds_toArray,List.set_cons_zero,List.set_cons_succ]
 refine wpAnyH_ready (rs:=[1]) (by kernel_rfl) (by simp) ?_
 refine AllReadyH.cons (o := ⟨some 7, Op.call { callee := Callee.value (Operand.func 35), args := #[Operand.tmp 6], argTypes := #[75] }, 9, "read.go:73", #[⟨0, Ground.data⟩], none⟩) rfl (fun K hK => ?_) AllReadyH.nil
 go_simp
 refine(rtxt_ok HA.out.rd (by omega) h6 HA.out.v h2).mono ?_
 rintro e wx0 ⟨rfl,hrx0,hnx0⟩;have HB:=hid (HA.out.call hnx0 hrx0);go_wp2_with fail;refine hK.out _ _ HB.out.box.cell (fun hS0=>?_)
 clear hK K;try simp only[Act.put,List.setIfInBounds_toArray,List.set_cons_zero,List.set_cons_succ]
 refine wpAnyH_take (i := 6) (oi := ⟨some 12, Op.fieldAddr 53 (Operand.tmp 2) 1, 0, "read.go:73", #[⟨0, Ground.phase⟩, ⟨1, Ground.phase⟩, ⟨2, Ground.textOnly Departure.lateStores⟩, ⟨3, Ground.textOnly Departure.lateStoresUnsure⟩, ⟨4, Ground.textOnly Departure.lateStores⟩, ⟨5, Ground.textOnly Departure.lateStoresUnsure⟩], none⟩) (v := .pointer (some ⟨w.heap.size + 1, 1, none⟩)) rfl (by kernel_rfl) (by kernel_rfl) (by kernel_rfl) (fun _ _ _ h => h) (Or.inl ⟨by rfl, fun W hW => by (try dsimp only at hW); go_simp⟩) hS0 ?_
 try simp only[Act.put,List.setIfInBounds_toArray,List.set_cons_zero,List.set_cons_succ]
 refine wpAnyH_ready (rs:=[3]) (by kernel_rfl) (by simp) ?_
 refine AllReadyH.cons (o := ⟨some 9, Op.call { callee := Callee.value (Operand.func 35), args := #[Operand.tmp 8], argTypes := #[75] }, 9, "read.go:73", #[⟨2, Ground.data⟩, ⟨1, Ground.chain⟩], none⟩) rfl (fun K hK => ?_) AllReadyH.nil
 go_simp
 refine(rtxt_no HB.out.rd (by omega) h6 HB.out.v h3).mono ?_
 rintro e wv ⟨rfl,hnv⟩;exact bodyPost_panic rfl ⟨rfl,nb_tr HB.out.fr hnv⟩
set_option maxHeartbeats 4000000 in
theorem rch1_no4 (b g:Nat) (l r1 r2 r3 r4 r5:List UInt8) (k cb:Int) (p q t:ByteArray) (w:World) (h:Rd b l w) (hg:RBox w b g) (hs:l.length≤MaxL) (h6:5<b) (hv:VarsW w)
    (h1:Wr.rdG Wr.gN l=some (k,r1)) (h2:Wr.txtP Wr.gN 1000 r1=some (p,r2)) (h3:Wr.txtP Wr.gN 1000 r2=some (q,r3)) (h4:Wr.txtP Wr.gN 1000 r3=none):
    Calls Tryz.prog 68 #[.pointer (some ⟨g,0,none⟩)] w fun e w'=>GaveUp e∧w.grownBy w' (some b):=by
 have s1:=Wr.rd_len h1;have s2:=Wr.txt_rest h2;have s3:=Wr.txt_rest h3;have hgl:=heap_lt hg.1;have H0:=hid (r3_new h hg h6 hv);have g0:=H0.out.box.cell;have HK:=hid (rnum_ok H0.out.rd hs h6 H0.out.v h1);clear hv h hg;go_enter Tryz.func68,Tryz.ntmps68
 go_wp2_with fail;refine HK.out.mono ?_
 rintro e w1 ⟨rfl,hr1,hn1⟩;have H1:=hid (H0.out.call hn1 hr1);have c0:=H1.out.cC.cell 0 rfl;have f0:=H1.out.cC.fr 0;clear HK g0;go_wp2_with fail;obtain⟨w2,hw2⟩: ∃w2,w2=w1.setCell ⟨w.heap.size+1,0,none⟩ (.int .i64 k):=⟨_,rfl⟩
 rw[←hw2];have HA:=hid ((H1.out.set 0 (.int .i64 k)).drew);rw[←hw2]at HA;have n1: ¬g=w.heap.size+1:=by omega
 have n2: ¬w.heap.size+1=g:=by omega
 have KS:=hid (show∀(W:World) (i:Nat) (v:Value),W.cell? ⟨g,0,none⟩=some (.pointer (some ⟨b,0,none⟩))→(W.setCell ⟨w.heap.size+1,i,none⟩ v).cell? ⟨g,0,none⟩=some (.pointer (some ⟨b,0,none⟩))from fun W i v hW=>(World.cell?_of_block (w:=W) (a:=⟨g,0,none⟩) (Below.heap_setCell W _ v g (fun e=>n1 e))).trans hW);have hx0:w2.cell? ⟨g,0,none⟩=some (.pointer (some ⟨b,0,none⟩)):=HA.out.box.cell;clear hw2 c0 f0 hr1 hn1 H0 H1;have hx1:w2.drew.cell? ⟨g,0,none⟩=some (.pointer (some ⟨b,0,none⟩)):=hx0;refine wp_region_held_drew (S:=fun W=>W.cell? ⟨g,0,none⟩=some (.pointer (some ⟨b,0,none⟩))) (by kernel_rfl) hx1 (fun hS=>?_)
 refine wpAnyH_take (i := 0) (oi := ⟨some 6, Op.load 75 (Operand.tmp 0), 75, "read.go:73", #[], none⟩) (v := .pointer (some ⟨b, 0, none⟩)) rfl (by kernel_rfl) (by kernel_rfl) (by kernel_rfl) (fun _ _ _ h => h) (Or.inl ⟨by rfl, fun W hW => by (try dsimp only at hW); go_simp⟩) hS ?_
 try simp only[Act.put,List.setIfInBounds_toArray,List.set_cons_zero,List.set_cons_succ]
 refine wpAnyH_take (i := 2) (oi := ⟨some 8, Op.load 75 (Operand.tmp 0), 75, "read.go:73", #[], none⟩) (v := .pointer (some ⟨b, 0, none⟩)) rfl (by kernel_rfl) (by kernel_rfl) (by kernel_rfl) (fun _ _ _ h => h) (Or.inl ⟨by rfl, fun W hW => by (try dsimp only at hW); go_simp⟩) hS ?_
 try simp only[Act.put,List.setIfInBounds_toArray,List.set_cons_zero,List.set_cons_succ]
 refine wpAnyH_take (i := 4) (oi := ⟨some 10, Op.load 75 (Operand.tmp 0), 75, "read.go:73", #[], none⟩) (v := .pointer (some ⟨b, 0, none⟩)) rfl (by kernel_rfl) (by kernel_rfl) (by kernel_rfl) (fun _ _ _ h => h) (Or.inl ⟨by rfl, fun W hW => by (try dsimp only at hW); go_simp⟩) hS ?_
 try simp only[Act.put,List.setIfInBounds_toArray,List.set_cons_zero,List.set_cons_succ]
 refine wpAnyH_ready (rs:=[1]) (by kernel_rfl) (by simp) ?_
 refine AllReadyH.cons (o := ⟨some 7, Op.call { callee := Callee.value (Operand.func 35), args := #[Operand.tmp 6], argTypes := #[75] }, 9, "read.go:73", #[⟨0, Ground.data⟩], none⟩) rfl (fun K hK => ?_) AllReadyH.nil
 go_simp
 refine(rtxt_ok HA.out.rd (by omega) h6 HA.out.v h2).mono ?_
 rintro e wx0 ⟨rfl,hrx0,hnx0⟩;have HB:=hid (HA.out.call hnx0 hrx0);go_wp2_with fail;refine hK.out _ _ HB.out.box.cell (fun hS0=>?_)
 clear hK K;try simp only[Act.put,List.setIfInBounds_toArray,List.set_cons_zero,List.set_cons_succ]
 refine wpAnyH_take (i := 6) (oi := ⟨some 12, Op.fieldAddr 53 (Operand.tmp 2) 1, 0, "read.go:73", #[⟨0, Ground.phase⟩, ⟨1, Ground.phase⟩, ⟨2, Ground.textOnly Departure.lateStores⟩, ⟨3, Ground.textOnly Departure.lateStoresUnsure⟩, ⟨4, Ground.textOnly Departure.lateStores⟩, ⟨5, Ground.textOnly Departure.lateStoresUnsure⟩], none⟩) (v := .pointer (some ⟨w.heap.size + 1, 1, none⟩)) rfl (by kernel_rfl) (by kernel_rfl) (by kernel_rfl) (fun _ _ _ h => h) (Or.inl ⟨by rfl, fun W hW => by (try dsimp only at hW); go_simp⟩) hS0 ?_
 try simp only[Act.put,List.setIfInBounds_toArray,List.set_cons_zero,List.set_cons_succ]
 refine wpAnyH_ready (rs:=[3]) (by kernel_rfl) (by simp) ?_
 refine AllReadyH.cons (o := ⟨some 9, Op.call { callee := Callee.value (Operand.func 35), args := #[Operand.tmp 8], argTypes := #[75] }, 9, "read.go:73", #[⟨2, Ground.data⟩, ⟨1, Ground.chain⟩], none⟩) rfl (fun K hK => ?_) AllReadyH.nil
 go_simp
 refine(rtxt_ok HB.out.rd (by omega) h6 HB.out.v h3).mono ?_
 rintro e wx1 ⟨rfl,hrx1,hnx1⟩;have HD:=hid (HB.out.call hnx1 hrx1);go_wp2_with fail;refine hK.out _ _ HD.out.box.cell (fun hS1=>?_)
 clear hK K;try simp only[Act.put,List.setIfInBounds_toArray,List.set_cons_zero,List.set_cons_succ]
 refine wpAnyH_ready (rs:=[5]) (by kernel_rfl) (by simp) ?_
 refine AllReadyH.cons (o := ⟨some 11, Op.call { callee := Callee.value (Operand.func 35), args := #[Operand.tmp 10], argTypes := #[75] }, 9, "read.go:73", #[⟨4, Ground.data⟩, ⟨3, Ground.chain⟩], none⟩) rfl (fun K hK => ?_) AllReadyH.nil
 go_simp
 refine(rtxt_no HD.out.rd (by omega) h6 HD.out.v h4).mono ?_
 rintro e wv ⟨rfl,hnv⟩;exact bodyPost_panic rfl ⟨rfl,nb_tr HD.out.fr hnv⟩
set_option maxHeartbeats 4000000 in
theorem rch1_no5 (b g:Nat) (l r1 r2 r3 r4 r5:List UInt8) (k cb:Int) (p q t:ByteArray) (w:World) (h:Rd b l w) (hg:RBox w b g) (hs:l.length≤MaxL) (h6:5<b) (hv:VarsW w)
    (h1:Wr.rdG Wr.gN l=some (k,r1)) (h2:Wr.txtP Wr.gN 1000 r1=some (p,r2)) (h3:Wr.txtP Wr.gN 1000 r2=some (q,r3)) (h4:Wr.txtP Wr.gN 1000 r3=some (t,r4)) (h5:Wr.rdG Wr.gN r4=none):
    Calls Tryz.prog 68 #[.pointer (some ⟨g,0,none⟩)] w fun e w'=>GaveUp e∧w.grownBy w' (some b):=by
 have s1:=Wr.rd_len h1;have s2:=Wr.txt_rest h2;have s3:=Wr.txt_rest h3;have s4:=Wr.txt_rest h4;have hgl:=heap_lt hg.1;have H0:=hid (r3_new h hg h6 hv);have g0:=H0.out.box.cell;have HK:=hid (rnum_ok H0.out.rd hs h6 H0.out.v h1);clear hv h hg;go_enter Tryz.func68,Tryz.ntmps68
 go_wp2_with fail;refine HK.out.mono ?_
 rintro e w1 ⟨rfl,hr1,hn1⟩;have H1:=hid (H0.out.call hn1 hr1);have c0:=H1.out.cC.cell 0 rfl;have f0:=H1.out.cC.fr 0;clear HK g0;go_wp2_with fail;obtain⟨w2,hw2⟩: ∃w2,w2=w1.setCell ⟨w.heap.size+1,0,none⟩ (.int .i64 k):=⟨_,rfl⟩
 rw[←hw2];have HA:=hid ((H1.out.set 0 (.int .i64 k)).drew);rw[←hw2]at HA;have n1: ¬g=w.heap.size+1:=by omega
 have n2: ¬w.heap.size+1=g:=by omega
 have KS:=hid (show∀(W:World) (i:Nat) (v:Value),W.cell? ⟨g,0,none⟩=some (.pointer (some ⟨b,0,none⟩))→(W.setCell ⟨w.heap.size+1,i,none⟩ v).cell? ⟨g,0,none⟩=some (.pointer (some ⟨b,0,none⟩))from fun W i v hW=>(World.cell?_of_block (w:=W) (a:=⟨g,0,none⟩) (Below.heap_setCell W _ v g (fun e=>n1 e))).trans hW);have hx0:w2.cell? ⟨g,0,none⟩=some (.pointer (some ⟨b,0,none⟩)):=HA.out.box.cell;clear hw2 c0 f0 hr1 hn1 H0 H1;go_cut [0,1,2] (fun x y z W=>x= .pointer (some ⟨g,0,none⟩)∧y= .pointer (some ⟨w.heap.size,0,none⟩)∧z= .pointer (some ⟨w.heap.size+1,0,none⟩)∧Hid (R3 w b g (w.heap.size+1) w.heap.size r4 [.int .i64 k,.string p,.string q,.string t,.int .i64 0] W))
 case first=>
  go_region_held3 (fun W=>W.cell? ⟨g,0,none⟩=some (.pointer (some ⟨b,0,none⟩))) (first|go_keep|exact KS.out _ _ _ jz|exact KS.out _ _ _ (KS.out _ _ _ jz)|exact KS.out _ _ _ (KS.out _ _ _ (KS.out _ _ _ jz))|exact KS.out _ _ _ jy|exact KS.out _ _ _ (KS.out _ _ _ jy)) (first|(go_at_call 35;refine(rtxt_ok HA.out.rd (by omega) h6 HA.out.v h2).mono ?_;rintro e wx ⟨rfl,hrx,hnx⟩;have HB:=hid (HA.out.call hnx hrx);have jx:=HB.out.box.cell)|(go_at_call 35;refine(rtxt_ok HB.out.rd (by omega) h6 HB.out.v h3).mono ?_;rintro e wy ⟨rfl,hry,hny⟩;have HD:=hid (HB.out.call hny hry);have jy:=HD.out.box.cell;have yc1:=HD.out.cC.cell 1 rfl;have yf1:=HD.out.cC.fr 1;have yc2:=HD.out.cC.cell 2 rfl;have yf2:=HD.out.cC.fr 2;have yc3:=HD.out.cC.cell 3 rfl;have yf3:=HD.out.cC.fr 3)|(go_at_call 35;refine(rtxt_ok HD.out.rd (by omega) h6 HD.out.v h4).mono ?_;rintro e wz ⟨rfl,hrz,hnz⟩;have HE:=hid (HD.out.call hnz hrz);have jz:=HE.out.box.cell;have zc1:=HE.out.cC.cell 1 rfl;have zf1:=HE.out.cC.fr 1;have zc2:=HE.out.cC.cell 2 rfl;have zf2:=HE.out.cC.fr 2;have zc3:=HE.out.cC.cell 3 rfl;have zf3:=HE.out.cC.fr 3)|(go_at_call 35;refine(rtxt_ok (HD.out.set 1 (.string p)).rd (by omega) h6 (HD.out.set 1 (.string p)).v h4).mono ?_;rintro e wz ⟨rfl,hrz,hnz⟩;have HE:=hid ((HD.out.set 1 (.string p)).call hnz hrz);have jz:=HE.out.box.cell;have zc1:=HE.out.cC.cell 1 rfl;have zf1:=HE.out.cC.fr 1;have zc2:=HE.out.cC.cell 2 rfl;have zf2:=HE.out.cC.fr 2;have zc3:=HE.out.cC.cell 3 rfl;have zf3:=HE.out.cC.fr 3)|(go_at_call 35;refine(rtxt_ok ((HD.out.set 1 (.string p)).set 2 (.string q)).rd (by omega) h6 ((HD.out.set 1 (.string p)).set 2 (.string q)).v h4).mono ?_;rintro e wz ⟨rfl,hrz,hnz⟩;have HE:=hid (((HD.out.set 1 (.string p)).set 2 (.string q)).call hnz hrz);have jz:=HE.out.box.cell;have zc1:=HE.out.cC.cell 1 rfl;have zf1:=HE.out.cC.fr 1;have zc2:=HE.out.cC.cell 2 rfl;have zf2:=HE.out.cC.fr 2;have zc3:=HE.out.cC.cell 3 rfl;have zf3:=HE.out.cC.fr 3))
  go_wp2_with fail;go_meet
  case rel=>exact⟨rfl,rfl,rfl,((HE.out.set 1 (.string p)).set 2 (.string q)).set 3 (.string t)⟩
 case rest=>
  obtain⟨rfl,rfl,rfl,HF⟩:=hcut
  have u0:=HF.out.box.cell;have HN:=hid (rnum_no HF.out.rd (by omega) h6 HF.out.v h5);clear HA hx0 KS;go_wp2_with fail;refine HN.out.mono ?_
  rintro e w5 ⟨rfl,hn5⟩;exact bodyPost_panic rfl ⟨rfl,nb_tr HF.out.fr hn5⟩
end Go.Proofs.YtdifomkoegmngaaGreatDoor
