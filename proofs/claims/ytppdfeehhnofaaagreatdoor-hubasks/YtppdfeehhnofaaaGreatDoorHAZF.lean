/- The program's writer: rows of texts and of numbers. -/
import Derived.Test.YtppdfeehhnofaaaGreatDoorHAZE
set_option linter.unusedSimpArgs false
set_option linter.unusedVariables false
namespace Go.Proofs.YtppdfeehhnofaaaGreatDoor
open Go.RowKit

/-- A row of cells of another type than bytes stays. -/
theorem FrW.row {B b g:Nat} {cs:Array Value} {T:TypeId} {fz:Nat×Nat} {w w':World} (h:FrW B b w w') (hg:w.heap[g]?=some (.cells cs T fz)) (hgb:g≠b) (hT:T≠5):w'.heap[g]?=some (.cells cs T fz):=
 h.2 g _ hg (fun e=>hgb (by injection e)) (fun c fz' e=>by injection e with _ e2 _;exact hT e2)
theorem Wr.take_next {α:Type} (f:α→Wr.It) (s:Ws) (xs:List α) (k:Nat) (h:k<xs.length):Wr.run s ((xs.take (k+1)).map f)=Wr.put (Wr.run s ((xs.take k).map f)) (f xs[k]):=by
 rw[List.take_succ_eq_append_getElem h,List.map_append,Wr.run_app];rfl
theorem Wr.take_len {α:Type} (f:α→Wr.It) (s:Ws) (xs:List α) (k:Nat) (hw: ∀x∈xs,(f x).wf) (hs:s.l.length+1021*xs.length≤1000000000):(Wr.run s ((xs.take k).map f)).l.length≤1000000000:=by
 have:=Wr.run_len ((xs.take k).map f) s (fun y hy=>by
  obtain⟨x,hx,rfl⟩:=List.mem_map.1 hy
  exact hw x (List.mem_of_mem_take hx))
 have h2:((xs.take k).map f).length≤xs.length:=by rw[List.length_map,List.length_take];omega
 omega
set_option maxHeartbeats 1000000 in
theorem wtexts_any (xs:List ByteArray) (B b g:Nat) (s:Ws) (w:World) (h:Wt B b s w) (hg:w.heap[g]?=some (.cells (xs.map Value.string).toArray 9 (0,0))) (hgb:g≠b) (hlen:s.l.length+1021*xs.length≤1000000000) (h3:3<B) (ht:PowTab w) (hx: ∀x∈xs,(x.size:Int)≤9223372036854775807):
    Calls Tryz.prog 16 #[.pointer (some ⟨b,0,none⟩),.slice (some ⟨g,0,none⟩) xs.length xs.length] w fun e w'=>e= .returned (.tuple #[])∧Wt B b (Wr.run s (xs.map .t)) w'∧FrW B b w w':=by
 have HG:=hid hg;have HX:=hid hx;have HT:=hid ht;have HL:=hid (show∀k,(Wr.run s ((xs.take k).map Wr.It.t)).l.length≤1000000000 from fun k=>Wr.take_len _ s xs k (fun _ _=>trivial) hlen);have hxl:xs.length≤1000000:=by omega
 clear hg hx ht hlen;go_enter Tryz.func16,Tryz.ntmps16
 go_wp2_with fail;go_loopw [8] (fun i wr=> ∃k:Nat,k≤xs.length∧i= .int .i64 k∧Hid (Wt B b (Wr.run s ((xs.take k).map .t)) wr)∧FrW B b w wr) (fun i _=>xs.length-(intOf i).toNat)
 case atStart=>exact⟨0,Nat.zero_le _,rfl,(by rw[List.take_zero];exact h:Wt B b (Wr.run s ((xs.take 0).map .t)) w),FrW.refl _ _ _⟩
 case round=>
  obtain⟨k,hk,rfl,HW,hf⟩:=hrel
  by_cases hlt:k<xs.length
  · have c0:wr.cell? ⟨g,k,none⟩=some (.string xs[k]):=by rw[Lib.cell_of_heap (hf.row HG.out hgb (by decide))];simp[hlt]
    have hT2:=HT.out.fr h3 hf;have hT3:=hid hT2;clear hT2;go_wp2_with fail;refine(wtext_any B b _ xs[k] wr HW.out (HL.out k) h3 hT3.out (HX.out _ (List.getElem_mem hlt))).mono ?_
    rintro e w1 ⟨rfl,h1,hf1⟩;have H1:=hid h1;clear h1 c0;go_wp2_with fail;go_roundw
    case rel=>exact⟨k+1,by omega,by simp,(by rw[Wr.take_next _ s xs k hlt];exact H1.out:Wt B b (Wr.run s ((xs.take (k+1)).map .t)) w1),hf.trans hf1⟩
    case measure=>simp[intOf];omega
  · obtain rfl:k=xs.length:=by omega
    go_wp2_with fail;go_end0
    exact⟨rfl,by have:=HW.out;rw[List.take_length]at this;exact this,hf⟩
set_option maxHeartbeats 1000000 in
theorem wnumbers_any (xs:List Int) (B b g:Nat) (s:Ws) (w:World) (h:Wt B b s w) (hg:w.heap[g]?=some (.cells (xs.map (Value.int .i64)).toArray 3 (0,0))) (hgb:g≠b) (hlen:s.l.length+1021*xs.length≤1000000000) (h3:3<B) (ht:PowTab w) (hx: ∀x∈xs,I64 x):
    Calls Tryz.prog 17 #[.pointer (some ⟨b,0,none⟩),.slice (some ⟨g,0,none⟩) xs.length xs.length] w fun e w'=>e= .returned (.tuple #[])∧Wt B b (Wr.run s (xs.map .n)) w'∧FrW B b w w':=by
 have HG:=hid hg;have HX:=hid hx;have HT:=hid ht;have HL:=hid (show∀k,(Wr.run s ((xs.take k).map Wr.It.n)).l.length≤1000000000 from fun k=>Wr.take_len _ s xs k hx hlen);have hxl:xs.length≤1000000:=by omega
 clear hg hx ht hlen;go_enter Tryz.func17,Tryz.ntmps17
 go_wp2_with fail;go_loopw [8] (fun i wr=> ∃k:Nat,k≤xs.length∧i= .int .i64 k∧Hid (Wt B b (Wr.run s ((xs.take k).map .n)) wr)∧FrW B b w wr) (fun i _=>xs.length-(intOf i).toNat)
 case atStart=>exact⟨0,Nat.zero_le _,rfl,(by rw[List.take_zero];exact h:Wt B b (Wr.run s ((xs.take 0).map .n)) w),FrW.refl _ _ _⟩
 case round=>
  obtain⟨k,hk,rfl,HW,hf⟩:=hrel
  by_cases hlt:k<xs.length
  · have c0:wr.cell? ⟨g,k,none⟩=some (.int .i64 xs[k]):=by rw[Lib.cell_of_heap (hf.row HG.out hgb (by decide))];simp[hlt]
    have hT2:=HT.out.fr h3 hf;have hT3:=hid hT2;clear hT2;go_wp2_with fail;refine(wnum_any B b _ xs[k] wr HW.out (HX.out _ (List.getElem_mem hlt)) (HL.out k) h3 hT3.out).mono ?_
    rintro e w1 ⟨rfl,h1,hf1⟩;have H1:=hid h1;clear h1 c0;go_wp2_with fail;go_roundw
    case rel=>exact⟨k+1,by omega,by simp,(by rw[Wr.take_next _ s xs k hlt];exact H1.out:Wt B b (Wr.run s ((xs.take (k+1)).map .n)) w1),hf.trans hf1⟩
    case measure=>simp[intOf];omega
  · obtain rfl:k=xs.length:=by omega
    go_wp2_with fail;go_end0
    exact⟨rfl,by have:=HW.out;rw[List.take_length]at this;exact this,hf⟩
namespace Wr
/-- A list: how many there are, and each; or too many. -/
def lst {α:Type} (m:Nat) (f:α→List It) (l:List α):List It:=if l.length≤m then .n l.length::l.flatMap f else[.big]
def chI (c:Pp.Ch):List It:=[.n c.k,.t c.p,.t c.q,.t c.t,.n c.b]
def rqI (q:Rq):List It:=[.n q.kind,.t q.who,.t q.fo,.t q.name,.t q.key,.t q.text,.n q.num,.n q.off,.n q.base]++lst 20 chI q.ch
theorem fm_next {α:Type} (f:α→List It) (s:Ws) (xs:List α) (k:Nat) (h:k<xs.length):run s ((xs.take (k+1)).flatMap f)=run (run s ((xs.take k).flatMap f)) (f xs[k]):=by
 rw[List.take_succ_eq_append_getElem h,List.flatMap_append,run_app];simp
theorem fm_count {α:Type} (f:α→List It) (m:Nat): ∀(xs:List α),(∀x∈xs,(f x).length≤m)→(xs.flatMap f).length≤m*xs.length
 |[],_=>by simp
 |x::xs,h=>by
  have h1:=h x (by simp);have h2:=fm_count f m xs (fun y hy=>h y (by simp[hy]));rw[List.flatMap_cons,List.length_append,List.length_cons,Nat.mul_succ];omega
theorem fm_len {α:Type} (f:α→List It) (m:Nat) (s:Ws) (xs:List α) (k:Nat) (h: ∀x∈xs,(f x).length≤m∧ ∀y∈f x,y.wf):(run s ((xs.take k).flatMap f)).l.length≤s.l.length+1021*(m*xs.length):=by
 have h1:=run_len ((xs.take k).flatMap f) s (fun y hy=>by
  obtain⟨x,hx,hy⟩:=List.mem_flatMap.1 hy
  exact(h x (List.mem_of_mem_take hx)).2 y hy)
 have h2:=fm_count f m (xs.take k) (fun x hx=>(h x (List.mem_of_mem_take hx)).1);have h3:m*(xs.take k).length≤m*xs.length:=Nat.mul_le_mul_left _ (by rw[List.length_take];omega);omega
end Wr
def TxB (x:ByteArray):Prop:=(x.size:Int)≤9223372036854775807
structure WfC (c:Pp.Ch):Prop where
 k:I64 c.k
 b:I64 c.b
 p:TxB c.p
 q:TxB c.q
 t:TxB c.t
theorem WfC.it {c:Pp.Ch} (h:WfC c):(Wr.chI c).length≤5∧ ∀y∈Wr.chI c,y.wf:=by
 refine⟨by simp[Wr.chI],fun y hy=>?_⟩
 simp only[Wr.chI,List.mem_cons,List.not_mem_nil,or_false]at hy;rcases hy with rfl|rfl|rfl|rfl|rfl
 · exact h.k
 · trivial
 · trivial
 · trivial
 · exact h.b
/-- A box that bears the writer's address. -/
def WBox (w:World) (b g:Nat):Prop:=w.heap[g]?=some (.cells #[.pointer (some ⟨b,0,none⟩)] 59 (0,0))∧g≠b
theorem WBox.fr {B b g:Nat} {w w':World} (h:WBox w b g) (hf:FrW B b w w'):WBox w' b g:=⟨hf.row h.1 h.2 (by decide),h.2⟩
theorem WBox.below {b g:Nat} {w w':World} (h:WBox w b g) (hf:Below w.heap.size w w'):WBox w' b g:=⟨(hf.block g (heap_lt h.1)).trans h.1,h.2⟩
theorem WBox.cell {b g:Nat} {w:World} (h:WBox w b g):w.cell? ⟨g,0,none⟩=some (.pointer (some ⟨b,0,none⟩)):=by rw[Lib.cell_of_heap h.1];rfl
theorem below_alloc (w:World) (o:Obj):Below w.heap.size w (w.alloc o):=(Below.refl _ w).alloc (Nat.le_refl _) o
set_option maxHeartbeats 1000000 in
theorem wch1_any (c:Pp.Ch) (B b g:Nat) (s:Ws) (w:World) (h:Wt B b s w) (hg:WBox w b g) (hlen:s.l.length+6000≤1000000000) (h3:3<B) (ht:PowTab w) (hc:WfC c):
    Calls Tryz.prog 43 #[.agg #[.int .i64 c.k,.string c.p,.string c.q,.string c.t,.int .i64 c.b],.pointer (some ⟨g,0,none⟩)] w fun e w'=>e= .returned (.tuple #[])∧Wt B b (Wr.run s (Wr.chI c)) w'∧FrW B b w w':=by
 obtain⟨k,p,q,t,cb⟩:=c
 have hBw:B≤w.heap.size:=Nat.le_of_lt (Nat.lt_of_le_of_lt h.B h.lt);obtain⟨w0,hw0⟩: ∃w0,w0=w.alloc (.cells #[.int .i64 k,.string p,.string q,.string t,.int .i64 cb] 54):=⟨_,rfl⟩
 have hb0:Below w.heap.size w w0:=by rw[hw0];exact below_alloc _ _
 have hf0:FrW B b w w0:=fr_below hb0 hBw;have hm0:w0.heap[w.heap.size]?=some (.cells #[.int .i64 k,.string p,.string q,.string t,.int .i64 cb] 54 (0,0)):=by rw[hw0];exact heap_alloc_new w _
 have hmb:w.heap.size≠b:=fun e=>by have:=h.lt;omega
 have h0:=h.below hb0;have hg0:=hg.below hb0;have ht0:=ht.fr h3 hf0;have a0:=hg0.cell;rw[hw0]at a0;have HK:=hid (wnum_any B b s k w0 h0 hc.k (by omega) h3 ht0);have l1:=Wr.num_len (s:=s) hc.k;rw[hw0]at HK;have HM0:=hid hm0;have HG0:=hid hg0;have HT0:=hid ht0;have HC:=hid hc;have HW0:=hid hw0;clear hw0 hm0 hg0 ht0 hg ht hc h0;go_enter Tryz.func43,Tryz.ntmps43
 go_wp2_with fail;refine HK.out.mono ?_
 rintro e w1 ⟨rfl,h1,hf1⟩;rw[←HW0.out]at hf1;have hg1:=HG0.out.fr hf1;have hm1:=hf1.row HM0.out hmb (by decide);have ht1:=HT0.out.fr h3 hf1;have hB1:B≤w1.heap.size:=Nat.le_of_lt (Nat.lt_of_le_of_lt h1.B h1.lt);obtain⟨w2,hw2⟩: ∃w2,w2=w1.alloc (.cells #[.string p,.string q,.string t] 9):=⟨_,rfl⟩
 have hb2:Below w1.heap.size w1 w2:=by rw[hw2];exact below_alloc _ _
 have hf2:FrW B b w1 w2:=fr_below hb2 hB1;have hx2:w2.heap[w1.heap.size]?=some (.cells (([p,q,t]:List ByteArray).map Value.string).toArray 9 (0,0)):=by rw[hw2];exact heap_alloc_new w1 _
 have hxb:w1.heap.size≠b:=fun e=>by have:=h1.lt;omega
 have c0:=hg1.cell;have c1:w1.cell? ⟨w.heap.size,1,none⟩=some (.string p):=by rw[Lib.cell_of_heap hm1];rfl
 have c2:w1.cell? ⟨w.heap.size,2,none⟩=some (.string q):=by rw[Lib.cell_of_heap hm1];rfl
 have c3:w1.cell? ⟨w.heap.size,3,none⟩=some (.string t):=by rw[Lib.cell_of_heap hm1];rfl
 have HX:=hid (wtexts_any [p,q,t] B b w1.heap.size (Wr.num s k) w2 (h1.below hb2) hx2 hxb (by simp only[List.length_cons,List.length_nil];omega) h3 (ht1.fr h3 hf2) (by
  intro x hx;simp only[List.mem_cons,List.not_mem_nil,or_false]at hx;rcases hx with rfl|rfl|rfl
  · exact HC.out.p
  · exact HC.out.q
  · exact HC.out.t))
 have hg2:=hg1.fr hf2;have hm2:=hf2.row hm1 hmb (by decide);have ht2:=ht1.fr h3 hf2;rw[hw2]at HX;have HW2:=hid hw2;have HG2:=hid hg2;have HM2:=hid hm2;have HT2:=hid ht2;clear hw2 hg2 hm2 ht2 hg1 hm1 ht1 HM0 HG0 HT0 HK a0 hx2 h1;go_wp2_with fail;refine HX.out.mono ?_
 rintro e w3 ⟨rfl,h5,hf3⟩;rw[←HW2.out]at hf3;have hg3:=HG2.out.fr hf3;have hm3:=hf3.row HM2.out hmb (by decide);have ht3:=HT2.out.fr h3 hf3;have d0:=hg3.cell;have d1:w3.cell? ⟨w.heap.size,4,none⟩=some (.int .i64 cb):=by rw[Lib.cell_of_heap hm3];rfl
 have l2:=Wr.run_len (([p,q,t]:List ByteArray).map Wr.It.t) (Wr.num s k) (by
  intro y hy;simp only[List.map_cons,List.map_nil,List.mem_cons,List.not_mem_nil,or_false]at hy;rcases hy with rfl|rfl|rfl<;>trivial)
 simp only[List.map_cons,List.map_nil,List.length_cons,List.length_nil]at l2;have HN:=hid (wnum_any B b _ cb w3 h5 HC.out.b (by simp only[List.map_cons,List.map_nil];omega) h3 ht3);clear c0 c1 c2 c3 HX hg3 hm3 ht3 HG2 HM2 HT2 h5;go_wp2_with fail;refine HN.out.mono ?_
 rintro e w4 ⟨rfl,h6,hf4⟩;go_wp2_with fail;go_end0
 exact⟨rfl,h6,hf0.trans (hf1.trans (hf2.trans (hf3.trans hf4)))⟩
theorem wch1_enters: ∀args w,(callFunc 43 args).run Tryz.prog w= .ok (.enter 43 args) w:=enters_of Tryz.func43 (by kernel_rfl) rfl
set_option maxHeartbeats 1000000 in
theorem wlc_any (W0:World) (cs:List Pp.Ch) (v:Value) (b g:Nat) (s:Ws) (w:World) (hL:LiesC W0 v cs) (hW:Below W0.heap.size W0 w) (h:Wt W0.heap.size b s w) (hg:WBox w b g) (hlen:s.l.length+200000≤1000000000) (h3:3<W0.heap.size) (ht:PowTab w) (hc: ∀c∈cs,WfC c):
    Calls Tryz.prog 42 #[.pointer (some ⟨b,0,none⟩),v,.int .i64 20,.func (.func 43) #[] #[.pointer (some ⟨g,0,none⟩)]] w fun e w'=>e= .returned (.tuple #[])∧Wt W0.heap.size b (Wr.run s (Wr.lst 20 Wr.chI cs)) w'∧FrW W0.heap.size b w w':=by
 obtain⟨a,cap,rfl,hcap,hcap2,hLL⟩:=hL
 have hC:=wcount_any W0.heap.size b s cs.length 20 w h ⟨by omega,by omega⟩ (by omega) h3 ht;by_cases hn:(cs.length:Int)≤20
 · rw[if_pos hn,decide_eq_true hn]at hC
   have l1:=Wr.num_len (s:=s) (n:=cs.length) ⟨by omega,by omega⟩
   have HL:=hid (show∀k,(Wr.run (Wr.num s cs.length) ((cs.take k).flatMap Wr.chI)).l.length+6000≤1000000000 from fun k=>by
    have:=Wr.fm_len Wr.chI 5 (Wr.num s cs.length) cs k (fun x hx=>(hc x hx).it)
    omega)
   have HE:=hid (show Wr.run (Wr.num s cs.length) ((cs.take cs.length).flatMap Wr.chI)=Wr.run s (Wr.lst 20 Wr.chI cs)from by rw[List.take_length,Wr.lst,if_pos (by omega)];rfl);have HC:=hid hC;have HD:=hid hc;have HM:=hid hLL;have HG:=hid hg;have HT:=hid ht;have HW:=hid hW;have eg:=wch1_enters;clear hC hc hLL hg ht hW;go_enter Tryz.func42,Tryz.ntmps42
   go_wp2_with fail;refine HC.out.mono ?_
   rintro e w1 ⟨rfl,h1,hf1⟩;have HW1:=hid (show Wt W0.heap.size b (Wr.run (Wr.num s cs.length) ((cs.take 0).flatMap Wr.chI)) w1 from h1);have hB1:W0.heap.size≤w1.heap.size:=Nat.le_of_lt (Nat.lt_of_le_of_lt h1.B h1.lt);clear h1;go_wp2_with fail;go_loopw [18] (fun i wr=> ∃k:Nat,k≤cs.length∧i= .int .i64 k∧Hid (Wt W0.heap.size b (Wr.run (Wr.num s cs.length) ((cs.take k).flatMap Wr.chI)) wr)∧FrW W0.heap.size b w wr) (fun i _=>cs.length-(intOf i).toNat)
   case atStart=>exact⟨0,Nat.zero_le _,rfl,HW1,hf1⟩
   case round=>
    obtain⟨k,hk,rfl,HV,hf⟩:=hrel
    by_cases hlt:k<cs.length
    · obtain⟨bb,o,rfl,hbb,he⟩:=HM.out k hlt
      obtain⟨c0,c1,c2,c3,c4⟩:=he.below hbb (HW.out.trans hf.1)
      have hlr:=HV.out.lt;have hBr:W0.heap.size≤wr.heap.size:=Nat.le_of_lt (Nat.lt_of_le_of_lt HV.out.B hlr);obtain⟨wz,hwz⟩: ∃wz,wz=wr.alloc (.cells #[.int .i64 cs[k].k,.string cs[k].p,.string cs[k].q,.string cs[k].t,.int .i64 cs[k].b] 54):=⟨_,rfl⟩
      have hbz:Below wr.heap.size wr wz:=by rw[hwz];exact below_alloc _ _
      have hfz:FrW W0.heap.size b wr wz:=fr_below hbz hBr;have HK:=hid (wch1_any cs[k] W0.heap.size b g _ wz (HV.out.below hbz) (HG.out.fr (hf.trans hfz)) (HL.out k) h3 (HT.out.fr h3 (hf.trans hfz)) (HD.out _ (List.getElem_mem hlt)));rw[hwz]at HK;have HWZ:=hid hwz;clear hwz he;go_wp2_with fail;refine HK.out.mono ?_
      rintro e w2 ⟨rfl,h2,hf2⟩;rw[←HWZ.out]at hf2;rw[←Wr.fm_next _ _ _ _ hlt]at h2;have H2:=hid h2;clear h2 HK c0 c1 c2 c3 c4;go_wp2_with fail;go_roundw
      case rel=>exact⟨k+1,by omega,by simp,H2,hf.trans (hfz.trans hf2)⟩
      case measure=>simp[intOf];omega
    · obtain rfl:k=cs.length:=by omega
      go_wp2_with fail;go_end0
      exact⟨rfl,by rw[←HE.out];exact HV.out,hf⟩
 · rw[if_neg hn,decide_eq_false hn]at hC
   go_enter Tryz.func42,Tryz.ntmps42
   go_wp2_with fail;refine hC.mono ?_
   rintro e w1 ⟨rfl,h1,hf1⟩;go_wp2_with fail;refine bodyPost_ret (results_none rfl _ _ _) rfl ?_
   exact⟨rfl,by rw[Wr.lst,if_neg (by omega)];exact h1,hf1⟩
set_option maxHeartbeats 1000000 in
theorem wchanges_any (W0:World) (cs:List Pp.Ch) (v:Value) (b:Nat) (s:Ws) (w:World) (hL:LiesC W0 v cs) (hW:Below W0.heap.size W0 w) (h:Wt W0.heap.size b s w) (hlen:s.l.length+200000≤1000000000) (h3:3<W0.heap.size) (ht:PowTab w) (hc: ∀c∈cs,WfC c):
    Calls Tryz.prog 18 #[.pointer (some ⟨b,0,none⟩),v] w fun e w'=>e= .returned (.tuple #[])∧Wt W0.heap.size b (Wr.run s (Wr.lst 20 Wr.chI cs)) w'∧FrW W0.heap.size b w w':=by
 have hmf: ∀(fn:Fn) (first cap:Array Value) (w:World),(Instr.makeFunc fn first cap).run Tryz.prog w= .ok (.func fn first cap) w:=fun _ _ _ _=>rfl
 have hlt:=h.lt;have hB:W0.heap.size≤w.heap.size:=Nat.le_of_lt (Nat.lt_of_le_of_lt h.B hlt);obtain⟨wz,hwz⟩: ∃wz,wz=w.alloc (.cells #[.pointer (some ⟨b,0,none⟩)] 59):=⟨_,rfl⟩
 have hbz:Below w.heap.size w wz:=by rw[hwz];exact below_alloc _ _
 have hfz:FrW W0.heap.size b w wz:=fr_below hbz hB;have hgz:WBox wz b w.heap.size:=⟨by rw[hwz];exact heap_alloc_new w _,by omega⟩
 have HK:=hid (wlc_any W0 cs v b w.heap.size s wz hL (hW.trans hfz.1) (h.below hbz) hgz hlen h3 (ht.fr h3 hfz) hc);rw[hwz]at HK;have HWZ:=hid hwz;clear hwz hgz hL ht h;go_enter Tryz.func18,Tryz.ntmps18
 go_wp2_with fail;refine HK.out.mono ?_
 rintro e w2 ⟨rfl,h2,hf2⟩;rw[←HWZ.out]at hf2;go_wp2_with fail;go_end0
 exact⟨rfl,h2,hfz.trans hf2⟩
theorem Ws.fin_many {s:Ws} (h:s.mn=true):Wr.fin s=(⟨#[]⟩,2):=by rw[Wr.fin,if_pos h]
theorem Ws.fin_far {s:Ws} (h:s.mn=false) (h1:s.fr=true):Wr.fin s=(⟨#[]⟩,3):=by rw[Wr.fin,if_neg (by simp[h]),if_pos h1]
theorem Ws.fin_ok {s:Ws} (h:s.mn=false) (h1:s.fr=false):Wr.fin s=(⟨s.l.toArray⟩,0):=by rw[Wr.fin,if_neg (by simp[h]),if_neg (by simp[h1])]
set_option maxHeartbeats 1000000 in
theorem written_any (B b:Nat) (s:Ws) (w:World) (h:Wt B b s w) (hs:s.l≠[]):
    Calls Tryz.prog 19 #[.pointer (some ⟨b,0,none⟩)] w fun e w'=>e= .returned (.tuple #[.string (Wr.fin s).1,.int .i64 (Wr.fin s).2])∧Below B w w':=by
 obtain⟨p,_,v,hbk,_,_⟩:=h.at
 have c2:w.cell? ⟨b,2,none⟩=some (.bool s.mn):=by rw[Lib.cell_of_heap hbk];rfl
 have c3:w.cell? ⟨b,3,none⟩=some (.bool s.fr):=by rw[Lib.cell_of_heap hbk];rfl
 have HS:=hid (string_any B b s w h hs);clear hbk;cases hm:s.mn with
 |true=>
  rw[hm]at c2;rw[Ws.fin_many hm];go_enter Tryz.func19,Tryz.ntmps19
  go_wp2_with fail;go_ret2;exact⟨rfl,Below.refl _ _⟩
 |false=>
  rw[hm]at c2;cases hf:s.fr with
  |true=>
   rw[hf]at c3;rw[Ws.fin_far hm hf];go_enter Tryz.func19,Tryz.ntmps19
   go_wp2_with fail;go_ret2;exact⟨rfl,Below.refl _ _⟩
  |false=>
   rw[hf]at c3;rw[Ws.fin_ok hm hf];go_enter Tryz.func19,Tryz.ntmps19
   go_wp2_with fail;refine HS.out.mono ?_
   rintro e w1 ⟨rfl,hb1⟩;go_wp2_with fail;go_ret2;exact⟨rfl,hb1⟩
end Go.Proofs.YtppdfeehhnofaaaGreatDoor
