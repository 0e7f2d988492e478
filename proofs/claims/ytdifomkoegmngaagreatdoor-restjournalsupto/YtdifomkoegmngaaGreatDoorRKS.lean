/- The program's reader: numbers, counts, texts; it gives up by a panic. -/
import Derived.Test.YtdifomkoegmngaaGreatDoorRKR
import Derived.Test.YtdifomkoegmngaaGreatDoorShelfA
import Derived.Recover
import Derived.Lib.SlicesS
import Derived.WalkLawsBesides
import Derived.Deep.QuietTactic
import Derived.BigQuiet
import Derived.RegionTactic
import Derived.Deep.RegionHeld3
import Derived.Deep.Cut
import Derived.Deep.DeepCutAuto
set_option linter.unusedSimpArgs false
set_option linter.unusedVariables false
namespace Go.Proofs.YtdifomkoegmngaaGreatDoor
open Go.RowKit

/-- What the program reads of the library's variables. -/
structure VarsW (W:World):Prop where
 pow:PowTab W
 syn : ∃ tp p, W.var? Tryz.prog "strconv.ErrSyntax" = some #[.iface tp p]
 rng : ∃ tp p, W.var? Tryz.prog "strconv.ErrRange" = some #[.iface tp p]
theorem Tryz.synAt : Tryz.prog.globalNamed "strconv.ErrSyntax" = some 1 := by kernel_rfl
theorem Tryz.rngAt : Tryz.prog.globalNamed "strconv.ErrRange" = some 2 := by kernel_rfl
theorem VarsW.block {W W':World} (h:VarsW W) (hb: ∀k,k<6→W'.heap[k]?=W.heap[k]?):VarsW W':=by
 obtain⟨h1,h2,h3⟩:=h
 refine⟨?_,?_,?_⟩
 · unfold PowTab Lib.TabIs World.var? at h1⊢
   rw[Tryz.powAt]at h1⊢;simp only[Option.bind_some]at h1⊢;rw[hb 3 (by omega)];exact h1
 · unfold World.var? at h2⊢
   rw[Tryz.synAt]at h2⊢;simp only[Option.bind_some]at h2⊢;rw[hb 1 (by omega)];exact h2
 · unfold World.var? at h3⊢
   rw[Tryz.rngAt]at h3⊢;simp only[Option.bind_some]at h3⊢;rw[hb 2 (by omega)];exact h3
theorem VarsW.belowB {B:Nat} {W W':World} (h:VarsW W) (h3:5<B) (hb:Below B W W'):VarsW W':=h.block (fun k hk=>hb.block k (by omega))
theorem VarsW.nb {b:Nat} {W W':World} (h:VarsW W) (hb:5<b) (h6:5<W.heap.size) (hw:W.grownBy W' (some b)):VarsW W':=h.block (fun k hk=>hw.block k (by omega) (fun e=>by injection e;omega))
/-- A reader in a block of its own: what is not read yet. -/
def Rd (b:Nat) (l:List UInt8) (w:World):Prop:=w.heap[b]?=some (.cells #[.string ⟨l.toArray⟩] 108 (0,0))
theorem Rd.cell {b:Nat} {l:List UInt8} {w:World} (h:Rd b l w):w.cell? ⟨b,0,none⟩=some (.string ⟨l.toArray⟩):=by rw[Lib.cell_of_heap h];rfl
theorem Rd.fr {b:Nat} {l:List UInt8} {w:World} (h:Rd b l w):w.frozen? ⟨b,0,none⟩=false:=Lib.frozen_of_heap h 0
theorem Rd.lt {b:Nat} {l:List UInt8} {w:World} (h:Rd b l w):b<w.heap.size:=heap_lt h
theorem Rd.below {b:Nat} {l:List UInt8} {w w':World} (h:Rd b l w) (hb:Below w.heap.size w w'):Rd b l w':=(hb.block b h.lt).trans h
theorem Rd.set {b:Nat} {l r:List UInt8} {w:World} (h:Rd b l w):Rd b r (w.setCell ⟨b,0,none⟩ (.string ⟨r.toArray⟩)):=by
 unfold Rd at h⊢;simp[World.setCell,Array.getElem?_modify,h]
/-- It gave up. -/
abbrev GaveUp (e:Ending):Prop:=e= .panicked [{v:= .iface 28 (.int .i64 1),recovered:=false}]
theorem nb_below {w w':World} (b:Nat) (h:Below w.heap.size w w'):w.grownBy w' (some b):=⟨h.os,h.tape,h.output,h.size,fun k hk _=>h.block k hk⟩
theorem nb_tr {a c d:World} {b:Nat} (h:a.grownBy c (some b)) (k:c.grownBy d (some b)):a.grownBy d (some b):=
 ⟨k.os.trans h.os,k.tape.trans h.tape,k.output.trans h.output,Nat.le_trans h.size k.size,fun q hq hne=>(k.block q (Nat.lt_of_lt_of_le hq h.size) hne).trans (h.block q hq hne)⟩
theorem bodyPost_panic {P:Program} {fn:Func} {R:Ending→World→Prop} {a:Act} {w:World} {c:List PanicEntry} (hd:a.defers=[]) (hR:R (.panicked c) w):bodyPost P fn R (.panic c) a w:=⟨hd,hR⟩
theorem gu_any (w:World):Calls Tryz.prog 61 #[] w fun e w'=>GaveUp e∧w'=w:=by
 go_enter Tryz.func61,Tryz.ntmps61
 go_wp2;exact bodyPost_panic rfl ⟨rfl,rfl⟩
set_option maxHeartbeats 400000 in
theorem scut59_miss (s:ByteArray) (w:World) (hs:s.size≤maxLen) (h:59∉s.data.toList):
    Calls Tryz.prog 89 #[.string s,.string ⟨#[59]⟩] w fun e w'=>e= .returned (.tuple #[.string s,.string ⟨#[]⟩,.bool false])∧Below w.heap.size w w':=by
 unfold maxLen at hs;have HI:Hid (Lib.indexByte s.data.toList 59= -1):=Pp.idx_none _ _ h;clear h;go_enter Tryz.func89,Tryz.ntmps89
 go_wp2_with (go_at_call 110;refine(Tryz.stringslite_Index_one _ _ _).mono ?_;rintro e w' ⟨rfl,rfl⟩;rw[HI.out])
 go_ret3;exact⟨rfl,Below.refl _ _⟩
set_option maxHeartbeats 400000 in
theorem scut59_hit (s:ByteArray) (a b:List UInt8) (w:World) (hs:s.size≤maxLen) (h:59∉a) (hab:s.data.toList=a++59::b):
    Calls Tryz.prog 89 #[.string s,.string ⟨#[59]⟩] w fun e w'=>e= .returned (.tuple #[.string ⟨a.toArray⟩,.string ⟨b.toArray⟩,.bool true])∧Below w.heap.size w w':=by
 unfold maxLen at hs;have HI:=hid (show Lib.indexByte s.data.toList 59=a.length from by rw[hab];exact Pp.idx_of a b 59 h);have hz:s.size=a.length+b.length+1:=by rw[Lib.size_eq,hab];simp;try omega
 have l1:(a.length:Int)≤s.size:=by omega
 have l2:(a.length:Int)+1≤s.size:=by omega
 have HA:=hid (show s.extract 0 a.length=⟨a.toArray⟩from Pp.bytes_eq (by rw[Lib.extract_data,hab];simp));have HB:=hid (show s.extract (a.length+1) s.size=⟨b.toArray⟩from Pp.bytes_eq (by rw[Lib.extract_data,hab,hz];simp));clear h hab hz;go_enter Tryz.func89,Tryz.ntmps89
 go_wp2_with (go_at_call 110;refine(Tryz.stringslite_Index_one _ _ _).mono ?_;rintro e w' ⟨rfl,rfl⟩;rw[HI.out])
 go_region
 go_wp2;go_ret3;exact⟨by rw[HA.out,HB.out];rfl,(Below.refl _ _).drew⟩
namespace Wr
theorem upto_len: ∀l:List UInt8,(upto l).length≤l.length
 |[]=>by simp[upto]
 |x::l=>by
  have ih:=upto_len l;unfold upto at ih⊢;rw[List.takeWhile_cons];split
  · simp only[List.length_cons];omega
  · simp
theorem upto_not: ∀l:List UInt8,(59:UInt8)∉upto l
 |[]=>by simp[upto]
 |x::l=>by
  have ih:=upto_not l;unfold upto at ih⊢;rw[List.takeWhile_cons];split
  · rename_i h
    intro hx;rw[List.mem_cons]at hx;rcases hx with rfl|hx
    · simp at h
    · exact ih hx
  · simp
theorem upto_self: ∀l:List UInt8,(59:UInt8)∉l→upto l=l∧behind l=[]
 |[],_=>by simp[upto,behind]
 |x::l,h=>by
  rw[List.mem_cons,not_or]at h;obtain⟨h1,h2⟩:=upto_self l h.2
  unfold upto at h1⊢;unfold behind at h2⊢;have hx:(!(x==59))=true:=by simp;exact fun e=>h.1 e.symm
  rw[List.takeWhile_cons,List.dropWhile_cons,if_pos hx,if_pos hx,h1];exact⟨rfl,h2⟩
end Wr
/-- What strings.Cut answers of a text at a semicolon. -/
theorem cut59_any (l:List UInt8) (w:World) (hs:l.length≤140737488351232):
    Calls Tryz.prog 62 #[.string ⟨l.toArray⟩,.string ⟨#[59]⟩] w fun e w'=>e= .returned (.tuple #[.string ⟨(Wr.upto l).toArray⟩,.string ⟨(Wr.behind l).toArray⟩,.bool (decide ((59:UInt8)∈l))])∧Below w.heap.size w w':=by
 have hz:(⟨l.toArray⟩:ByteArray).size≤maxLen:=by rw[Lib.size_eq];unfold maxLen;simp;omega
 by_cases h:(59:UInt8)∈l
 · have hK:=scut59_hit ⟨l.toArray⟩ (Wr.upto l) (Wr.behind l) w hz (Wr.upto_not l) (by simpa using Wr.upto_behind h)
   rw[decide_eq_true h];go_enter Tryz.func62,Tryz.ntmps62
   go_wp2_with fail;refine hK.mono ?_
   rintro e w' ⟨rfl,hb⟩;clear hK;go_wp2;go_ret3;exact⟨rfl,hb⟩
 · have hK:=scut59_miss ⟨l.toArray⟩ w hz (by simpa using h)
   obtain⟨e1,e2⟩:=Wr.upto_self l h
   rw[decide_eq_false h,e1,e2];go_enter Tryz.func62,Tryz.ntmps62
   go_wp2_with fail;refine hK.mono ?_
   rintro e w' ⟨rfl,hb⟩;clear hK;go_wp2;go_ret3;exact⟨rfl,hb⟩
theorem atoi_yes (l:List UInt8) (n:Int) (w:World) (hs:l.length≤140737488351232) (h:Lib.atoiAll l= .ok n):
    Calls Tryz.prog 63 #[.string ⟨l.toArray⟩] w fun e w'=>e= .returned (.tuple #[.int .i64 n,.nilIface])∧Below w.heap.size w w':=by
 refine(Tryz.strconv_Atoi_ok ⟨l.toArray⟩ (by rw[Lib.size_eq];simp;omega) n (by simpa using h) w).mono ?_
 rintro e w' ⟨rfl,rfl|⟨t,rfl⟩⟩
 · exact⟨rfl,Below.refl _ _⟩
 · exact⟨rfl,Lib.bytesWorld_below _ _ _⟩
theorem atoi_no (l:List UInt8) (w:World) (hs:l.length≤140737488351232) (hv:VarsW w) (h: ∀n,Lib.atoiAll l≠ .ok n):
    Calls Tryz.prog 63 #[.string ⟨l.toArray⟩] w fun e w'=> ∃m N t,e= .returned (.tuple #[.int .i64 m,.iface t (.pointer (some ⟨N,0,none⟩))])∧Below w.heap.size w w':=by
 cases hl:Lib.atoiAll l with
 |ok n=>exact absurd hl (h n)
 |«syntax»=>
  obtain⟨tp,p,hp⟩:=hv.syn
  refine(Tryz.strconv_Atoi_syntax_var ⟨l.toArray⟩ (by rw[Lib.size_eq];simp;omega) (by simpa using hl) tp p w hp).mono ?_
  rintro e w' ⟨N,rfl,_,_,hb⟩;exact⟨_,_,_,rfl,hb⟩
 |range=>
  obtain⟨tp,p,hp⟩:=hv.rng
  refine(Tryz.strconv_Atoi_range_var ⟨l.toArray⟩ (by rw[Lib.size_eq];simp;omega) (by simpa using hl) tp p w hp).mono ?_
  rintro e w' ⟨N,rfl,_,_,hb⟩;exact⟨_,_,_,rfl,hb⟩
set_option maxHeartbeats 1000000 in
theorem rnum_no1 (b:Nat) (l:List UInt8) (w:World) (h:Rd b l w) (hs:l.length≤140737488351232) (h6:5<b) (hv:VarsW w) (hA: ∀n,Lib.atoiAll (Wr.upto l)≠ .ok n) (h9:(59:UInt8)∉l):
    Calls Tryz.prog 34 #[.pointer (some ⟨b,0,none⟩)] w fun e w'=>GaveUp e∧w.grownBy w' (some b):=by
 have c0:=h.cell;have f0:=h.fr;have hlt:=h.lt;have HC:=hid (cut59_any l w hs);have hul:(Wr.upto l).length≤l.length:=Wr.upto_len l;rw[decide_eq_false h9]at HC;have HA:=hid hA;clear hA;have HH:=hid h;have HV:=hid hv;clear h hv;go_enter Tryz.func34,Tryz.ntmps34
 go_wp2_with fail;refine HC.out.mono ?_
 rintro e w1 ⟨rfl,hb1⟩;go_wp2_with fail;refine(atoi_no (Wr.upto l) w1 (by omega) (HV.out.belowB (by omega) hb1) HA.out).mono ?_
 rintro e w2 ⟨m,N,t,rfl,hb2⟩;have hb12:=hb1.trans (hb2.mono hb1.size);go_wp2_with fail;refine(gu_any _).mono ?_
 rintro e w3 ⟨rfl,rfl⟩;exact bodyPost_panic rfl ⟨rfl,nb_below b hb12⟩
set_option maxHeartbeats 1000000 in
theorem rnum_no2 (b:Nat) (l:List UInt8) (n:Int) (w:World) (h:Rd b l w) (hs:l.length≤140737488351232) (h6:5<b) (hv:VarsW w) (hA:Lib.atoiAll (Wr.upto l)= .ok n) (h9:(59:UInt8)∉l):
    Calls Tryz.prog 34 #[.pointer (some ⟨b,0,none⟩)] w fun e w'=>GaveUp e∧w.grownBy w' (some b):=by
 have c0:=h.cell;have f0:=h.fr;have hlt:=h.lt;have HC:=hid (cut59_any l w hs);have hul:(Wr.upto l).length≤l.length:=Wr.upto_len l;rw[decide_eq_false h9]at HC;have HA:=hid hA;clear hA;have HH:=hid h;have HV:=hid hv;clear h hv;go_enter Tryz.func34,Tryz.ntmps34
 go_wp2_with fail;refine HC.out.mono ?_
 rintro e w1 ⟨rfl,hb1⟩;go_wp2_with fail;refine(atoi_yes (Wr.upto l) n w1 (by omega) HA.out).mono ?_
 rintro e w2 ⟨rfl,hb2⟩;have hb12:=hb1.trans (hb2.mono hb1.size);go_wp2_with fail;refine(gu_any _).mono ?_
 rintro e w3 ⟨rfl,rfl⟩;exact bodyPost_panic rfl ⟨rfl,nb_below b hb12⟩
set_option maxHeartbeats 1000000 in
theorem rnum_no3 (b:Nat) (l:List UInt8) (w:World) (h:Rd b l w) (hs:l.length≤140737488351232) (h6:5<b) (hv:VarsW w) (hA: ∀n,Lib.atoiAll (Wr.upto l)≠ .ok n) (h9:(59:UInt8)∈l):
    Calls Tryz.prog 34 #[.pointer (some ⟨b,0,none⟩)] w fun e w'=>GaveUp e∧w.grownBy w' (some b):=by
 have c0:=h.cell;have f0:=h.fr;have hlt:=h.lt;have HC:=hid (cut59_any l w hs);have hul:(Wr.upto l).length≤l.length:=Wr.upto_len l;rw[decide_eq_true h9]at HC;have HA:=hid hA;clear hA;have HH:=hid h;have HV:=hid hv;clear h hv;go_enter Tryz.func34,Tryz.ntmps34
 go_wp2_with fail;refine HC.out.mono ?_
 rintro e w1 ⟨rfl,hb1⟩;go_wp2_with fail;refine(atoi_no (Wr.upto l) w1 (by omega) (HV.out.belowB (by omega) hb1) HA.out).mono ?_
 rintro e w2 ⟨m,N,t,rfl,hb2⟩;have hb12:=hb1.trans (hb2.mono hb1.size);go_wp2_with fail;refine(gu_any _).mono ?_
 rintro e w3 ⟨rfl,rfl⟩;exact bodyPost_panic rfl ⟨rfl,nb_below b hb12⟩
set_option maxHeartbeats 1000000 in
theorem rnum_no4 (b:Nat) (l:List UInt8) (n:Int) (w:World) (h:Rd b l w) (hs:l.length≤140737488351232) (h6:5<b) (hv:VarsW w) (hA:Lib.atoiAll (Wr.upto l)= .ok n) (h9:(59:UInt8)∈l) (hN:I64 n) (hne:Lib.itoa n≠Wr.upto l):
    Calls Tryz.prog 34 #[.pointer (some ⟨b,0,none⟩)] w fun e w'=>GaveUp e∧w.grownBy w' (some b):=by
 have c0:=h.cell;have f0:=h.fr;have hlt:=h.lt;have HC:=hid (cut59_any l w hs);have hul:(Wr.upto l).length≤l.length:=Wr.upto_len l;rw[decide_eq_true h9]at HC;have HA:=hid hA;have HN:=hid hN
 have hnn:(⟨(Lib.itoa n).toArray⟩:ByteArray)≠⟨(Wr.upto l).toArray⟩:=by
  intro e;apply hne
  have:=congrArg (fun x=>x.data.toList) e
  simpa using this
 have hnb:=(Lib.bytes_beq_false_iff _ _).2 hnn;have hnc:=(Lib.bytes_beq_false_iff _ _).2 hnn.symm;clear hA hN;have HH:=hid h;have HV:=hid hv;clear h hv;go_enter Tryz.func34,Tryz.ntmps34
 go_wp2_with fail;refine HC.out.mono ?_
 rintro e w1 ⟨rfl,hb1⟩;go_wp2_with fail;refine(atoi_yes (Wr.upto l) n w1 (by omega) HA.out).mono ?_
 rintro e w2 ⟨rfl,hb2⟩;have hb12:=hb1.trans (hb2.mono hb1.size);have HT:=hid (itoaX (HN.out) w2 (HV.out.belowB (by omega) hb12).pow);go_wp2_with fail;refine HT.out.mono ?_
 rintro e w3 ⟨rfl,hb3⟩;have hb13:=hb12.trans (hb3.mono hb12.size);go_wp2_with fail;refine(gu_any _).mono ?_
 rintro e w3 ⟨rfl,rfl⟩;exact bodyPost_panic rfl ⟨rfl,nb_below b hb13⟩
set_option maxHeartbeats 1000000 in
theorem rnum_no5 (b:Nat) (l:List UInt8) (n:Int) (w:World) (h:Rd b l w) (hs:l.length≤140737488351232) (h6:5<b) (hv:VarsW w) (hA:Lib.atoiAll (Wr.upto l)= .ok n) (h9:(59:UInt8)∈l) (hN:I64 n) (heq:Lib.itoa n=Wr.upto l) (hq:Wr.near n=false):
    Calls Tryz.prog 34 #[.pointer (some ⟨b,0,none⟩)] w fun e w'=>GaveUp e∧w.grownBy w' (some b):=by
 have c0:=h.cell;have f0:=h.fr;have hlt:=h.lt;have HC:=hid (cut59_any l w hs);have hul:(Wr.upto l).length≤l.length:=Wr.upto_len l;rw[decide_eq_true h9]at HC;have HA:=hid hA;have HN:=hid hN;have HE:=hid heq;clear hA hN heq;have HH:=hid h;have HV:=hid hv;clear h hv;go_enter Tryz.func34,Tryz.ntmps34
 go_wp2_with fail;refine HC.out.mono ?_
 rintro e w1 ⟨rfl,hb1⟩;go_wp2_with fail;refine(atoi_yes (Wr.upto l) n w1 (by omega) HA.out).mono ?_
 rintro e w2 ⟨rfl,hb2⟩;have hb12:=hb1.trans (hb2.mono hb1.size);have HT:=hid (itoaX (HN.out) w2 (HV.out.belowB (by omega) hb12).pow);go_wp2_with fail;refine HT.out.mono ?_
 rintro e w3 ⟨rfl,hb3⟩;have hb13:=hb12.trans (hb3.mono hb12.size);rw[HE.out];have HR:=hid (isNear_any n w3);rw[hq]at HR;go_wp2_with fail;refine HR.out.mono ?_
 rintro e w4 ⟨rfl,rfl⟩;go_wp2_with fail;refine(gu_any _).mono ?_
 rintro e w3 ⟨rfl,rfl⟩;exact bodyPost_panic rfl ⟨rfl,nb_below b hb13⟩
set_option maxHeartbeats 1000000 in
theorem rnum_ok1 (b:Nat) (l:List UInt8) (n:Int) (w:World) (h:Rd b l w) (hs:l.length≤140737488351232) (h6:5<b) (hv:VarsW w) (hA:Lib.atoiAll (Wr.upto l)= .ok n) (h9:(59:UInt8)∈l) (hN:I64 n) (heq:Lib.itoa n=Wr.upto l) (hq:Wr.near n=true):
    Calls Tryz.prog 34 #[.pointer (some ⟨b,0,none⟩)] w fun e w'=>e= .returned (.int .i64 n)∧Rd b (Wr.behind l) w'∧w.grownBy w' (some b):=by
 have c0:=h.cell;have f0:=h.fr;have hlt:=h.lt;have HC:=hid (cut59_any l w hs);have hul:(Wr.upto l).length≤l.length:=Wr.upto_len l;rw[decide_eq_true h9]at HC;have HA:=hid hA;have HN:=hid hN;have HE:=hid heq;clear hA hN heq;have HH:=hid h;have HV:=hid hv;clear h hv;go_enter Tryz.func34,Tryz.ntmps34
 go_wp2_with fail;refine HC.out.mono ?_
 rintro e w1 ⟨rfl,hb1⟩;go_wp2_with fail;refine(atoi_yes (Wr.upto l) n w1 (by omega) HA.out).mono ?_
 rintro e w2 ⟨rfl,hb2⟩;have hb12:=hb1.trans (hb2.mono hb1.size);have HT:=hid (itoaX (HN.out) w2 (HV.out.belowB (by omega) hb12).pow);go_wp2_with fail;refine HT.out.mono ?_
 rintro e w3 ⟨rfl,hb3⟩;have hb13:=hb12.trans (hb3.mono hb12.size);rw[HE.out];have HR:=hid (isNear_any n w3);rw[hq]at HR;go_wp2_with fail;refine HR.out.mono ?_
 rintro e w4 ⟨rfl,rfl⟩;have hr4:=HH.out.below hb13;have f4:=hr4.fr;have c4:=hr4.cell;go_wp2_with fail;go_ret;exact⟨rfl,hr4.set,nb_tr (nb_below b hb13) (nb_set _ b 0 _)⟩
end Go.Proofs.YtdifomkoegmngaaGreatDoor
namespace Go.Proofs.YtdifomkoegmngaaGreatDoor
open Go.RowKit

/-- The document's scanner in a block of its own. -/
def Sc (b:Nat) (s:ByteArray) (i:Nat) (bad:Bool) (w:World):Prop:=w.heap[b]?=some (.cells #[.string s,.int .i64 i,.bool bad] 81 (0,0))
theorem Sc.cs {b:Nat} {s:ByteArray} {i:Nat} {bad:Bool} {w:World} (h:Sc b s i bad w):Cs w b [.string s,.int .i64 i,.bool bad]:=⟨_,h⟩
theorem Sc.lt {b:Nat} {s:ByteArray} {i:Nat} {bad:Bool} {w:World} (h:Sc b s i bad w):b<w.heap.size:=heap_lt h
theorem Sc.drewN {b:Nat} {s:ByteArray} {i k:Nat} {bad:Bool} {w:World} (h:Sc b s i bad w):Sc b s i bad (w.drewN k):=h
theorem Sc.set {b:Nat} {s:ByteArray} {i:Nat} {bad:Bool} {w:World} (h:Sc b s i bad w) (j:Nat):Sc b s j bad (w.setCell ⟨b,1,none⟩ (.int .i64 j)):=by
 unfold Sc at h⊢;unfold World.setCell;simp only[Array.getElem?_modify,h,if_true,Option.map_some];simp
theorem Sc.bad {b:Nat} {s:ByteArray} {i:Nat} {bad:Bool} {w:World} (h:Sc b s i bad w):Sc b s i true (w.setCell ⟨b,2,none⟩ (.bool true)):=by
 unfold Sc at h⊢;unfold World.setCell;simp only[Array.getElem?_modify,h,if_true,Option.map_some];simp
theorem Sc.below {b:Nat} {s:ByteArray} {i:Nat} {bad:Bool} {w w':World} (h:Sc b s i bad w) (hb:Below w.heap.size w w'):Sc b s i bad w':=(hb.block b h.lt).trans h
theorem nb_drewN (w:World) (b k:Nat):w.grownBy (w.drewN k) (some b):=⟨rfl,rfl,rfl,Nat.le_refl _,fun _ _ _=>rfl⟩
theorem Wr.drop_at {L:List UInt8} {k:Nat} (h:k<L.length):L.drop k=L[k]::L.drop (k+1):=List.drop_eq_getElem_cons h
theorem Wr.sgn_cons {c:UInt8} {l:List UInt8}:Wr.sgn (c::l)=((c.toNat:Int)==45):=by
 by_cases h:c=45
 · subst h;rfl
 · have h1:((c.toNat:Int)==45)=false:=by
    rw[beq_eq_false_iff_ne];intro e;exact h (UInt8.toNat_inj.1 (by rw[show(45:UInt8).toNat=45 from rfl];omega))
   rw[h1];unfold Wr.sgn;split
   · rename_i heq;injection heq with e _;exact absurd e h
   · rfl
def atOf (b:Nat) (W:World):Nat:=match W.cell? ⟨b,1,none⟩with
 |some (.int _ n)=>n.toNat
 |_=>0
theorem Sc.at {b:Nat} {s:ByteArray} {i:Nat} {bad:Bool} {w:World} (h:Sc b s i bad w):atOf b w=i:=by
 unfold atOf;rw[h.cs.cell 1 rfl];simp
/-- What the document's scanner answers of a number. -/
def SnPost (b i:Nat) (s:ByteArray) (bad:Bool) (w:World) (res:Option (Int×List UInt8)) (e:Ending) (w':World):Prop:=
 ∃n j bad',e= .returned (.int .i64 n)∧Sc b s j bad' w'∧j≤s.size∧w.grownBy w' (some b)∧
  ((bad=true∨res=none)→bad'=true∧n=0)∧(bad=false→ ∀m r,res=some (m,r)→bad'=false∧n=m∧s.data.toList.drop j=r)
theorem ba_lt {s:ByteArray} {k:Nat} (h:k<s.size):k<s.data.toList.length:=by rw[←Lib.size_eq];exact h
theorem ba_get {s:ByteArray} {k:Nat} (h:k<s.size):s[k]=s.data.toList[k]'(ba_lt h):=by simp[ByteArray.getElem_eq_getElem_data]
def seqR:Code→Code
 | .seq _ y=>y
 |c=>c
def bodyOf:Option Code→Code
 |some c=>c
 |none=> .skip
set_option maxHeartbeats 4000000 in
set_option maxRecDepth 8000 in
/-- Behind the digits. -/
theorem sctail_any {b i k:Nat} {s:ByteArray} {bad neg:Bool} {m:Int} {w wc:World} {RES:Option (Int×List UInt8)} {u6 u7 u8 u9 u10 u11 u12 u13 u14 u15 u16 u17 u18 u19 u20 u21 u22 u23 u24 u25 u26 u27 u28 u29 u30 u31 u32 u33 u34 u35 u36 u37 u38 u39 u40 u41 u42 u43 u44 u45 u46 u47 u48 u49 u50 u51 u52 u53 u54 u55 u56 u57 u58 u59 u60 u61 u62 u63 u64 u65 u66 u67 u68 u69 u70 u71 u72 u73 u74 u75 u76 u77 u78 u79 u80 u81 u82 u83 u84 u85 u86 u87 u88 u89 u90 u91 u92 u93 u94 u95 u96 u97 u98 u99 u100 u101 u102 u103 u104 u105 u106 u107 u108 u109 u110 u111 u112 u113 u114 u115 u116 u117 u118 u119 u120 u121 u122 u123 u124 u125 u126 u127 u128 u129 u130 u131 u132 u133 u134 u135 u136 u137 u138 u139 u140 u141 u142 u143 u144 u145 u146 u147 u148 u149 u150 u151 u152 u153 u154 u155:Value} (HP:Hid (Sc b s k bad wc)) (HGP:Hid (w.grownBy wc (some b))) (hk:k≤s.size) (hik:i≤k) (HS:Hid (s.size≤140737488351232)) (mb:m.natAbs≤20000000000000000)
    (HR:Hid (RES=if(s.data.toList.drop k).head?=some 59∧(s.data.toList.drop i).take (k-i)=Lib.itoa m then some (m,(s.data.toList.drop k).drop 1)else none)):
    Code.wp Tryz.prog (seqR (seqR (seqR (seqR (seqR (seqR (seqR (bodyOf Tryz.f37.body)))))))) (bodyPost Tryz.prog Tryz.f37 fun e w'=>SnPost b i s bad w RES e w')
     ⟨#[.pointer (some ⟨b,0,none⟩),undef,.int .i64 0,.int .i64 i,.bool neg,.int .i64 m,u6,u7,u8,u9,u10,u11,u12,u13,u14,u15,u16,u17,u18,u19,u20,u21,u22,u23,u24,u25,u26,u27,u28,u29,u30,u31,u32,u33,u34,u35,u36,u37,u38,u39,u40,u41,u42,u43,u44,u45,u46,u47,u48,u49,u50,u51,u52,u53,u54,u55,u56,u57,u58,u59,u60,u61,u62,u63,u64,u65,u66,u67,u68,u69,u70,u71,u72,u73,u74,u75,u76,u77,u78,u79,u80,u81,u82,u83,u84,u85,u86,u87,u88,u89,u90,u91,u92,u93,u94,u95,u96,u97,u98,u99,u100,u101,u102,u103,u104,u105,u106,u107,u108,u109,u110,u111,u112,u113,u114,u115,u116,u117,u118,u119,u120,u121,u122,u123,u124,u125,u126,u127,u128,u129,u130,u131,u132,u133,u134,u135,u136,u137,u138,u139,u140,u141,u142,u143,u144,u145,u146,u147,u148,u149,u150,u151,u152,u153,u154,u155],[]⟩ wc:=by
 obtain⟨C,hC⟩: ∃C,C=seqR (seqR (seqR (seqR (seqR (seqR (seqR (bodyOf Tryz.f37.body))))))):=⟨_,rfl⟩
 rw[←hC];unfold Tryz.f37 at hC;simp only[seqR,bodyOf]at hC;subst hC
 obtain⟨t,htt⟩: ∃t:Bool,(t=false↔bad=false∧(s.data.toList.drop k).head?=some 59∧(s.data.toList.drop i).take (k-i)=Lib.itoa m):=by
  by_cases hp:bad=false∧(s.data.toList.drop k).head?=some 59∧(s.data.toList.drop i).take (k-i)=Lib.itoa m
  · exact⟨false,fun _=>hp,fun _=>rfl⟩
  · exact⟨true,(fun h=>by cases h),fun h=>absurd h hp⟩
 have HTF:=hid htt;clear htt;go_wp2_with fail;go_cut [144] (fun x W=>x= .bool t∧Hid (Sc b s k bad W)∧Hid (w.grownBy W (some b)))
 case first=>
  have c0:=HP.out.cs.cell 0 rfl;have c1:=HP.out.cs.cell 1 rfl;have c2:=HP.out.cs.cell 2 rfl;cases hbad:bad with
  |true=>
   have ht:t=true:=by
    cases t with
    |true=>rfl
    |false=>have:=(HTF.out.1 rfl).1;rw[hbad]at this;cases this
   rw[hbad]at c2;go_quiet (fail)
   generalize hwq:World.drewN wc _=wq;have R1:=hid (hwq▸HP.out.drewN:Sc b s k bad wq);have R2:=hid (nb_tr HGP.out (hwq▸nb_drewN wc b _:wc.grownBy wq (some b)));clear hwq;go_wp2_with fail;go_meet
   case rel=>exact⟨by rw[ht],R1,R2⟩
  |false=>
   rw[hbad]at c2;by_cases hlt:k<s.size
   · have l1:(k:Int)<s.size:=by omega
     have l2: ¬(s.size:Int)≤k:=by omega
     have hhd:(s.data.toList.drop k).head?=some s[k]:=by rw[Wr.drop_at (ba_lt hlt),ba_get hlt];rfl
     cases h59:((s[k].toNat:Int)==59)with
     |false=>
      have h59n:((s[k].toNat:Int) !=59)=true:=by rw[bne,h59];rfl
      have ht:t=true:=by
       cases t with
       |true=>rfl
       |false=>
        have h1:=(HTF.out.1 rfl).2.1;rw[hhd]at h1;injection h1 with h1
        rw[h1]at h59;exact absurd h59 (by decide)
      clear hhd;go_quiet (fail)
      generalize hwq:World.drewN wc _=wq;have R1:=hid (hwq▸HP.out.drewN:Sc b s k bad wq);have R2:=hid (nb_tr HGP.out (hwq▸nb_drewN wc b _:wc.grownBy wq (some b)));clear hwq;go_wp2_with fail;go_meet
      case rel=>exact⟨by rw[ht],R1,R2⟩
     |true=>
      have h59n:((s[k].toNat:Int) !=59)=false:=by rw[bne,h59];rfl
      have h59e:s[k]=59:=UInt8.toNat_inj.1 (by rw[beq_iff_eq]at h59;show s[k].toNat=59;omega);rw[h59e]at hhd;have HHD:=hid hhd;have HEX:=hid (show s.extract i k=(⟨((s.data.toList.drop i).take (k-i)).toArray⟩:ByteArray)from Pp.bytes_eq (by rw[Lib.extract_data]));obtain⟨Y,hY⟩: ∃Y:ByteArray,Y=⟨(Lib.itoa m).toArray⟩:=⟨_,rfl⟩
      have HXX:=hid (show(s.extract i k).toList=(s.data.toList.drop i).take (k-i)from by rw[HEX.out,Lib.toList_data]);have HYY:=hid (show Y.toList=Lib.itoa m from by rw[hY,Lib.toList_data]);have HD:=hid (fun W=>decX m W (by omega));rw[←hY]at HD;have li:(i:Int)≤k:=by omega
      have lk:(k:Int)≤s.size:=by omega
      have lz:(0:Int)≤i:=by omega
      have HPW:=hid (fun(W:World) (hW:Below wc.heap.size wc W)=>(HP.out.below hW));have hdr: ∀W:World,Below W.heap.size W W.drew:=fun W=>(Below.refl _ _).drew
      obtain⟨q,hxy⟩: ∃q,((s.extract i k).toList==Y.toList)=q:=⟨_,rfl⟩
      have hxn:((s.extract i k).toList !=Y.toList)= !q:=by rw[bne,hxy]
      have ht:t= !q:=by
       cases q with
       |true=>exact HTF.out.2 ⟨hbad,HHD.out,by rw[←HXX.out,←HYY.out];exact eq_of_beq hxy⟩
       |false=>
        cases t with
        |true=>rfl
        |false=>
         have h1:=(HTF.out.1 rfl).2.2;rw[←HXX.out,←HYY.out]at h1;rw[h1]at hxy;simp at hxy
      clear hhd hY HXX HYY HEX;go_region_held3 (fun W=>W.cell? ⟨b,0,none⟩=some (.string s)∧W.cell? ⟨b,1,none⟩=some (.int .i64 k)∧W.cell? ⟨b,2,none⟩=some (.bool false)) (first|go_keep|exact⟨k0,k1,k2⟩) (first|(go_at_call 69;refine(HD.out _).mono ?_;rintro e w5 ⟨rfl,hb5'⟩;have hb5:=(hdr wc).trans hb5';have R1:=hid (HPW.out w5 hb5);have k0:=R1.out.cs.cell 0 rfl;have k1:=R1.out.cs.cell 1 rfl;have k2:=(R1.out.cs.cell 2 rfl);rw[hbad]at k2))
      go_wp2_with fail;go_meet
      case rel=>exact⟨by rw[ht],R1,hid (nb_tr HGP.out (nb_below b hb5))⟩
   · have l1: ¬(k:Int)<s.size:=by omega
     have l2:(s.size:Int)≤k:=by omega
     have ht:t=true:=by
      cases t with
      |true=>rfl
      |false=>
       have h1:=(HTF.out.1 rfl).2.1;rw[List.drop_eq_nil_of_le (by rw[←Lib.size_eq];omega)]at h1;cases h1
     go_quiet (fail)
     generalize hwq:World.drewN wc _=wq;have R1:=hid (hwq▸HP.out.drewN:Sc b s k bad wq);have R2:=hid (nb_tr HGP.out (hwq▸nb_drewN wc b _:wc.grownBy wq (some b)));clear hwq;go_wp2_with fail;go_meet
     case rel=>exact⟨by rw[ht],R1,R2⟩
 case rest=>
  obtain⟨rfl,HY,HGY⟩:=hcut
  have c1:=HY.out.cs.cell 1 rfl;have f1:=HY.out.cs.fr 1;have c2:=HY.out.cs.cell 2 rfl;have f2:=HY.out.cs.fr 2;cases t with
  |true=>
   go_wp2_with fail;refine bodyPost_ret (results_tmp rfl _ _ _) rfl ?_
   refine⟨0,k,true,rfl,HY.out.bad,hk,nb_tr HGY.out (nb_set _ b 2 _),fun _=>⟨rfl,rfl⟩,fun hb m' r' hr=>?_⟩
   rw[HR.out]at hr;split at hr
   · rename_i hc
     have:=HTF.out.2 ⟨hb,hc⟩
     cases this
   · cases hr
  |false=>
   obtain⟨hb,hc⟩:=HTF.out.1 rfl
   have hlt:k<s.size:=by
    rcases Nat.lt_or_ge k s.size with h1|h1
    · exact h1
    · rw[List.drop_eq_nil_of_le (by rw[←Lib.size_eq];omega)]at hc;cases hc.1
   have w4:IntKind.i64.wrap ((k:Int)+1)=k+1:=by have:=HS.out;rw[IntKind.wrap_i64]<;>omega
   have HCC:=hid hc;have HBB:=hid hb;have R3:=hid (HY.out.set (k+1));clear hc hb;go_wp2_with fail;refine bodyPost_ret (results_tmp rfl _ _ _) rfl ?_
   refine⟨m,k+1,bad,rfl,R3.out,hlt,nb_tr HGY.out (nb_set _ b 1 _),fun h=>?_,fun hb m' r' hr=>?_⟩
   · rcases h with h|h
     · rw[HBB.out]at h;cases h
     · rw[HR.out,if_pos HCC.out]at h;cases h
   · rw[HR.out,if_pos HCC.out]at hr
     simp only[Option.some.injEq,Prod.mk.injEq]at hr;exact⟨HBB.out,hr.1,by rw[←hr.2,List.drop_drop]⟩
set_option maxHeartbeats 4000000 in
set_option maxRecDepth 8000 in
theorem scnum_any (b i:Nat) (s:ByteArray) (bad:Bool) (w:World) (h:Sc b s i bad w) (hi:i≤s.size) (hs:s.size≤140737488351232):
    Calls Tryz.prog 37 #[.pointer (some ⟨b,0,none⟩)] w fun e w'=>SnPost b i s bad w (Wr.numS (s.data.toList.drop i)) e w':=by
 have HS:=hid hs;have HH:=hid h;obtain⟨neg,hneg⟩: ∃x,x=Wr.sgn (s.data.toList.drop i):=⟨_,rfl⟩
 have HNEG:=hid hneg
 have hng:i<s.size→ ∀hk,neg=((s[i]'hk).toNat==(45:Int)):=fun hl hk=>by
  rw[hneg,Wr.drop_at (ba_lt hl),Wr.sgn_cons,ba_get hl]
 have hng2: ¬i<s.size→neg=false:=fun hl=>by
  rw[hneg,List.drop_eq_nil_of_le (by rw[←Lib.size_eq];omega)];rfl
 have HNG:=hid (And.intro hng hng2);obtain⟨RES,hRES⟩: ∃x,x=Wr.numS (s.data.toList.drop i):=⟨_,rfl⟩
 rw[←hRES];have HRES:=hid hRES;have c1:=h.cs.cell 1 rfl;have c0:=h.cs.cell 0 rfl;clear hneg hng hng2 hs h hRES;go_enter Tryz.func37,Tryz.ntmps37
 go_wp2_with fail;go_cut [4] (fun x W=>x= .bool neg∧Hid (Sc b s i bad W)∧Hid (w.grownBy W (some b)))
 case first=>
  by_cases hlt:i<s.size
  · have l1:(i:Int)<s.size:=by omega
    have hn:=HNG.out.1 hlt hlt;cases hq:((s[i].toNat:Int)==45)with
    |true=>
     rw[hq]at hn;go_quiet (fail)
     clear hq;generalize hwq:World.drewN w _=wq;have R1:=hid (hwq▸HH.out.drewN:Sc b s i bad wq);have R2:=hid (hwq▸nb_drewN w b _:w.grownBy wq (some b));clear hwq;go_wp2_with fail;go_meet
     case rel=>exact⟨by rw[hn],R1,R2⟩
    |false=>
     rw[hq]at hn;go_quiet (fail)
     clear hq;generalize hwq:World.drewN w _=wq;have R1:=hid (hwq▸HH.out.drewN:Sc b s i bad wq);have R2:=hid (hwq▸nb_drewN w b _:w.grownBy wq (some b));clear hwq;go_wp2_with fail;go_meet
     case rel=>exact⟨by rw[hn],R1,R2⟩
  · have l1: ¬(i:Int)<s.size:=by omega
    have hn:=HNG.out.2 hlt;go_quiet (fail)
    generalize hwq:World.drewN w _=wq;have R1:=hid (hwq▸HH.out.drewN:Sc b s i bad wq);have R2:=hid (hwq▸nb_drewN w b _:w.grownBy wq (some b));clear hwq;go_wp2_with fail;go_meet
    case rel=>exact⟨by rw[hn],R1,R2⟩
 case rest=>
  obtain⟨rfl,HA,HGA⟩:=hcut
  obtain⟨j,hj⟩: ∃j:Nat,j=if neg=true then i+1 else i:=⟨_,rfl⟩
  have hjs:j≤s.size:=by
   rw[hj];split
   · rename_i hn
     rcases Nat.lt_or_ge i s.size with h1|h1
     · omega
     · rw[HNG.out.2 (by omega)]at hn;cases hn
   · exact hi
  have HJ:=hid (show Wr.num1 (s.data.toList.drop i)=Wr.scan 0 (s.data.toList.drop j)from by
   rw[Wr.num1,←HNEG.out,hj];split
   · rw[List.drop_drop]
   · rfl)
  have hw1:IntKind.i64.wrap ((i:Int)+1)=i+1:=by have:=HS.out;rw[IntKind.wrap_i64]<;>omega
  clear c0 c1;go_upto_if 32 with(fail);go_cut [4] (fun x W=>x= .bool neg∧Hid (Sc b s j bad W)∧Hid (w.grownBy W (some b)))
  case first=>
   have c1:=HA.out.cs.cell 1 rfl;have f1:=HA.out.cs.fr 1;cases hnn:neg with
   |true=>
    rw[hnn]at hj;obtain rfl:j=i+1:=hj;have R1:=hid (HA.out.set (i+1));have R2:=hid (nb_tr HGA.out (nb_set wc b 1 (.int .i64 ((i:Nat)+1:Nat))));go_wp2_with fail;go_meet
    case rel=>exact⟨by rw[hnn],R1,R2⟩
   |false=>
    rw[hnn]at hj;obtain rfl:j=i:=hj;go_wp2_with fail;go_meet
    case rel=>exact⟨by rw[hnn],HA,HGA⟩
  case rest=>
   obtain⟨rfl,HB,HGB⟩:=hcut
   clear HA HGA hw1;go_wp2_with fail;go_loopw [5] (fun n wr=> ∃k v:Nat,n= .int .i64 v∧k≤s.size∧i≤k∧v≤20000000000000000∧Hid (Sc b s k bad wr)∧Hid (w.grownBy wr (some b))∧Hid (Wr.num1 (s.data.toList.drop i)=Wr.scan v (s.data.toList.drop k))) (fun _ W=>s.size-atOf b W)
   case atStart=>exact⟨j,0,rfl,hjs,(by rw[hj];split<;>omega),by omega,HB,HGB,HJ⟩
   case round=>
    obtain⟨k,v,rfl,hk,hik,hv,HC,HGC,HK⟩:=hrel
    have HAT:=hid HC.out.at
    obtain⟨t,htt⟩: ∃t:Bool,(t=true↔ ∃hk:k<s.size,Wr.dig s[k]=true∧v<1125899906842624):=by
     by_cases hp: ∃hk:k<s.size,Wr.dig s[k]=true∧v<1125899906842624
     · exact⟨true,fun _=>hp,fun _=>rfl⟩
     · exact⟨false,(fun h=>by cases h),fun h=>absurd h hp⟩
    have HTT:=hid htt;clear htt HB HGB;go_wp2_with fail;go_cut [77] (fun x W=>x= .bool t∧Hid (Sc b s k bad W)∧Hid (w.grownBy W (some b)))
    case first=>
     have c0:=HC.out.cs.cell 0 rfl;have c1:=HC.out.cs.cell 1 rfl;by_cases hlt:k<s.size
     · have l1:(k:Int)<s.size:=by omega
       by_cases h48:(48:Int)≤s[k].toNat
       · by_cases h57:(s[k].toNat:Int)≤57
         · by_cases h50:(v:Int)<1125899906842624
           · have ht:t=true:=HTT.out.2 ⟨hlt,by simp only[Wr.dig,Bool.and_eq_true,decide_eq_true_eq];omega,by omega⟩
             go_quiet (fail)
             generalize hwq:World.drewN wr _=wq;have R1:=hid (hwq▸HC.out.drewN:Sc b s k bad wq);have R2:=hid (nb_tr HGC.out (hwq▸nb_drewN wr b _:wr.grownBy wq (some b)));clear hwq;go_wp2_with fail;go_meet
             case rel=>exact⟨by rw[ht],R1,R2⟩
           · have ht:t=false:=by
              cases t with
              |false=>rfl
              |true=>obtain⟨_,_,h⟩:=HTT.out.1 rfl;omega
             go_quiet (fail)
             generalize hwq:World.drewN wr _=wq;have R1:=hid (hwq▸HC.out.drewN:Sc b s k bad wq);have R2:=hid (nb_tr HGC.out (hwq▸nb_drewN wr b _:wr.grownBy wq (some b)));clear hwq;go_wp2_with fail;go_meet
             case rel=>exact⟨by rw[ht],R1,R2⟩
         · have ht:t=false:=by
            cases t with
            |false=>rfl
            |true=>obtain⟨_,h,_⟩:=HTT.out.1 rfl;simp only[Wr.dig,Bool.and_eq_true,decide_eq_true_eq]at h;omega
           go_quiet (fail)
           generalize hwq:World.drewN wr _=wq;have R1:=hid (hwq▸HC.out.drewN:Sc b s k bad wq);have R2:=hid (nb_tr HGC.out (hwq▸nb_drewN wr b _:wr.grownBy wq (some b)));clear hwq;go_wp2_with fail;go_meet
           case rel=>exact⟨by rw[ht],R1,R2⟩
       · have ht:t=false:=by
          cases t with
          |false=>rfl
          |true=>obtain⟨_,h,_⟩:=HTT.out.1 rfl;simp only[Wr.dig,Bool.and_eq_true,decide_eq_true_eq]at h;omega
         go_quiet (fail)
         generalize hwq:World.drewN wr _=wq;have R1:=hid (hwq▸HC.out.drewN:Sc b s k bad wq);have R2:=hid (nb_tr HGC.out (hwq▸nb_drewN wr b _:wr.grownBy wq (some b)));clear hwq;go_wp2_with fail;go_meet
         case rel=>exact⟨by rw[ht],R1,R2⟩
     · have l1: ¬(k:Int)<s.size:=by omega
       have ht:t=false:=by
        cases t with
        |false=>rfl
        |true=>obtain⟨h,_⟩:=HTT.out.1 rfl;exact absurd h hlt
       go_quiet (fail)
       generalize hwq:World.drewN wr _=wq;have R1:=hid (hwq▸HC.out.drewN:Sc b s k bad wq);have R2:=hid (nb_tr HGC.out (hwq▸nb_drewN wr b _:wr.grownBy wq (some b)));clear hwq;go_wp2_with fail;go_meet
       case rel=>exact⟨by rw[ht],R1,R2⟩
    case rest=>
     obtain⟨rfl,HD,HGD⟩:=hcut
     clear HC HGC;cases t with
     |true=>
      obtain⟨hlt,hdg,hv50⟩:=HTT.out.1 rfl
      have hcd:48≤s[k].toNat∧s[k].toNat≤57:=by simpa[Wr.dig]using hdg
      have HN:=hid (show Wr.num1 (s.data.toList.drop i)=Wr.scan (10*v+(s[k].toNat-48)) (s.data.toList.drop (k+1))from by
       rw[HK.out,Wr.drop_at (ba_lt hlt),Wr.scan_yes ⟨by rw[←ba_get hlt];exact hdg,hv50⟩,←ba_get hlt])
      have l1:(k:Int)<s.size:=by omega
      have c0:=HD.out.cs.cell 0 rfl;have c1:=HD.out.cs.cell 1 rfl;have f1:=HD.out.cs.fr 1;have w1:IntKind.i64.wrap (10*(v:Int))=10*v:=by rw[IntKind.wrap_i64]<;>omega
      have w2:IntKind.i64.wrap (10*(v:Int)+s[k].toNat)=10*v+s[k].toNat:=by rw[IntKind.wrap_i64]<;>omega
      have w3:IntKind.i64.wrap (10*(v:Int)+s[k].toNat-48)=((10*v+(s[k].toNat-48):Nat):Int):=by rw[IntKind.wrap_i64]<;>omega
      have w4:IntKind.i64.wrap ((k:Int)+1)=k+1:=by have:=HS.out;rw[IntKind.wrap_i64]<;>omega
      have w5:IntKind.i64.wrap (s[k].toNat:Int)=s[k].toNat:=by rw[IntKind.wrap_i64]<;>omega
      go_wp2_with fail;go_quiet (fail)
      generalize hwq:World.drewN wc _=wq;have R1:=hid (hwq▸HD.out.drewN:Sc b s k bad wq);have R2:=hid (nb_tr HGD.out (hwq▸nb_drewN wc b _:wc.grownBy wq (some b)));have d1:=R1.out.cs.cell 1 rfl;have g1:=R1.out.cs.fr 1;have R3:=hid (R1.out.set (k+1));have R4:=hid (nb_tr R2.out (nb_set wq b 1 (.int .i64 ((k:Nat)+1:Nat))));have R5:=hid (And.intro R3.out.at R1.out.at);clear hwq c0 c1 f1 w1 w2 w5 hdg;go_wp2_with fail;go_roundw
      case rel=>exact⟨k+1,10*v+(s[k].toNat-48),by simp,by omega,by omega,by omega,R3,R4,HN⟩
      case measure=>
       have e:atOf b (wq.setCell ⟨b,1,none⟩ (.int .i64 ((k:Int)+1)))=k+1:=by have:=R5.out.1;simpa using this
       rw[e,HAT.out];omega
     |false=>
      have HX:=hid (show Wr.num1 (s.data.toList.drop i)=(v,s.data.toList.drop k)from by
       rw[HK.out];by_cases hlt:k<s.size
       · rw[Wr.drop_at (ba_lt hlt),Wr.scan_no (fun h=>by
          have:=HTT.out.2 ⟨hlt,by rw[ba_get hlt];exact h.1,h.2⟩
          cases this)]
       · rw[List.drop_eq_nil_of_le (by rw[←Lib.size_eq];omega)];rfl)
      obtain⟨m,hm⟩: ∃m:Int,m=if neg=true then-(v:Int)else v:=⟨_,rfl⟩
      have HM:=hid hm;have w1:IntKind.i64.wrap (-(v:Int))= -(v:Int):=by rw[IntKind.wrap_i64]<;>omega
      go_upto_if 99 with(fail);go_cut [4,5] (fun y x W=>y= .bool neg∧x= .int .i64 m∧Hid (Sc b s k bad W)∧Hid (w.grownBy W (some b)))
      case first=>
       cases hnn:neg with
       |true=>
        rw[hnn,if_pos rfl]at hm;go_wp2_with fail;go_meet
        case rel=>exact⟨by rw[hnn],by rw[hm],HD,HGD⟩
       |false=>
        rw[hnn,if_neg (by simp)]at hm;go_wp2_with fail;go_meet
        case rel=>exact⟨by rw[hnn],by rw[hm],HD,HGD⟩
      case rest=>
       obtain⟨rfl,rfl,HP,HGP⟩:=hcut
       clear hm w1 HD HGD HK
       have HG:=hid (show(s.data.toList.drop i).take ((s.data.toList.drop i).length-(s.data.toList.drop k).length)=(s.data.toList.drop i).take (k-i)from by
        congr 1;rw[List.length_drop,List.length_drop,←Lib.size_eq];omega)
       have HR:=hid (show RES=if(s.data.toList.drop k).head?=some 59∧(s.data.toList.drop i).take (k-i)=Lib.itoa m then some (m,(s.data.toList.drop k).drop 1)else none from by
        rw[HRES.out,Wr.numS,Wr.numT,Wr.numV,←HNEG.out,HX.out,HG.out,←HM.out])
       have mb:m.natAbs≤20000000000000000:=by rw[HM.out];split<;>omega
       rename_i aK
       apply aK
       exact sctail_any HP HGP hk hik HS mb HR
namespace Wr
/-- Reading: what is read, what is left; or nothing. -/
abbrev Ps (α:Type):=List UInt8→Option (α×List UInt8)
def bindP {α β:Type} (p:Ps α) (f:α→Ps β):Ps β:=fun l=>match p l with
 |none=>none
 |some (x,r)=>f x r
def pureP {α:Type} (x:α):Ps α:=fun l=>some (x,l)
theorem bind_none {α β:Type} {p:Ps α} {f:α→Ps β} {l:List UInt8} (h:p l=none):bindP p f l=none:=by rw[bindP,h]
theorem bind_some {α β:Type} {p:Ps α} {f:α→Ps β} {l r:List UInt8} {x:α} (h:p l=some (x,r)):bindP p f l=f x r:=by rw[bindP,h]
def cntP (g:Int→Bool) (m:Int):Ps Int:=bindP (rdG g) fun n r=>if 0≤n∧n≤m then some (n,r)else none
def txtP (g:Int→Bool) (m:Int):Ps ByteArray:=bindP (cntP g m) fun n r=>if n≤r.length then some (⟨(r.take n.toNat).toArray⟩,r.drop n.toNat)else none
def repP {α:Type} (p:Ps α):Nat→Ps (List α)
 |0=>pureP []
 |k+1=>bindP p fun x=>bindP (repP p k) fun xs=>pureP (x::xs)
def lstP {α:Type} (g:Int→Bool) (m:Int) (p:Ps α):Ps (List α):=bindP (cntP g m) fun n=>repP p n.toNat
theorem rd_some {g:Int→Bool} {l r:List UInt8} {n:Int} (h:rdG g l=some (n,r)):Lib.atoiAll (upto l)= .ok n∧(59:UInt8)∈l∧Lib.itoa n=upto l∧g n=true∧r=behind l:=by
 unfold rdG at h;split at h
 · rename_i m hm
   split at h
   · rename_i hc
     simp only[Option.some.injEq,Prod.mk.injEq]at h;obtain⟨rfl,rfl⟩:=h
     exact⟨hm,hc.1,hc.2.1,hc.2.2,rfl⟩
   · cases h
 · cases h
theorem rd_none {g:Int→Bool} {l:List UInt8} (h:rdG g l=none):(∀n,Lib.atoiAll (upto l)≠ .ok n)∨ ∃n,Lib.atoiAll (upto l)= .ok n∧((59:UInt8)∉l∨Lib.itoa n≠upto l∨g n=false):=by
 unfold rdG at h;split at h
 · rename_i m hm
   split at h
   · cases h
   · rename_i hc
     refine Or.inr ⟨m,hm,?_⟩
     by_cases h1:(59:UInt8)∈l
     · by_cases h2:Lib.itoa m=upto l
       · exact Or.inr (Or.inr (by cases hg:g m with
          |false=>rfl
          |true=>exact absurd ⟨h1,h2,hg⟩ hc))
       · exact Or.inr (Or.inl h2)
     · exact Or.inl h1
 · rename_i hn
   exact Or.inl (fun n hm=>hn n hm)
theorem behind_len: ∀l:List UInt8,(behind l).length≤l.length
 |[]=>by simp[behind]
 |x::l=>by
  have ih:=behind_len l;unfold behind at ih⊢;rw[List.dropWhile_cons];split
  · simp only[List.length_cons];omega
  · simp
theorem rd_len {g:Int→Bool} {l r:List UInt8} {n:Int} (h:rdG g l=some (n,r)):r.length≤l.length:=by
 rw[(rd_some h).2.2.2.2];exact behind_len l
theorem cnt_some {g:Int→Bool} {m:Int} {l r:List UInt8} {n:Int} (h:cntP g m l=some (n,r)):rdG g l=some (n,r)∧0≤n∧n≤m:=by
 unfold cntP bindP at h;split at h
 · cases h
 · rename_i x r' hr
   dsimp only at h;split at h
   · rename_i hc
     simp only[Option.some.injEq,Prod.mk.injEq]at h;obtain⟨rfl,rfl⟩:=h
     exact⟨hr,hc⟩
   · cases h
theorem cnt_none {g:Int→Bool} {m:Int} {l:List UInt8} (h:cntP g m l=none):rdG g l=none∨ ∃n r,rdG g l=some (n,r)∧(n<0∨m<n):=by
 unfold cntP bindP at h;split at h
 · rename_i hr;exact Or.inl hr
 · rename_i x r' hr
   dsimp only at h;split at h
   · cases h
   · rename_i hc
     exact Or.inr ⟨x,r',hr,by omega⟩
theorem cnt_len {g:Int→Bool} {m:Int} {l r:List UInt8} {n:Int} (h:cntP g m l=some (n,r)):r.length≤l.length:=rd_len (cnt_some h).1
theorem txt_some {g:Int→Bool} {m:Int} {l r:List UInt8} {x:ByteArray} (h:txtP g m l=some (x,r)): ∃n r',cntP g m l=some (n,r')∧n≤r'.length∧x=⟨(r'.take n.toNat).toArray⟩∧r=r'.drop n.toNat:=by
 unfold txtP bindP at h;split at h
 · cases h
 · rename_i n r' hr
   dsimp only at h;split at h
   · rename_i hc
     simp only[Option.some.injEq,Prod.mk.injEq]at h;exact⟨n,r',hr,hc,h.1.symm,h.2.symm⟩
   · cases h
theorem txt_none {g:Int→Bool} {m:Int} {l:List UInt8} (h:txtP g m l=none):cntP g m l=none∨ ∃n r,cntP g m l=some (n,r)∧(r.length:Int)<n:=by
 unfold txtP bindP at h;split at h
 · rename_i hr;exact Or.inl hr
 · rename_i x r' hr
   dsimp only at h;split at h
   · cases h
   · rename_i hc
     exact Or.inr ⟨x,r',hr,by omega⟩
theorem txt_rest {g:Int→Bool} {m:Int} {l r:List UInt8} {x:ByteArray} (h:txtP g m l=some (x,r)):r.length≤l.length:=by
 obtain⟨n,r',h1,h2,_,rfl⟩:=txt_some h
 have:=cnt_len h1
 rw[List.length_drop];omega
end Wr
abbrev MaxL:Nat:=140737488351232
theorem rnum_ok {b:Nat} {l r:List UInt8} {n:Int} {w:World} (h:Rd b l w) (hs:l.length≤MaxL) (h6:5<b) (hv:VarsW w) (hr:Wr.rdG Wr.gN l=some (n,r)):
    Calls Tryz.prog 34 #[.pointer (some ⟨b,0,none⟩)] w fun e w'=>e= .returned (.int .i64 n)∧Rd b r w'∧w.grownBy w' (some b):=by
 obtain⟨h1,h2,h3,h4,rfl⟩:=Wr.rd_some hr
 exact rnum_ok1 b l n w h hs h6 hv h1 h2 (Lib.atoiAll_bounds h1) h3 h4
theorem rnum_no {b:Nat} {l:List UInt8} {w:World} (h:Rd b l w) (hs:l.length≤MaxL) (h6:5<b) (hv:VarsW w) (hr:Wr.rdG Wr.gN l=none):
    Calls Tryz.prog 34 #[.pointer (some ⟨b,0,none⟩)] w fun e w'=>GaveUp e∧w.grownBy w' (some b):=by
 by_cases h9:(59:UInt8)∈l
 · rcases Wr.rd_none hr with h1|⟨n,h1,h2|h2|h2⟩
   · exact rnum_no3 b l w h hs h6 hv h1 h9
   · exact absurd h9 h2
   · exact rnum_no4 b l n w h hs h6 hv h1 h9 (Lib.atoiAll_bounds h1) h2
   · by_cases h3:Lib.itoa n=Wr.upto l
     · exact rnum_no5 b l n w h hs h6 hv h1 h9 (Lib.atoiAll_bounds h1) h3 h2
     · exact rnum_no4 b l n w h hs h6 hv h1 h9 (Lib.atoiAll_bounds h1) h3
 · rcases Wr.rd_none hr with h1|⟨n,h1,_⟩
   · exact rnum_no1 b l w h hs h6 hv h1 h9
   · exact rnum_no2 b l n w h hs h6 hv h1 h9
set_option maxHeartbeats 1000000 in
theorem rcnt_ok {b:Nat} {l r:List UInt8} {m n:Int} {w:World} (h:Rd b l w) (hs:l.length≤MaxL) (h6:5<b) (hv:VarsW w) (hr:Wr.cntP Wr.gN m l=some (n,r)):
    Calls Tryz.prog 66 #[.pointer (some ⟨b,0,none⟩),.int .i64 m] w fun e w'=>e= .returned (.int .i64 n)∧Rd b r w'∧w.grownBy w' (some b):=by
 obtain⟨h1,h2,h3⟩:=Wr.cnt_some hr
 have HK:=hid (rnum_ok h hs h6 hv h1);have n1: ¬n<0:=by omega
 have n2: ¬m<n:=by omega
 clear h hv hr h1;go_enter Tryz.func66,Tryz.ntmps66
 go_wp2_with fail;refine HK.out.mono ?_
 rintro e w1 ⟨rfl,hr1,hb1⟩;go_wp2_with fail;go_ret;exact⟨rfl,hr1,hb1⟩
set_option maxHeartbeats 1000000 in
theorem rcnt_no {b:Nat} {l:List UInt8} {m:Int} {w:World} (h:Rd b l w) (hs:l.length≤MaxL) (h6:5<b) (hv:VarsW w) (hr:Wr.cntP Wr.gN m l=none):
    Calls Tryz.prog 66 #[.pointer (some ⟨b,0,none⟩),.int .i64 m] w fun e w'=>GaveUp e∧w.grownBy w' (some b):=by
 rcases Wr.cnt_none hr with h1|⟨n,r,h1,h2⟩
 · have HK:=hid (rnum_no h hs h6 hv h1)
   clear h hv hr h1;go_enter Tryz.func66,Tryz.ntmps66
   go_wp2_with fail;refine HK.out.mono ?_
   rintro e w1 ⟨rfl,hb1⟩;exact bodyPost_panic rfl ⟨rfl,hb1⟩
 · have HK:=hid (rnum_ok h hs h6 hv h1)
   clear h hv hr h1;rcases h2 with h2|h2
   · go_enter Tryz.func66,Tryz.ntmps66
     go_wp2_with fail;refine HK.out.mono ?_
     rintro e w1 ⟨rfl,hr1,hb1⟩;go_wp2_with fail;refine(gu_any _).mono ?_
     rintro e w3 ⟨rfl,rfl⟩;exact bodyPost_panic rfl ⟨rfl,hb1⟩
   · by_cases h0:n<0
     · go_enter Tryz.func66,Tryz.ntmps66
       go_wp2_with fail;refine HK.out.mono ?_
       rintro e w1 ⟨rfl,hr1,hb1⟩;go_wp2_with fail;refine(gu_any _).mono ?_
       rintro e w3 ⟨rfl,rfl⟩;exact bodyPost_panic rfl ⟨rfl,hb1⟩
     · go_enter Tryz.func66,Tryz.ntmps66
       go_wp2_with fail;refine HK.out.mono ?_
       rintro e w1 ⟨rfl,hr1,hb1⟩;go_wp2_with fail;refine(gu_any _).mono ?_
       rintro e w3 ⟨rfl,rfl⟩;exact bodyPost_panic rfl ⟨rfl,hb1⟩
set_option maxHeartbeats 1000000 in
theorem rtxt_ok {b:Nat} {l r:List UInt8} {x:ByteArray} {w:World} (h:Rd b l w) (hs:l.length≤MaxL) (h6:5<b) (hv:VarsW w) (hr:Wr.txtP Wr.gN 1000 l=some (x,r)):
    Calls Tryz.prog 35 #[.pointer (some ⟨b,0,none⟩)] w fun e w'=>e= .returned (.string x)∧Rd b r w'∧w.grownBy w' (some b):=by
 obtain⟨n,r',h1,h2,rfl,rfl⟩:=Wr.txt_some hr
 have HK:=hid (rcnt_ok h hs h6 hv h1);have hl:=Wr.cnt_len h1;obtain⟨_,n0,n1⟩:=Wr.cnt_some h1
 obtain⟨k,rfl⟩: ∃k:Nat,n=k:=⟨n.toNat,by omega⟩
 have hz:(⟨r'.toArray⟩:ByteArray).size=r'.length:=by rw[Lib.size_eq]
 have n2: ¬(k:Int)>r'.length:=by omega
 have l1:(k:Int)≤(⟨r'.toArray⟩:ByteArray).size:=by rw[hz];omega
 have l0: ¬(k:Int)>(⟨r'.toArray⟩:ByteArray).size:=by rw[hz];omega
 have HA:=hid (show(⟨r'.toArray⟩:ByteArray).extract 0 k=⟨(r'.take k).toArray⟩from Pp.bytes_eq (by rw[Lib.extract_data];simp));have HB:=hid (show(⟨r'.toArray⟩:ByteArray).extract k (⟨r'.toArray⟩:ByteArray).size=⟨(r'.drop k).toArray⟩from Pp.bytes_eq (by rw[Lib.extract_data,hz];simp[List.take_of_length_le]));clear h hv hr h1 h2 n0 n1;go_enter Tryz.func35,Tryz.ntmps35
 go_wp2_with fail;refine HK.out.mono ?_
 rintro e w1 ⟨rfl,hr1,hb1⟩;have c1:=hr1.cell;have f1:=hr1.fr;have HR1:=hid hr1;clear hr1;go_wp2_with fail;go_ret;refine⟨by rw[show((k:Int).toNat)=k from rfl,←HA.out];simp,?_,nb_tr hb1 (nb_set _ b 0 _)⟩
 rw[show((k:Int).toNat)=k from rfl];have:=HR1.out.set (r:=r'.drop k)
 rw[←HB.out]at this;exact this
set_option maxHeartbeats 1000000 in
theorem rtxt_no {b:Nat} {l:List UInt8} {w:World} (h:Rd b l w) (hs:l.length≤MaxL) (h6:5<b) (hv:VarsW w) (hr:Wr.txtP Wr.gN 1000 l=none):
    Calls Tryz.prog 35 #[.pointer (some ⟨b,0,none⟩)] w fun e w'=>GaveUp e∧w.grownBy w' (some b):=by
 rcases Wr.txt_none hr with h1|⟨n,r,h1,h2⟩
 · have HK:=hid (rcnt_no h hs h6 hv h1)
   clear h hv hr h1;go_enter Tryz.func35,Tryz.ntmps35
   go_wp2_with fail;refine HK.out.mono ?_
   rintro e w1 ⟨rfl,hb1⟩;exact bodyPost_panic rfl ⟨rfl,hb1⟩
 · have HK:=hid (rcnt_ok h hs h6 hv h1)
   have hz:(⟨r.toArray⟩:ByteArray).size=r.length:=by rw[Lib.size_eq]
   have l0:(n:Int)>(⟨r.toArray⟩:ByteArray).size:=by rw[hz];omega
   clear h hv hr h1;go_enter Tryz.func35,Tryz.ntmps35
   go_wp2_with fail;refine HK.out.mono ?_
   rintro e w1 ⟨rfl,hr1,hb1⟩;have c1:=hr1.cell;go_wp2_with fail;refine(gu_any _).mono ?_
   rintro e w3 ⟨rfl,rfl⟩;exact bodyPost_panic rfl ⟨rfl,hb1⟩
end Go.Proofs.YtdifomkoegmngaaGreatDoor
