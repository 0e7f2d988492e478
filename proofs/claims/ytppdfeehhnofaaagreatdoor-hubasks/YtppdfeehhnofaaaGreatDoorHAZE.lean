/- The program's writer: number, count, text, yes, numbers, texts. -/
import Derived.Test.YtppdfeehhnofaaaGreatDoorHAZD
import Derived.Lib.LaidTab
import Derived.Test.YtppdfeehhnofaaaGreatDoorShelfA
import Derived.Recover
import Derived.Lib.SlicesS
import Derived.WalkLawsBesides
import Derived.Deep.QuietTactic
import Derived.BigQuiet
import Derived.RegionTactic
set_option linter.unusedSimpArgs false
set_option linter.unusedVariables false
namespace Go.Proofs.YtppdfeehhnofaaaGreatDoor
open Go.RowKit

def PowTab (W : World) : Prop := Lib.TabIs Tryz.prog W "internal/strconv.uint64pow10" .u64 Lib.pow10Tab
theorem Tryz.powAt : Tryz.prog.globalNamed "internal/strconv.uint64pow10" = some 3 := by kernel_rfl
theorem PowTab.belowB {B:Nat} {W W':World} (h:PowTab W) (h3:3<B) (hb:Below B W W'):PowTab W':=by
 unfold PowTab Lib.TabIs World.var? at h⊢;rw[Tryz.powAt]at h⊢;simp only[Option.bind_some]at h⊢;rw[hb.block 3 h3];exact h
theorem below_drewN (W:World) (B k:Nat):Below B W (W.drewN k):=⟨rfl,rfl,rfl,Nat.le_refl _,fun _ _=>rfl⟩
theorem itoaX {n:Int} (h:I64 n) (W:World) (ht:PowTab W):Calls Tryz.prog 39 #[.int .i64 n] W fun e w'=>e= .returned (.string ⟨(Lib.itoa n).toArray⟩)∧Below W.heap.size W w':=by
 refine(Tryz.strconv_Itoa n h.1 h.2 W ht).mono ?_
 rintro e w' ⟨rfl,k,os,rfl⟩;have hd:=below_drewN W W.heap.size k
 exact⟨rfl,hd.os,hd.tape,hd.output,by show _≤(_++os).size;rw[Array.size_append];have:=hd.size;omega,fun j hj=>by
  show((W.drewN k).heap++os)[j]?=_
  rw[Array.getElem?_append_left (Nat.lt_of_lt_of_le hj hd.size)];exact hd.block j hj⟩
theorem isNear_any (n:Int) (w:World):Calls Tryz.prog 37 #[.int .i64 n] w fun e w'=>e= .returned (.bool (Wr.near n))∧w'=w:=by
 by_cases h1: -1099511627776≤n
 · by_cases h2:n≤1099511627776
   · go_enter Tryz.func37,Tryz.ntmps37
     go_wp2;go_ret;exact⟨by simp[Wr.near,h1,h2],rfl⟩
   · go_enter Tryz.func37,Tryz.ntmps37
     go_wp2;go_ret;exact⟨by simp[Wr.near,h1,h2],rfl⟩
 · go_enter Tryz.func37,Tryz.ntmps37
   go_wp2;go_ret;exact⟨by simp[Wr.near];intro h;omega,rfl⟩
set_option maxHeartbeats 1000000 in
theorem wnum_any (B b:Nat) (s:Ws) (n:Int) (w:World) (h:Wt B b s w) (hn:I64 n) (hlen:s.l.length≤1000000000) (h3:3<B) (ht:PowTab w):
    Calls Tryz.prog 15 #[.pointer (some ⟨b,0,none⟩),.int .i64 n] w fun e w'=>e= .returned (.tuple #[])∧Wt B b (Wr.num s n) w'∧FrW B b w w':=by
 have hlt:b<w.heap.size:=by obtain⟨p,hp⟩:=h.at;exact hp.lt
 have hB:B≤b:=by obtain⟨p,hp,_⟩:=h.at;exact hp
 have hBw:B≤w.heap.size:=by omega
 have hil:=Wr.itoa_len hn;have hsz:(⟨(Lib.itoa n).toArray⟩:ByteArray).size=(Lib.itoa n).length:=by simp[ByteArray.size]
 cases hq:Wr.near n with
 |true=>
  have hN:=isNear_any n w;rw[hq]at hN;have e2:(⟨(s.l++Lib.itoa n)++[59],s.mn,s.fr⟩:Ws)=Wr.num s n:=by simp[Wr.num,hq]
  have h2:Wt B b s w:=h;have hf2:FrW B b w w:=FrW.refl _ _ _;have hlen2:s.l.length≤1000000000:=hlen;clear h;have E2:=hid e2;clear e2;go_enter Tryz.func15,Tryz.ntmps15
  go_wp2_with fail;refine hN.mono ?_
  rintro e w1 ⟨rfl,hw1⟩;rw[hw1];clear hw1;go_wp2_with fail;have hB2:B≤w.heap.size:=Nat.le_trans hBw hf2.1.size;have hlt2:b<w.heap.size:=by obtain⟨p,hp⟩:=h2.at;exact hp.lt
  have hdr:Below w.heap.size w w.drew:=(Below.refl _ _).drew;have ht2:PowTab w.drew:=ht.belowB h3 (hf2.1.drew);clear ht
  go_region_with (first
   |(go_at_call 39;refine(itoaX hn _ ht2).mono ?_;rintro e w3 ⟨rfl,hb3⟩)
   |(go_at_call 38;refine(writeString_any B b s ⟨(Lib.itoa n).toArray⟩ w3 ((h2.below hdr).below hb3) (by rw[hsz];omega) (Nat.le_trans hB2 hb3.size)).mono ?_;rintro e w4 ⟨rfl,h4,hf4⟩))
  all_goals
   go_wp2_with fail;refine(writeByte_any B b _ 59 _ (Or.inr h4) (by show(s.l++(Lib.itoa n)).length+1≤_;rw[List.length_append];omega) (Nat.le_trans hB2 (Nat.le_trans hb3.size hf4.1.size))).mono ?_
   rintro e w5 ⟨rfl,h5,hf5⟩;go_wp2_with fail;go_end0
   refine⟨rfl,Or.inr ?_,hf2.trans ((fr_below (below_tr hdr hb3) hB2).trans (hf4.trans hf5))⟩
   rw[←E2.out];exact h5
 |false=>
  have hN:=isNear_any n w;rw[hq]at hN;obtain⟨p,hp⟩:=h.at
  obtain⟨s2,hs2⟩: ∃s2:Ws,s2={s with fr:=true}:=⟨_,rfl⟩
  obtain⟨w2,hw2⟩: ∃w2,w2=w.setCell ⟨b,3,none⟩ (.bool true):=⟨_,rfl⟩
  have HW2:=hid hw2;have HS2:=hid hs2;have e2:(⟨(s2.l++Lib.itoa n)++[59],s2.mn,s2.fr⟩:Ws)=Wr.num s n:=by rw[hs2];simp[Wr.num,hq]
  have h2:Wt B b s2 w2:=by rw[hs2,hw2];exact h.elim (fun h=>Or.inl h.far) (fun h=>Or.inr h.far)
  have hf2:FrW B b w w2:=by rw[hw2];exact fr_set (FrW.refl _ _ _) hB _ _
  have hlen2:s2.l.length≤1000000000:=by rw[hs2];exact hlen
  obtain⟨_,v,hbk,_,_⟩:=hp
  have c3:w.cell? ⟨b,3,none⟩=some (.bool s.fr):=by rw[Lib.cell_of_heap hbk];rfl
  have f3:w.frozen? ⟨b,3,none⟩=false:=Lib.frozen_of_heap hbk 3;clear h hbk hw2 hs2;have E2:=hid e2;clear e2;go_enter Tryz.func15,Tryz.ntmps15
  go_wp2_with fail;refine hN.mono ?_
  rintro e w1 ⟨rfl,hw1⟩;rw[hw1];clear hw1;go_wp2_with fail;rw[←HW2.out];clear c3 f3;have hB2:B≤w2.heap.size:=Nat.le_trans hBw hf2.1.size;have hlt2:b<w2.heap.size:=by obtain⟨p,hp⟩:=h2.at;exact hp.lt
  have hdr:Below w2.heap.size w2 w2.drew:=(Below.refl _ _).drew;have ht2:PowTab w2.drew:=ht.belowB h3 (hf2.1.drew);clear ht
  go_region_with (first
   |(go_at_call 39;refine(itoaX hn _ ht2).mono ?_;rintro e w3 ⟨rfl,hb3⟩)
   |(go_at_call 38;refine(writeString_any B b s2 ⟨(Lib.itoa n).toArray⟩ w3 ((h2.below hdr).below hb3) (by rw[hsz];omega) (Nat.le_trans hB2 hb3.size)).mono ?_;rintro e w4 ⟨rfl,h4,hf4⟩))
  all_goals
   go_wp2_with fail;refine(writeByte_any B b _ 59 _ (Or.inr h4) (by show(s2.l++(Lib.itoa n)).length+1≤_;rw[List.length_append];omega) (Nat.le_trans hB2 (Nat.le_trans hb3.size hf4.1.size))).mono ?_
   rintro e w5 ⟨rfl,h5,hf5⟩;go_wp2_with fail;go_end0
   refine⟨rfl,Or.inr ?_,hf2.trans ((fr_below (below_tr hdr hb3) hB2).trans (hf4.trans hf5))⟩
   rw[←E2.out];exact h5
/-- What each of the writer's calls needs, and what it keeps. -/
theorem Wt.B {B b:Nat} {s:Ws} {w:World} (h:Wt B b s w):B≤b:=by obtain⟨p,hp,_⟩:=h.at;exact hp
theorem Wt.lt {B b:Nat} {s:Ws} {w:World} (h:Wt B b s w):b<w.heap.size:=by obtain⟨p,hp⟩:=h.at;exact hp.lt
theorem Wr.num_len {s:Ws} {n:Int} (h:I64 n):(Wr.num s n).l.length≤s.l.length+21:=by
 have:=Wr.itoa_len h
 simp only[Wr.num,List.length_append,List.length_cons,List.length_nil];omega
theorem Wr.txt_len {s:Ws} {x:ByteArray}:(Wr.txt s x).l.length≤s.l.length+1021:=by
 unfold Wr.txt;split
 · simp[Wr.much]
 · rename_i h
   have h1:(Wr.num s x.size).l.length≤s.l.length+21:=Wr.num_len ⟨by omega,by omega⟩;have h2:x.data.toList.length=x.size:=by rw[Array.length_toList];rfl
   simp only[List.length_append];omega
theorem Wr.put_len {s:Ws} {x:Wr.It} (h:x.wf):(Wr.put s x).l.length≤s.l.length+1021:=by
 cases x with
 |n i=>have:=Wr.num_len (s:=s) h;show(Wr.num s i).l.length≤_;omega
 |t x=>exact Wr.txt_len
 |big=>show s.l.length≤_;omega
theorem Wr.run_len: ∀(l:List Wr.It) (s:Ws),(∀x∈l,x.wf)→(Wr.run s l).l.length≤s.l.length+1021*l.length
 |[],s,_=>by simp[Wr.run]
 |x::l,s,h=>by
  have h1:=Wr.put_len (s:=s) (h x (by simp));have h2:=Wr.run_len l (Wr.put s x) (fun y hy=>h y (by simp[hy]));rw[Wr.run_cons,List.length_cons];omega
set_option maxHeartbeats 1000000 in
theorem wcount_any (B b:Nat) (s:Ws) (n m:Int) (w:World) (h:Wt B b s w) (hn:I64 n) (hlen:s.l.length≤1000000000) (h3:3<B) (ht:PowTab w):
    Calls Tryz.prog 76 #[.pointer (some ⟨b,0,none⟩),.int .i64 n,.int .i64 m] w fun e w'=>e= .returned (.bool (decide (n≤m)))∧Wt B b (if n≤m then Wr.num s n else Wr.much s) w'∧FrW B b w w':=by
 by_cases hc:n≤m
 · rw[if_pos hc]
   have hN:=wnum_any B b s n w h hn hlen h3 ht;have hc': ¬n>m:=by omega
   go_enter Tryz.func76,Tryz.ntmps76
   go_wp2_with fail;refine hN.mono ?_
   rintro e w1 ⟨rfl,h1,hf1⟩;go_wp2_with fail;go_ret;exact⟨by simp[hc],h1,hf1⟩
 · rw[if_neg hc]
   have hB:=h.B;have h2:Wt B b (Wr.much s) (w.setCell ⟨b,2,none⟩ (.bool true)):=h.elim (fun h=>Or.inl h.many) (fun h=>Or.inr h.many);obtain⟨p,_,v,hbk,_,_⟩:=h.at
   have c3:w.cell? ⟨b,2,none⟩=some (.bool s.mn):=by rw[Lib.cell_of_heap hbk];rfl
   have f3:w.frozen? ⟨b,2,none⟩=false:=Lib.frozen_of_heap hbk 2;have hc':m<n:=by omega
   clear hbk;go_enter Tryz.func76,Tryz.ntmps76
   go_wp2_with fail;go_ret;exact⟨by simp[hc'],h2,fr_set (FrW.refl _ _ _) hB _ _⟩
theorem PowTab.fr {B b:Nat} {W W':World} (h:PowTab W) (h3:3<B) (hb:FrW B b W W'):PowTab W':=h.belowB h3 hb.1
set_option maxHeartbeats 1000000 in
theorem wtext_any (B b:Nat) (s:Ws) (x:ByteArray) (w:World) (h:Wt B b s w) (hlen:s.l.length≤1000000000) (h3:3<B) (ht:PowTab w) (hx:(x.size:Int)≤9223372036854775807):
    Calls Tryz.prog 41 #[.pointer (some ⟨b,0,none⟩),.string x] w fun e w'=>e= .returned (.tuple #[])∧Wt B b (Wr.txt s x) w'∧FrW B b w w':=by
 have hB:=h.B;have hlt:=h.lt;have hC:=wcount_any B b s x.size 1000 w h ⟨by omega,hx⟩ hlen h3 ht;by_cases hc:(x.size:Int)≤1000
 · rw[if_pos hc,decide_eq_true hc]at hC
   have hl:=Wr.num_len (s:=s) (n:=x.size) ⟨by omega,hx⟩;go_enter Tryz.func41,Tryz.ntmps41
   go_wp2_with fail;refine hC.mono ?_
   rintro e w1 ⟨rfl,h1,hf1⟩;go_wp2_with fail;refine(writeString_any B b _ x w1 h1 (by omega) (by have:=hf1.1.size;omega)).mono ?_
   rintro e w2 ⟨rfl,h2,hf2⟩;go_wp2_with fail;go_end0
   exact⟨rfl,Or.inr (by rw[Wr.txt,if_neg (by omega)];exact h2),hf1.trans hf2⟩
 · rw[if_neg hc,decide_eq_false hc]at hC
   go_enter Tryz.func41,Tryz.ntmps41
   go_wp2_with fail;refine hC.mono ?_
   rintro e w1 ⟨rfl,h1,hf1⟩;go_wp2_with fail;go_end0
   exact⟨rfl,by rw[Wr.txt,if_pos (by omega)];exact h1,hf1⟩
set_option maxHeartbeats 1000000 in
theorem wyes_any (B b:Nat) (s:Ws) (x:Bool) (w:World) (h:Wt B b s w) (hlen:s.l.length≤1000000000) (h3:3<B) (ht:PowTab w):
    Calls Tryz.prog 99 #[.pointer (some ⟨b,0,none⟩),.bool x] w fun e w'=>e= .returned (.tuple #[])∧Wt B b (Wr.num s (if x=true then 1 else 0)) w'∧FrW B b w w':=by
 cases x with
 |true=>
  have hN:=wnum_any B b s 1 w h ⟨by omega,by omega⟩ hlen h3 ht;go_enter Tryz.func99,Tryz.ntmps99
  go_wp2_with fail;refine hN.mono ?_
  rintro e w1 ⟨rfl,h1,hf1⟩;go_wp2_with fail;go_end0
  exact⟨rfl,h1,hf1⟩
 |false=>
  have hN:=wnum_any B b s 0 w h ⟨by omega,by omega⟩ hlen h3 ht;go_enter Tryz.func99,Tryz.ntmps99
  go_wp2_with fail;refine hN.mono ?_
  rintro e w1 ⟨rfl,h1,hf1⟩;go_wp2_with fail;go_end0
  exact⟨rfl,h1,hf1⟩
/-- What the program reads of the library's variables. -/
structure VarsW (W:World):Prop where
 pow:PowTab W
 syn : ∃ tp p, W.var? Tryz.prog "strconv.ErrSyntax" = some #[.iface tp p]
 rng : ∃ tp p, W.var? Tryz.prog "strconv.ErrRange" = some #[.iface tp p]
theorem Tryz.synAt : Tryz.prog.globalNamed "strconv.ErrSyntax" = some 1 := by kernel_rfl
theorem Tryz.rngAt : Tryz.prog.globalNamed "strconv.ErrRange" = some 2 := by kernel_rfl
theorem VarsW.block {W W':World} (h:VarsW W) (hb: ∀k,k<6→W'.heap[k]?=W.heap[k]?):VarsW W':=by
 obtain⟨h1,h2,h3⟩:=h
 refine⟨?_,?_,?_⟩
 · unfold PowTab Lib.TabIs World.var? at h1⊢
   rw[Tryz.powAt]at h1⊢;simp only[Option.bind_some]at h1⊢;rw[hb 3 (by omega)];exact h1
 · unfold World.var? at h2⊢
   rw[Tryz.synAt]at h2⊢;simp only[Option.bind_some]at h2⊢;rw[hb 1 (by omega)];exact h2
 · unfold World.var? at h3⊢
   rw[Tryz.rngAt]at h3⊢;simp only[Option.bind_some]at h3⊢;rw[hb 2 (by omega)];exact h3
theorem VarsW.belowB {B:Nat} {W W':World} (h:VarsW W) (h3:5<B) (hb:Below B W W'):VarsW W':=h.block (fun k hk=>hb.block k (by omega))
theorem VarsW.nb {b:Nat} {W W':World} (h:VarsW W) (hb:5<b) (h6:5<W.heap.size) (hw:W.grownBy W' (some b)):VarsW W':=h.block (fun k hk=>hw.block k (by omega) (fun e=>by injection e;omega))
/-- A reader in a block of its own: what is not read yet. -/
def Rd (b:Nat) (l:List UInt8) (w:World):Prop:=w.heap[b]?=some (.cells #[.string ⟨l.toArray⟩] 123 (0,0))
theorem Rd.cell {b:Nat} {l:List UInt8} {w:World} (h:Rd b l w):w.cell? ⟨b,0,none⟩=some (.string ⟨l.toArray⟩):=by rw[Lib.cell_of_heap h];rfl
theorem Rd.fr {b:Nat} {l:List UInt8} {w:World} (h:Rd b l w):w.frozen? ⟨b,0,none⟩=false:=Lib.frozen_of_heap h 0
theorem Rd.lt {b:Nat} {l:List UInt8} {w:World} (h:Rd b l w):b<w.heap.size:=heap_lt h
theorem Rd.below {b:Nat} {l:List UInt8} {w w':World} (h:Rd b l w) (hb:Below w.heap.size w w'):Rd b l w':=(hb.block b h.lt).trans h
theorem Rd.set {b:Nat} {l r:List UInt8} {w:World} (h:Rd b l w):Rd b r (w.setCell ⟨b,0,none⟩ (.string ⟨r.toArray⟩)):=by
 unfold Rd at h⊢;simp[World.setCell,Array.getElem?_modify,h]
/-- It gave up. -/
abbrev GaveUp (e:Ending):Prop:=e= .panicked [{v:= .iface 33 (.int .i64 1),recovered:=false}]
theorem nb_below {w w':World} (b:Nat) (h:Below w.heap.size w w'):w.grownBy w' (some b):=⟨h.os,h.tape,h.output,h.size,fun k hk _=>h.block k hk⟩
theorem nb_tr {a c d:World} {b:Nat} (h:a.grownBy c (some b)) (k:c.grownBy d (some b)):a.grownBy d (some b):=
 ⟨k.os.trans h.os,k.tape.trans h.tape,k.output.trans h.output,Nat.le_trans h.size k.size,fun q hq hne=>(k.block q (Nat.lt_of_lt_of_le hq h.size) hne).trans (h.block q hq hne)⟩
theorem bodyPost_panic {P:Program} {fn:Func} {R:Ending→World→Prop} {a:Act} {w:World} {c:List PanicEntry} (hd:a.defers=[]) (hR:R (.panicked c) w):bodyPost P fn R (.panic c) a w:=⟨hd,hR⟩
theorem gu_any (w:World):Calls Tryz.prog 54 #[] w fun e w'=>GaveUp e∧w'=w:=by
 go_enter Tryz.func54,Tryz.ntmps54
 go_wp2;exact bodyPost_panic rfl ⟨rfl,rfl⟩
set_option maxHeartbeats 400000 in
theorem scut59_miss (s:ByteArray) (w:World) (hs:s.size≤maxLen) (h:59∉s.data.toList):
    Calls Tryz.prog 104 #[.string s,.string ⟨#[59]⟩] w fun e w'=>e= .returned (.tuple #[.string s,.string ⟨#[]⟩,.bool false])∧Below w.heap.size w w':=by
 unfold maxLen at hs;have HI:Hid (Lib.indexByte s.data.toList 59= -1):=Pp.idx_none _ _ h;clear h;go_enter Tryz.func104,Tryz.ntmps104
 go_wp2_with (go_at_call 133;refine(Tryz.stringslite_Index_one _ _ _).mono ?_;rintro e w' ⟨rfl,rfl⟩;rw[HI.out])
 go_ret3;exact⟨rfl,Below.refl _ _⟩
set_option maxHeartbeats 400000 in
theorem scut59_hit (s:ByteArray) (a b:List UInt8) (w:World) (hs:s.size≤maxLen) (h:59∉a) (hab:s.data.toList=a++59::b):
    Calls Tryz.prog 104 #[.string s,.string ⟨#[59]⟩] w fun e w'=>e= .returned (.tuple #[.string ⟨a.toArray⟩,.string ⟨b.toArray⟩,.bool true])∧Below w.heap.size w w':=by
 unfold maxLen at hs;have HI:=hid (show Lib.indexByte s.data.toList 59=a.length from by rw[hab];exact Pp.idx_of a b 59 h);have hz:s.size=a.length+b.length+1:=by rw[Lib.size_eq,hab];simp;try omega
 have l1:(a.length:Int)≤s.size:=by omega
 have l2:(a.length:Int)+1≤s.size:=by omega
 have HA:=hid (show s.extract 0 a.length=⟨a.toArray⟩from Pp.bytes_eq (by rw[Lib.extract_data,hab];simp));have HB:=hid (show s.extract (a.length+1) s.size=⟨b.toArray⟩from Pp.bytes_eq (by rw[Lib.extract_data,hab,hz];simp));clear h hab hz;go_enter Tryz.func104,Tryz.ntmps104
 go_wp2_with (go_at_call 133;refine(Tryz.stringslite_Index_one _ _ _).mono ?_;rintro e w' ⟨rfl,rfl⟩;rw[HI.out])
 go_region
 go_wp2;go_ret3;exact⟨by rw[HA.out,HB.out];rfl,(Below.refl _ _).drew⟩
namespace Wr
theorem upto_len: ∀l:List UInt8,(upto l).length≤l.length
 |[]=>by simp[upto]
 |x::l=>by
  have ih:=upto_len l;unfold upto at ih⊢;rw[List.takeWhile_cons];split
  · simp only[List.length_cons];omega
  · simp
theorem upto_not: ∀l:List UInt8,(59:UInt8)∉upto l
 |[]=>by simp[upto]
 |x::l=>by
  have ih:=upto_not l;unfold upto at ih⊢;rw[List.takeWhile_cons];split
  · rename_i h
    intro hx;rw[List.mem_cons]at hx;rcases hx with rfl|hx
    · simp at h
    · exact ih hx
  · simp
theorem upto_self: ∀l:List UInt8,(59:UInt8)∉l→upto l=l∧behind l=[]
 |[],_=>by simp[upto,behind]
 |x::l,h=>by
  rw[List.mem_cons,not_or]at h;obtain⟨h1,h2⟩:=upto_self l h.2
  unfold upto at h1⊢;unfold behind at h2⊢;have hx:(!(x==59))=true:=by simp;exact fun e=>h.1 e.symm
  rw[List.takeWhile_cons,List.dropWhile_cons,if_pos hx,if_pos hx,h1];exact⟨rfl,h2⟩
end Wr
/-- What strings.Cut answers of a text at a semicolon. -/
theorem cut59_any (l:List UInt8) (w:World) (hs:l.length≤140737488351232):
    Calls Tryz.prog 55 #[.string ⟨l.toArray⟩,.string ⟨#[59]⟩] w fun e w'=>e= .returned (.tuple #[.string ⟨(Wr.upto l).toArray⟩,.string ⟨(Wr.behind l).toArray⟩,.bool (decide ((59:UInt8)∈l))])∧Below w.heap.size w w':=by
 have hz:(⟨l.toArray⟩:ByteArray).size≤maxLen:=by rw[Lib.size_eq];unfold maxLen;simp;omega
 by_cases h:(59:UInt8)∈l
 · have hK:=scut59_hit ⟨l.toArray⟩ (Wr.upto l) (Wr.behind l) w hz (Wr.upto_not l) (by simpa using Wr.upto_behind h)
   rw[decide_eq_true h];go_enter Tryz.func55,Tryz.ntmps55
   go_wp2_with fail;refine hK.mono ?_
   rintro e w' ⟨rfl,hb⟩;clear hK;go_wp2;go_ret3;exact⟨rfl,hb⟩
 · have hK:=scut59_miss ⟨l.toArray⟩ w hz (by simpa using h)
   obtain⟨e1,e2⟩:=Wr.upto_self l h
   rw[decide_eq_false h,e1,e2];go_enter Tryz.func55,Tryz.ntmps55
   go_wp2_with fail;refine hK.mono ?_
   rintro e w' ⟨rfl,hb⟩;clear hK;go_wp2;go_ret3;exact⟨rfl,hb⟩
theorem atoi_yes (l:List UInt8) (n:Int) (w:World) (hs:l.length≤140737488351232) (h:Lib.atoiAll l= .ok n):
    Calls Tryz.prog 56 #[.string ⟨l.toArray⟩] w fun e w'=>e= .returned (.tuple #[.int .i64 n,.nilIface])∧Below w.heap.size w w':=by
 refine(Tryz.strconv_Atoi_ok ⟨l.toArray⟩ (by rw[Lib.size_eq];simp;omega) n (by simpa using h) w).mono ?_
 rintro e w' ⟨rfl,rfl|⟨t,rfl⟩⟩
 · exact⟨rfl,Below.refl _ _⟩
 · exact⟨rfl,Lib.bytesWorld_below _ _ _⟩
theorem atoi_no (l:List UInt8) (w:World) (hs:l.length≤140737488351232) (hv:VarsW w) (h: ∀n,Lib.atoiAll l≠ .ok n):
    Calls Tryz.prog 56 #[.string ⟨l.toArray⟩] w fun e w'=> ∃m N t,e= .returned (.tuple #[.int .i64 m,.iface t (.pointer (some ⟨N,0,none⟩))])∧Below w.heap.size w w':=by
 cases hl:Lib.atoiAll l with
 |ok n=>exact absurd hl (h n)
 |«syntax»=>
  obtain⟨tp,p,hp⟩:=hv.syn
  refine(Tryz.strconv_Atoi_syntax_var ⟨l.toArray⟩ (by rw[Lib.size_eq];simp;omega) (by simpa using hl) tp p w hp).mono ?_
  rintro e w' ⟨N,rfl,_,_,hb⟩;exact⟨_,_,_,rfl,hb⟩
 |range=>
  obtain⟨tp,p,hp⟩:=hv.rng
  refine(Tryz.strconv_Atoi_range_var ⟨l.toArray⟩ (by rw[Lib.size_eq];simp;omega) (by simpa using hl) tp p w hp).mono ?_
  rintro e w' ⟨N,rfl,_,_,hb⟩;exact⟨_,_,_,rfl,hb⟩
set_option maxHeartbeats 1000000 in
theorem rnum_no1 (b:Nat) (l:List UInt8) (w:World) (h:Rd b l w) (hs:l.length≤140737488351232) (h6:5<b) (hv:VarsW w) (hA: ∀n,Lib.atoiAll (Wr.upto l)≠ .ok n) (h9:(59:UInt8)∉l):
    Calls Tryz.prog 25 #[.pointer (some ⟨b,0,none⟩)] w fun e w'=>GaveUp e∧w.grownBy w' (some b):=by
 have c0:=h.cell;have f0:=h.fr;have hlt:=h.lt;have HC:=hid (cut59_any l w hs);have hul:(Wr.upto l).length≤l.length:=Wr.upto_len l;rw[decide_eq_false h9]at HC;have HA:=hid hA;clear hA;have HH:=hid h;have HV:=hid hv;clear h hv;go_enter Tryz.func25,Tryz.ntmps25
 go_wp2_with fail;refine HC.out.mono ?_
 rintro e w1 ⟨rfl,hb1⟩;go_wp2_with fail;refine(atoi_no (Wr.upto l) w1 (by omega) (HV.out.belowB (by omega) hb1) HA.out).mono ?_
 rintro e w2 ⟨m,N,t,rfl,hb2⟩;have hb12:=hb1.trans (hb2.mono hb1.size);go_wp2_with fail;refine(gu_any _).mono ?_
 rintro e w3 ⟨rfl,rfl⟩;exact bodyPost_panic rfl ⟨rfl,nb_below b hb12⟩
set_option maxHeartbeats 1000000 in
theorem rnum_no2 (b:Nat) (l:List UInt8) (n:Int) (w:World) (h:Rd b l w) (hs:l.length≤140737488351232) (h6:5<b) (hv:VarsW w) (hA:Lib.atoiAll (Wr.upto l)= .ok n) (h9:(59:UInt8)∉l):
    Calls Tryz.prog 25 #[.pointer (some ⟨b,0,none⟩)] w fun e w'=>GaveUp e∧w.grownBy w' (some b):=by
 have c0:=h.cell;have f0:=h.fr;have hlt:=h.lt;have HC:=hid (cut59_any l w hs);have hul:(Wr.upto l).length≤l.length:=Wr.upto_len l;rw[decide_eq_false h9]at HC;have HA:=hid hA;clear hA;have HH:=hid h;have HV:=hid hv;clear h hv;go_enter Tryz.func25,Tryz.ntmps25
 go_wp2_with fail;refine HC.out.mono ?_
 rintro e w1 ⟨rfl,hb1⟩;go_wp2_with fail;refine(atoi_yes (Wr.upto l) n w1 (by omega) HA.out).mono ?_
 rintro e w2 ⟨rfl,hb2⟩;have hb12:=hb1.trans (hb2.mono hb1.size);go_wp2_with fail;refine(gu_any _).mono ?_
 rintro e w3 ⟨rfl,rfl⟩;exact bodyPost_panic rfl ⟨rfl,nb_below b hb12⟩
set_option maxHeartbeats 1000000 in
theorem rnum_no3 (b:Nat) (l:List UInt8) (w:World) (h:Rd b l w) (hs:l.length≤140737488351232) (h6:5<b) (hv:VarsW w) (hA: ∀n,Lib.atoiAll (Wr.upto l)≠ .ok n) (h9:(59:UInt8)∈l):
    Calls Tryz.prog 25 #[.pointer (some ⟨b,0,none⟩)] w fun e w'=>GaveUp e∧w.grownBy w' (some b):=by
 have c0:=h.cell;have f0:=h.fr;have hlt:=h.lt;have HC:=hid (cut59_any l w hs);have hul:(Wr.upto l).length≤l.length:=Wr.upto_len l;rw[decide_eq_true h9]at HC;have HA:=hid hA;clear hA;have HH:=hid h;have HV:=hid hv;clear h hv;go_enter Tryz.func25,Tryz.ntmps25
 go_wp2_with fail;refine HC.out.mono ?_
 rintro e w1 ⟨rfl,hb1⟩;go_wp2_with fail;refine(atoi_no (Wr.upto l) w1 (by omega) (HV.out.belowB (by omega) hb1) HA.out).mono ?_
 rintro e w2 ⟨m,N,t,rfl,hb2⟩;have hb12:=hb1.trans (hb2.mono hb1.size);go_wp2_with fail;refine(gu_any _).mono ?_
 rintro e w3 ⟨rfl,rfl⟩;exact bodyPost_panic rfl ⟨rfl,nb_below b hb12⟩
set_option maxHeartbeats 1000000 in
theorem rnum_no4 (b:Nat) (l:List UInt8) (n:Int) (w:World) (h:Rd b l w) (hs:l.length≤140737488351232) (h6:5<b) (hv:VarsW w) (hA:Lib.atoiAll (Wr.upto l)= .ok n) (h9:(59:UInt8)∈l) (hN:I64 n) (hne:Lib.itoa n≠Wr.upto l):
    Calls Tryz.prog 25 #[.pointer (some ⟨b,0,none⟩)] w fun e w'=>GaveUp e∧w.grownBy w' (some b):=by
 have c0:=h.cell;have f0:=h.fr;have hlt:=h.lt;have HC:=hid (cut59_any l w hs);have hul:(Wr.upto l).length≤l.length:=Wr.upto_len l;rw[decide_eq_true h9]at HC;have HA:=hid hA;have HN:=hid hN
 have hnn:(⟨(Lib.itoa n).toArray⟩:ByteArray)≠⟨(Wr.upto l).toArray⟩:=by
  intro e;apply hne
  have:=congrArg (fun x=>x.data.toList) e
  simpa using this
 have hnb:=(Lib.bytes_beq_false_iff _ _).2 hnn;have hnc:=(Lib.bytes_beq_false_iff _ _).2 hnn.symm;clear hA hN;have HH:=hid h;have HV:=hid hv;clear h hv;go_enter Tryz.func25,Tryz.ntmps25
 go_wp2_with fail;refine HC.out.mono ?_
 rintro e w1 ⟨rfl,hb1⟩;go_wp2_with fail;refine(atoi_yes (Wr.upto l) n w1 (by omega) HA.out).mono ?_
 rintro e w2 ⟨rfl,hb2⟩;have hb12:=hb1.trans (hb2.mono hb1.size);have HT:=hid (itoaX (HN.out) w2 (HV.out.belowB (by omega) hb12).pow);go_wp2_with fail;refine HT.out.mono ?_
 rintro e w3 ⟨rfl,hb3⟩;have hb13:=hb12.trans (hb3.mono hb12.size);go_wp2_with fail;refine(gu_any _).mono ?_
 rintro e w3 ⟨rfl,rfl⟩;exact bodyPost_panic rfl ⟨rfl,nb_below b hb13⟩
set_option maxHeartbeats 1000000 in
theorem rnum_no5 (b:Nat) (l:List UInt8) (n:Int) (w:World) (h:Rd b l w) (hs:l.length≤140737488351232) (h6:5<b) (hv:VarsW w) (hA:Lib.atoiAll (Wr.upto l)= .ok n) (h9:(59:UInt8)∈l) (hN:I64 n) (heq:Lib.itoa n=Wr.upto l) (hq:Wr.near n=false):
    Calls Tryz.prog 25 #[.pointer (some ⟨b,0,none⟩)] w fun e w'=>GaveUp e∧w.grownBy w' (some b):=by
 have c0:=h.cell;have f0:=h.fr;have hlt:=h.lt;have HC:=hid (cut59_any l w hs);have hul:(Wr.upto l).length≤l.length:=Wr.upto_len l;rw[decide_eq_true h9]at HC;have HA:=hid hA;have HN:=hid hN;have HE:=hid heq;clear hA hN heq;have HH:=hid h;have HV:=hid hv;clear h hv;go_enter Tryz.func25,Tryz.ntmps25
 go_wp2_with fail;refine HC.out.mono ?_
 rintro e w1 ⟨rfl,hb1⟩;go_wp2_with fail;refine(atoi_yes (Wr.upto l) n w1 (by omega) HA.out).mono ?_
 rintro e w2 ⟨rfl,hb2⟩;have hb12:=hb1.trans (hb2.mono hb1.size);have HT:=hid (itoaX (HN.out) w2 (HV.out.belowB (by omega) hb12).pow);go_wp2_with fail;refine HT.out.mono ?_
 rintro e w3 ⟨rfl,hb3⟩;have hb13:=hb12.trans (hb3.mono hb12.size);rw[HE.out];have HR:=hid (isNear_any n w3);rw[hq]at HR;go_wp2_with fail;refine HR.out.mono ?_
 rintro e w4 ⟨rfl,rfl⟩;go_wp2_with fail;refine(gu_any _).mono ?_
 rintro e w3 ⟨rfl,rfl⟩;exact bodyPost_panic rfl ⟨rfl,nb_below b hb13⟩
set_option maxHeartbeats 1000000 in
theorem rnum_ok1 (b:Nat) (l:List UInt8) (n:Int) (w:World) (h:Rd b l w) (hs:l.length≤140737488351232) (h6:5<b) (hv:VarsW w) (hA:Lib.atoiAll (Wr.upto l)= .ok n) (h9:(59:UInt8)∈l) (hN:I64 n) (heq:Lib.itoa n=Wr.upto l) (hq:Wr.near n=true):
    Calls Tryz.prog 25 #[.pointer (some ⟨b,0,none⟩)] w fun e w'=>e= .returned (.int .i64 n)∧Rd b (Wr.behind l) w'∧w.grownBy w' (some b):=by
 have c0:=h.cell;have f0:=h.fr;have hlt:=h.lt;have HC:=hid (cut59_any l w hs);have hul:(Wr.upto l).length≤l.length:=Wr.upto_len l;rw[decide_eq_true h9]at HC;have HA:=hid hA;have HN:=hid hN;have HE:=hid heq;clear hA hN heq;have HH:=hid h;have HV:=hid hv;clear h hv;go_enter Tryz.func25,Tryz.ntmps25
 go_wp2_with fail;refine HC.out.mono ?_
 rintro e w1 ⟨rfl,hb1⟩;go_wp2_with fail;refine(atoi_yes (Wr.upto l) n w1 (by omega) HA.out).mono ?_
 rintro e w2 ⟨rfl,hb2⟩;have hb12:=hb1.trans (hb2.mono hb1.size);have HT:=hid (itoaX (HN.out) w2 (HV.out.belowB (by omega) hb12).pow);go_wp2_with fail;refine HT.out.mono ?_
 rintro e w3 ⟨rfl,hb3⟩;have hb13:=hb12.trans (hb3.mono hb12.size);rw[HE.out];have HR:=hid (isNear_any n w3);rw[hq]at HR;go_wp2_with fail;refine HR.out.mono ?_
 rintro e w4 ⟨rfl,rfl⟩;have hr4:=HH.out.below hb13;have f4:=hr4.fr;have c4:=hr4.cell;go_wp2_with fail;go_ret;exact⟨rfl,hr4.set,nb_tr (nb_below b hb13) (nb_set _ b 0 _)⟩
end Go.Proofs.YtppdfeehhnofaaaGreatDoor
namespace Go.Proofs.YtppdfeehhnofaaaGreatDoor
open Go.RowKit

namespace Wr
/-- Reading: what is read, what is left; or nothing. -/
abbrev Ps (α:Type):=List UInt8→Option (α×List UInt8)
def bindP {α β:Type} (p:Ps α) (f:α→Ps β):Ps β:=fun l=>match p l with
 |none=>none
 |some (x,r)=>f x r
def pureP {α:Type} (x:α):Ps α:=fun l=>some (x,l)
theorem bind_none {α β:Type} {p:Ps α} {f:α→Ps β} {l:List UInt8} (h:p l=none):bindP p f l=none:=by rw[bindP,h]
theorem bind_some {α β:Type} {p:Ps α} {f:α→Ps β} {l r:List UInt8} {x:α} (h:p l=some (x,r)):bindP p f l=f x r:=by rw[bindP,h]
def cntP (g:Int→Bool) (m:Int):Ps Int:=bindP (rdG g) fun n r=>if 0≤n∧n≤m then some (n,r)else none
def txtP (g:Int→Bool) (m:Int):Ps ByteArray:=bindP (cntP g m) fun n r=>if n≤r.length then some (⟨(r.take n.toNat).toArray⟩,r.drop n.toNat)else none
def yesP (g:Int→Bool):Ps Bool:=bindP (cntP g 1) fun n=>pureP (decide (n=1))
def repP {α:Type} (p:Ps α):Nat→Ps (List α)
 |0=>pureP []
 |k+1=>bindP p fun x=>bindP (repP p k) fun xs=>pureP (x::xs)
def lstP {α:Type} (g:Int→Bool) (m:Int) (p:Ps α):Ps (List α):=bindP (cntP g m) fun n=>repP p n.toNat
theorem rd_some {g:Int→Bool} {l r:List UInt8} {n:Int} (h:rdG g l=some (n,r)):Lib.atoiAll (upto l)= .ok n∧(59:UInt8)∈l∧Lib.itoa n=upto l∧g n=true∧r=behind l:=by
 unfold rdG at h;split at h
 · rename_i m hm
   split at h
   · rename_i hc
     simp only[Option.some.injEq,Prod.mk.injEq]at h;obtain⟨rfl,rfl⟩:=h
     exact⟨hm,hc.1,hc.2.1,hc.2.2,rfl⟩
   · cases h
 · cases h
theorem rd_none {g:Int→Bool} {l:List UInt8} (h:rdG g l=none):(∀n,Lib.atoiAll (upto l)≠ .ok n)∨ ∃n,Lib.atoiAll (upto l)= .ok n∧((59:UInt8)∉l∨Lib.itoa n≠upto l∨g n=false):=by
 unfold rdG at h;split at h
 · rename_i m hm
   split at h
   · cases h
   · rename_i hc
     refine Or.inr ⟨m,hm,?_⟩
     by_cases h1:(59:UInt8)∈l
     · by_cases h2:Lib.itoa m=upto l
       · exact Or.inr (Or.inr (by cases hg:g m with
          |false=>rfl
          |true=>exact absurd ⟨h1,h2,hg⟩ hc))
       · exact Or.inr (Or.inl h2)
     · exact Or.inl h1
 · rename_i hn
   exact Or.inl (fun n hm=>hn n hm)
theorem behind_len: ∀l:List UInt8,(behind l).length≤l.length
 |[]=>by simp[behind]
 |x::l=>by
  have ih:=behind_len l;unfold behind at ih⊢;rw[List.dropWhile_cons];split
  · simp only[List.length_cons];omega
  · simp
theorem rd_len {g:Int→Bool} {l r:List UInt8} {n:Int} (h:rdG g l=some (n,r)):r.length≤l.length:=by
 rw[(rd_some h).2.2.2.2];exact behind_len l
theorem cnt_some {g:Int→Bool} {m:Int} {l r:List UInt8} {n:Int} (h:cntP g m l=some (n,r)):rdG g l=some (n,r)∧0≤n∧n≤m:=by
 unfold cntP bindP at h;split at h
 · cases h
 · rename_i x r' hr
   dsimp only at h;split at h
   · rename_i hc
     simp only[Option.some.injEq,Prod.mk.injEq]at h;obtain⟨rfl,rfl⟩:=h
     exact⟨hr,hc⟩
   · cases h
theorem cnt_none {g:Int→Bool} {m:Int} {l:List UInt8} (h:cntP g m l=none):rdG g l=none∨ ∃n r,rdG g l=some (n,r)∧(n<0∨m<n):=by
 unfold cntP bindP at h;split at h
 · rename_i hr;exact Or.inl hr
 · rename_i x r' hr
   dsimp only at h;split at h
   · cases h
   · rename_i hc
     exact Or.inr ⟨x,r',hr,by omega⟩
theorem cnt_len {g:Int→Bool} {m:Int} {l r:List UInt8} {n:Int} (h:cntP g m l=some (n,r)):r.length≤l.length:=rd_len (cnt_some h).1
theorem txt_some {g:Int→Bool} {m:Int} {l r:List UInt8} {x:ByteArray} (h:txtP g m l=some (x,r)): ∃n r',cntP g m l=some (n,r')∧n≤r'.length∧x=⟨(r'.take n.toNat).toArray⟩∧r=r'.drop n.toNat:=by
 unfold txtP bindP at h;split at h
 · cases h
 · rename_i n r' hr
   dsimp only at h;split at h
   · rename_i hc
     simp only[Option.some.injEq,Prod.mk.injEq]at h;exact⟨n,r',hr,hc,h.1.symm,h.2.symm⟩
   · cases h
theorem txt_none {g:Int→Bool} {m:Int} {l:List UInt8} (h:txtP g m l=none):cntP g m l=none∨ ∃n r,cntP g m l=some (n,r)∧(r.length:Int)<n:=by
 unfold txtP bindP at h;split at h
 · rename_i hr;exact Or.inl hr
 · rename_i x r' hr
   dsimp only at h;split at h
   · cases h
   · rename_i hc
     exact Or.inr ⟨x,r',hr,by omega⟩
theorem txt_rest {g:Int→Bool} {m:Int} {l r:List UInt8} {x:ByteArray} (h:txtP g m l=some (x,r)):r.length≤l.length:=by
 obtain⟨n,r',h1,h2,_,rfl⟩:=txt_some h
 have:=cnt_len h1
 rw[List.length_drop];omega
end Wr
abbrev MaxL:Nat:=140737488351232
theorem rnum_ok {b:Nat} {l r:List UInt8} {n:Int} {w:World} (h:Rd b l w) (hs:l.length≤MaxL) (h6:5<b) (hv:VarsW w) (hr:Wr.rdG Wr.gN l=some (n,r)):
    Calls Tryz.prog 25 #[.pointer (some ⟨b,0,none⟩)] w fun e w'=>e= .returned (.int .i64 n)∧Rd b r w'∧w.grownBy w' (some b):=by
 obtain⟨h1,h2,h3,h4,rfl⟩:=Wr.rd_some hr
 exact rnum_ok1 b l n w h hs h6 hv h1 h2 (Lib.atoiAll_bounds h1) h3 h4
theorem rnum_no {b:Nat} {l:List UInt8} {w:World} (h:Rd b l w) (hs:l.length≤MaxL) (h6:5<b) (hv:VarsW w) (hr:Wr.rdG Wr.gN l=none):
    Calls Tryz.prog 25 #[.pointer (some ⟨b,0,none⟩)] w fun e w'=>GaveUp e∧w.grownBy w' (some b):=by
 by_cases h9:(59:UInt8)∈l
 · rcases Wr.rd_none hr with h1|⟨n,h1,h2|h2|h2⟩
   · exact rnum_no3 b l w h hs h6 hv h1 h9
   · exact absurd h9 h2
   · exact rnum_no4 b l n w h hs h6 hv h1 h9 (Lib.atoiAll_bounds h1) h2
   · by_cases h3:Lib.itoa n=Wr.upto l
     · exact rnum_no5 b l n w h hs h6 hv h1 h9 (Lib.atoiAll_bounds h1) h3 h2
     · exact rnum_no4 b l n w h hs h6 hv h1 h9 (Lib.atoiAll_bounds h1) h3
 · rcases Wr.rd_none hr with h1|⟨n,h1,_⟩
   · exact rnum_no1 b l w h hs h6 hv h1 h9
   · exact rnum_no2 b l n w h hs h6 hv h1 h9
set_option maxHeartbeats 1000000 in
theorem rcnt_ok {b:Nat} {l r:List UInt8} {m n:Int} {w:World} (h:Rd b l w) (hs:l.length≤MaxL) (h6:5<b) (hv:VarsW w) (hr:Wr.cntP Wr.gN m l=some (n,r)):
    Calls Tryz.prog 71 #[.pointer (some ⟨b,0,none⟩),.int .i64 m] w fun e w'=>e= .returned (.int .i64 n)∧Rd b r w'∧w.grownBy w' (some b):=by
 obtain⟨h1,h2,h3⟩:=Wr.cnt_some hr
 have HK:=hid (rnum_ok h hs h6 hv h1);have n1: ¬n<0:=by omega
 have n2: ¬m<n:=by omega
 clear h hv hr h1;go_enter Tryz.func71,Tryz.ntmps71
 go_wp2_with fail;refine HK.out.mono ?_
 rintro e w1 ⟨rfl,hr1,hb1⟩;go_wp2_with fail;go_ret;exact⟨rfl,hr1,hb1⟩
set_option maxHeartbeats 1000000 in
theorem rcnt_no {b:Nat} {l:List UInt8} {m:Int} {w:World} (h:Rd b l w) (hs:l.length≤MaxL) (h6:5<b) (hv:VarsW w) (hr:Wr.cntP Wr.gN m l=none):
    Calls Tryz.prog 71 #[.pointer (some ⟨b,0,none⟩),.int .i64 m] w fun e w'=>GaveUp e∧w.grownBy w' (some b):=by
 rcases Wr.cnt_none hr with h1|⟨n,r,h1,h2⟩
 · have HK:=hid (rnum_no h hs h6 hv h1)
   clear h hv hr h1;go_enter Tryz.func71,Tryz.ntmps71
   go_wp2_with fail;refine HK.out.mono ?_
   rintro e w1 ⟨rfl,hb1⟩;exact bodyPost_panic rfl ⟨rfl,hb1⟩
 · have HK:=hid (rnum_ok h hs h6 hv h1)
   clear h hv hr h1;rcases h2 with h2|h2
   · go_enter Tryz.func71,Tryz.ntmps71
     go_wp2_with fail;refine HK.out.mono ?_
     rintro e w1 ⟨rfl,hr1,hb1⟩;go_wp2_with fail;refine(gu_any _).mono ?_
     rintro e w3 ⟨rfl,rfl⟩;exact bodyPost_panic rfl ⟨rfl,hb1⟩
   · by_cases h0:n<0
     · go_enter Tryz.func71,Tryz.ntmps71
       go_wp2_with fail;refine HK.out.mono ?_
       rintro e w1 ⟨rfl,hr1,hb1⟩;go_wp2_with fail;refine(gu_any _).mono ?_
       rintro e w3 ⟨rfl,rfl⟩;exact bodyPost_panic rfl ⟨rfl,hb1⟩
     · go_enter Tryz.func71,Tryz.ntmps71
       go_wp2_with fail;refine HK.out.mono ?_
       rintro e w1 ⟨rfl,hr1,hb1⟩;go_wp2_with fail;refine(gu_any _).mono ?_
       rintro e w3 ⟨rfl,rfl⟩;exact bodyPost_panic rfl ⟨rfl,hb1⟩
set_option maxHeartbeats 1000000 in
theorem rtxt_ok {b:Nat} {l r:List UInt8} {x:ByteArray} {w:World} (h:Rd b l w) (hs:l.length≤MaxL) (h6:5<b) (hv:VarsW w) (hr:Wr.txtP Wr.gN 1000 l=some (x,r)):
    Calls Tryz.prog 35 #[.pointer (some ⟨b,0,none⟩)] w fun e w'=>e= .returned (.string x)∧Rd b r w'∧w.grownBy w' (some b):=by
 obtain⟨n,r',h1,h2,rfl,rfl⟩:=Wr.txt_some hr
 have HK:=hid (rcnt_ok h hs h6 hv h1);have hl:=Wr.cnt_len h1;obtain⟨_,n0,n1⟩:=Wr.cnt_some h1
 obtain⟨k,rfl⟩: ∃k:Nat,n=k:=⟨n.toNat,by omega⟩
 have hz:(⟨r'.toArray⟩:ByteArray).size=r'.length:=by rw[Lib.size_eq]
 have n2: ¬(k:Int)>r'.length:=by omega
 have l1:(k:Int)≤(⟨r'.toArray⟩:ByteArray).size:=by rw[hz];omega
 have l0: ¬(k:Int)>(⟨r'.toArray⟩:ByteArray).size:=by rw[hz];omega
 have HA:=hid (show(⟨r'.toArray⟩:ByteArray).extract 0 k=⟨(r'.take k).toArray⟩from Pp.bytes_eq (by rw[Lib.extract_data];simp));have HB:=hid (show(⟨r'.toArray⟩:ByteArray).extract k (⟨r'.toArray⟩:ByteArray).size=⟨(r'.drop k).toArray⟩from Pp.bytes_eq (by rw[Lib.extract_data,hz];simp[List.take_of_length_le]));clear h hv hr h1 h2 n0 n1;go_enter Tryz.func35,Tryz.ntmps35
 go_wp2_with fail;refine HK.out.mono ?_
 rintro e w1 ⟨rfl,hr1,hb1⟩;have c1:=hr1.cell;have f1:=hr1.fr;have HR1:=hid hr1;clear hr1;go_wp2_with fail;go_ret;refine⟨by rw[show((k:Int).toNat)=k from rfl,←HA.out];simp,?_,nb_tr hb1 (nb_set _ b 0 _)⟩
 rw[show((k:Int).toNat)=k from rfl];have:=HR1.out.set (r:=r'.drop k)
 rw[←HB.out]at this;exact this
set_option maxHeartbeats 1000000 in
theorem rtxt_no {b:Nat} {l:List UInt8} {w:World} (h:Rd b l w) (hs:l.length≤MaxL) (h6:5<b) (hv:VarsW w) (hr:Wr.txtP Wr.gN 1000 l=none):
    Calls Tryz.prog 35 #[.pointer (some ⟨b,0,none⟩)] w fun e w'=>GaveUp e∧w.grownBy w' (some b):=by
 rcases Wr.txt_none hr with h1|⟨n,r,h1,h2⟩
 · have HK:=hid (rcnt_no h hs h6 hv h1)
   clear h hv hr h1;go_enter Tryz.func35,Tryz.ntmps35
   go_wp2_with fail;refine HK.out.mono ?_
   rintro e w1 ⟨rfl,hb1⟩;exact bodyPost_panic rfl ⟨rfl,hb1⟩
 · have HK:=hid (rcnt_ok h hs h6 hv h1)
   have hz:(⟨r.toArray⟩:ByteArray).size=r.length:=by rw[Lib.size_eq]
   have l0:(n:Int)>(⟨r.toArray⟩:ByteArray).size:=by rw[hz];omega
   clear h hv hr h1;go_enter Tryz.func35,Tryz.ntmps35
   go_wp2_with fail;refine HK.out.mono ?_
   rintro e w1 ⟨rfl,hr1,hb1⟩;have c1:=hr1.cell;go_wp2_with fail;refine(gu_any _).mono ?_
   rintro e w3 ⟨rfl,rfl⟩;exact bodyPost_panic rfl ⟨rfl,hb1⟩
end Go.Proofs.YtppdfeehhnofaaaGreatDoor
