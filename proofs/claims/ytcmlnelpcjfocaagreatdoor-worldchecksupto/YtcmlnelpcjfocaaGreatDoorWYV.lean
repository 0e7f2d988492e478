/- The program's reader: numbers, counts, texts; it gives up by a panic. -/
import Derived.Test.YtcmlnelpcjfocaaGreatDoorWYU
import Derived.Test.YtcmlnelpcjfocaaGreatDoorShelfA
import Derived.Recover
import Derived.Lib.SlicesS
set_option linter.unusedSimpArgs false
set_option linter.unusedVariables false
namespace Go.Proofs.YtcmlnelpcjfocaaGreatDoor
open Go.RowKit Go.Proofs.Tryz
set_option maxHeartbeats 1000000
structure aX (W:World):Prop where
 pow:eA W
 syn : ∃ tp p, W.var? prog "strconv.ErrSyntax" = some #[.iface tp p]
 rng : ∃ tp p, W.var? prog "strconv.ErrRange" = some #[.iface tp p]
theorem Tryz.synAt : prog.globalNamed "strconv.ErrSyntax" = some 1 := by kernel_rfl
theorem Tryz.rngAt : prog.globalNamed "strconv.ErrRange" = some 2 := by kernel_rfl
theorem aX.block {W z:World} (h:aX W) (hb: ∀k,k<6→z.heap[k]?=W.heap[k]?):aX z:=by
 obtain⟨d,f,y⟩:=h
 refine⟨?_,?_,?_⟩
 · unfold eA Lib.TabIs World.var? at d⊢
   rw[Tryz.powAt]at d⊢;simp only[Option.bind_some]at d⊢;rw[hb 3 (by omega)];exact d
 · unfold World.var? at f⊢
   rw[Tryz.synAt]at f⊢;simp only[Option.bind_some]at f⊢;rw[hb 1 (by omega)];exact f
 · unfold World.var? at y⊢
   rw[Tryz.rngAt]at y⊢;simp only[Option.bind_some]at y⊢;rw[hb 2 (by omega)];exact y
theorem aX.belowB {B:Nat} {W d:World} (h:aX W) (f:5<B) (hb:Below B W d):aX d:=h.block (fun k y=>hb.block k (by omega))
theorem aX.nb {b:Nat} {W d:World} (h:aX W) (hb:5<b) (y:5<W.heap.size) (f:W.grownBy d (some b)):aX d:=h.block (fun k z=>f.block k (by omega) (fun e=>by injection e;omega))
def Rd (b:Nat) (l:List UInt8) (w:World):Prop:=w.heap[b]?=some (.cells #[.string ⟨l.toArray⟩] 245 (0,0))
theorem Rd.cell {b:Nat} {l:List UInt8} {w:World} (h:Rd b l w):w.cell? ⟨b,0,none⟩=some (.string ⟨l.toArray⟩):=by rw[Lib.cell_of_heap h];rfl
theorem Rd.fr {b:Nat} {l:List UInt8} {w:World} (h:Rd b l w):w.frozen? ⟨b,0,none⟩=false:=Lib.frozen_of_heap h 0
theorem Rd.lt {b:Nat} {l:List UInt8} {w:World} (h:Rd b l w):b<w.heap.size:=cM h
theorem Rd.below {b:Nat} {l:List UInt8} {w w':World} (h:Rd b l w) (hb:Below w.heap.size w w'):Rd b l w':=(hb.block b h.lt).trans h
theorem Rd.set {b:Nat} {l r:List UInt8} {w:World} (h:Rd b l w):Rd b r (w.setCell ⟨b,0,none⟩ (.string ⟨r.toArray⟩)):=by
 unfold Rd at h⊢;simp[World.setCell,Array.getElem?_modify,h]
abbrev gh (e:Ending):Prop:=e= .panicked [{v:= .iface 33 (.int .i64 1),recovered:=false}]
theorem gi {w w':World} (b:Nat) (h:Below w.heap.size w w'):w.grownBy w' (some b):=⟨h.os,h.tape,h.output,h.size,fun k d _=>h.block k d⟩
theorem aG {a c d:World} {b:Nat} (h:a.grownBy c (some b)) (k:c.grownBy d (some b)):a.grownBy d (some b):=
 ⟨k.os.trans h.os,k.tape.trans h.tape,k.output.trans h.output,Nat.le_trans h.size k.size,fun q y f=>(k.block q (Nat.lt_of_lt_of_le y h.size) f).trans (h.block q y f)⟩
theorem di {P:Program} {d:Func} {R:Ending→World→Prop} {a:Act} {w:World} {c:List PanicEntry} (y:a.defers=[]) (f:R (.panicked c) w):bodyPost P d R (.panic c) a w:=⟨y,f⟩
theorem ja (w:World):Calls prog 176 #[] w fun e w'=>gh e∧w'=w:=by
 go_enter func176,ntmps176
 go_wp2;exact di rfl ⟨rfl,rfl⟩
theorem DZ (s:ByteArray) (w:World) (f:s.size≤maxLen) (h:59∉s.data.toList):
    Calls prog 218 #[.string s,.string ⟨#[59]⟩] w fun e w'=>e= .returned (.tuple #[.string s,.string ⟨#[]⟩,.bool false])∧Below w.heap.size w w':=by
 unfold maxLen at f;have d:Hid (Lib.indexByte s.data.toList 59= -1):=tA _ _ h;clear h;go_enter func218,ntmps218
 go_wp2_with (go_at_call 264;refine(Tryz.stringslite_Index_one _ _ _).mono ?_;rintro e w' ⟨rfl,rfl⟩;rw[d.out])
 go_ret3;exact⟨rfl,Below.refl _ _⟩
theorem D3 (s:ByteArray) (a b:List UInt8) (w:World) (E:s.size≤maxLen) (h:59∉a) (d:s.data.toList=a++59::b):
    Calls prog 218 #[.string s,.string ⟨#[59]⟩] w fun e w'=>e= .returned (.tuple #[.string ⟨a.toArray⟩,.string ⟨b.toArray⟩,.bool true])∧Below w.heap.size w w':=by
 unfold maxLen at E;have A:=hid (show Lib.indexByte s.data.toList 59=a.length from by rw[d];exact tz a b 59 h);have f:s.size=a.length+b.length+1:=by rw[Lib.size_eq,d];simp;try omega
 have F:(a.length:Int)≤s.size:=by omega
 have G:(a.length:Int)+1≤s.size:=by omega
 have y:=hid (show s.extract 0 a.length=⟨a.toArray⟩from dN (by rw[Lib.extract_data,d];simp));have z:=hid (show s.extract (a.length+1) s.size=⟨b.toArray⟩from dN (by rw[Lib.extract_data,d,f];simp));clear h d f;go_enter func218,ntmps218
 go_wp2_with (go_at_call 264;refine(Tryz.stringslite_Index_one _ _ _).mono ?_;rintro e w' ⟨rfl,rfl⟩;rw[A.out])
 go_region
 go_wp2;go_ret3;exact⟨by rw[y.out,z.out];rfl,(Below.refl _ _).drew⟩
theorem lK: ∀l:List UInt8,(Wr.upto l).length≤l.length
 |[]=>by simp[Wr.upto]
 |x::l=>by
  have ih:=lK l;unfold Wr.upto at ih⊢;rw[List.takeWhile_cons];split
  · simp only[List.length_cons];omega
  · simp
theorem xu: ∀l:List UInt8,(59:UInt8)∉Wr.upto l
 |[]=>by simp[Wr.upto]
 |x::l=>by
  have ih:=xu l;unfold Wr.upto at ih⊢;rw[List.takeWhile_cons];split
  · rename_i h
    intro d;rw[List.mem_cons]at d;rcases d with rfl|d
    · simp at h
    · exact ih d
  · simp
theorem xv: ∀l:List UInt8,(59:UInt8)∉l→Wr.upto l=l∧Wr.behind l=[]
 |[],_=>by simp[Wr.upto,Wr.behind]
 |x::l,h=>by
  rw[List.mem_cons,not_or]at h;obtain⟨d,f⟩:=xv l h.2
  unfold Wr.upto at d⊢;unfold Wr.behind at f⊢;have y:(!(x==59))=true:=by simp;exact fun e=>h.1 e.symm
  rw[List.takeWhile_cons,List.dropWhile_cons,if_pos y,if_pos y,d];exact⟨rfl,f⟩
theorem my (l:List UInt8) (w:World) (z:l.length≤140737488351232):
    Calls prog 177 #[.string ⟨l.toArray⟩,.string ⟨#[59]⟩] w fun e w'=>e= .returned (.tuple #[.string ⟨(Wr.upto l).toArray⟩,.string ⟨(Wr.behind l).toArray⟩,.bool (decide ((59:UInt8)∈l))])∧Below w.heap.size w w':=by
 have f:(⟨l.toArray⟩:ByteArray).size≤maxLen:=by rw[Lib.size_eq];unfold maxLen;simp;omega
 by_cases h:(59:UInt8)∈l
 · have d:=D3 ⟨l.toArray⟩ (Wr.upto l) (Wr.behind l) w f (xu l) (by simpa using wZ h)
   rw[decide_eq_true h];go_enter func177,ntmps177
   go_wp2_with fail;refine d.mono ?_
   rintro e w' ⟨rfl,hb⟩;clear d;go_wp2;go_ret3;exact⟨rfl,hb⟩
 · have d:=DZ ⟨l.toArray⟩ w f (by simpa using h)
   obtain⟨y,aE⟩:=xv l h
   rw[decide_eq_false h,y,aE];go_enter func177,ntmps177
   go_wp2_with fail;refine d.mono ?_
   rintro e w' ⟨rfl,hb⟩;clear d;go_wp2;go_ret3;exact⟨rfl,hb⟩
theorem oY (l:List UInt8) (n:Int) (w:World) (d:l.length≤140737488351232) (h:Lib.atoiAll l= .ok n):
    Calls prog 178 #[.string ⟨l.toArray⟩] w fun e w'=>e= .returned (.tuple #[.int .i64 n,.nilIface])∧Below w.heap.size w w':=by
 refine(Tryz.strconv_Atoi_ok ⟨l.toArray⟩ (by rw[Lib.size_eq];simp;omega) n (by simpa using h) w).mono ?_
 rintro e w' ⟨rfl,rfl|⟨t,rfl⟩⟩
 · exact⟨rfl,Below.refl _ _⟩
 · exact⟨rfl,Lib.bytesWorld_below _ _ _⟩
theorem xw (l:List UInt8) (w:World) (A:l.length≤140737488351232) (z:aX w) (h: ∀n,Lib.atoiAll l≠ .ok n):
    Calls prog 178 #[.string ⟨l.toArray⟩] w fun e w'=> ∃m N t,e= .returned (.tuple #[.int .i64 m,.iface t (.pointer (some ⟨N,0,none⟩))])∧Below w.heap.size w w':=by
 cases d:Lib.atoiAll l with
 |ok n=>exact absurd d (h n)
 |«syntax»=>
  obtain⟨y,p,f⟩:=z.syn
  refine(Tryz.strconv_Atoi_syntax_var ⟨l.toArray⟩ (by rw[Lib.size_eq];simp;omega) (by simpa using d) y p w f).mono ?_
  rintro e w' ⟨N,rfl,_,_,hb⟩;exact⟨_,_,_,rfl,hb⟩
 |range=>
  obtain⟨y,p,f⟩:=z.rng
  refine(Tryz.strconv_Atoi_range_var ⟨l.toArray⟩ (by rw[Lib.size_eq];simp;omega) (by simpa using d) y p w f).mono ?_
  rintro e w' ⟨N,rfl,_,_,hb⟩;exact⟨_,_,_,rfl,hb⟩
theorem D4 (b:Nat) (l:List UInt8) (w:World) (h:Rd b l w) (J:l.length≤140737488351232) (S:5<b) (E:aX w) (A: ∀n,Lib.atoiAll (Wr.upto l)≠ .ok n) (H:(59:UInt8)∉l):
    Calls prog 141 #[.pointer (some ⟨b,0,none⟩)] w fun e w'=>gh e∧w.grownBy w' (some b):=by
 have P:=h.cell;have Q:=h.fr;have I:=h.lt;have z:=hid (my l w J);have K:(Wr.upto l).length≤l.length:=lK l;rw[decide_eq_false H]at z;have F:=hid A;clear A;have O:=hid h;have G:=hid E;clear h E;go_enter func141,ntmps141
 go_wp2_with fail;refine z.out.mono ?_
 rintro e M ⟨rfl,d⟩;go_wp2_with fail;refine(xw (Wr.upto l) M (by omega) (G.out.belowB (by omega) d) F.out).mono ?_
 rintro e T ⟨m,N,t,rfl,y⟩;have f:=d.trans (y.mono d.size);go_wp2_with fail;refine(ja _).mono ?_
 rintro e U ⟨rfl,rfl⟩;exact di rfl ⟨rfl,gi b f⟩
theorem D5 (b:Nat) (l:List UInt8) (n:Int) (w:World) (h:Rd b l w) (I:l.length≤140737488351232) (Q:5<b) (E:aX w) (A:Lib.atoiAll (Wr.upto l)= .ok n) (G:(59:UInt8)∉l):
    Calls prog 141 #[.pointer (some ⟨b,0,none⟩)] w fun e w'=>gh e∧w.grownBy w' (some b):=by
 have O:=h.cell;have P:=h.fr;have H:=h.lt;have z:=hid (my l w I);have J:(Wr.upto l).length≤l.length:=lK l;rw[decide_eq_false G]at z;have F:=hid A;clear A;have M:=hid h;have N:=hid E;clear h E;go_enter func141,ntmps141
 go_wp2_with fail;refine z.out.mono ?_
 rintro e K ⟨rfl,d⟩;go_wp2_with fail;refine(oY (Wr.upto l) n K (by omega) F.out).mono ?_
 rintro e S ⟨rfl,y⟩;have f:=d.trans (y.mono d.size);go_wp2_with fail;refine(ja _).mono ?_
 rintro e T ⟨rfl,rfl⟩;exact di rfl ⟨rfl,gi b f⟩
theorem D6 (b:Nat) (l:List UInt8) (w:World) (h:Rd b l w) (J:l.length≤140737488351232) (S:5<b) (E:aX w) (A: ∀n,Lib.atoiAll (Wr.upto l)≠ .ok n) (H:(59:UInt8)∈l):
    Calls prog 141 #[.pointer (some ⟨b,0,none⟩)] w fun e w'=>gh e∧w.grownBy w' (some b):=by
 have P:=h.cell;have Q:=h.fr;have I:=h.lt;have z:=hid (my l w J);have K:(Wr.upto l).length≤l.length:=lK l;rw[decide_eq_true H]at z;have F:=hid A;clear A;have O:=hid h;have G:=hid E;clear h E;go_enter func141,ntmps141
 go_wp2_with fail;refine z.out.mono ?_
 rintro e M ⟨rfl,d⟩;go_wp2_with fail;refine(xw (Wr.upto l) M (by omega) (G.out.belowB (by omega) d) F.out).mono ?_
 rintro e T ⟨m,N,t,rfl,y⟩;have f:=d.trans (y.mono d.size);go_wp2_with fail;refine(ja _).mono ?_
 rintro e U ⟨rfl,rfl⟩;exact di rfl ⟨rfl,gi b f⟩
theorem xx (b:Nat) (l:List UInt8) (n:Int) (w:World) (h:Rd b l w) (U:l.length≤140737488351232) (h6:5<b) (J:aX w) (H:Lib.atoiAll (Wr.upto l)= .ok n) (P:(59:UInt8)∈l) (I:dz n) (F:Lib.itoa n≠Wr.upto l):
    Calls prog 141 #[.pointer (some ⟨b,0,none⟩)] w fun e w'=>gh e∧w.grownBy w' (some b):=by
 have c0:=h.cell;have f0:=h.fr;have Q:=h.lt;have G:=hid (my l w U);have V:(Wr.upto l).length≤l.length:=lK l;rw[decide_eq_true P]at G;have K:=hid H;have M:=hid I
 have z:(⟨(Lib.itoa n).toArray⟩:ByteArray)≠⟨(Wr.upto l).toArray⟩:=by
  intro e;apply F
  have:=congrArg (fun x=>x.data.toList) e
  simpa using this
 have S:=(Lib.bytes_beq_false_iff _ _).2 z;have T:=(Lib.bytes_beq_false_iff _ _).2 z.symm;clear H I;have HH:=hid h;have O:=hid J;clear h J;go_enter func141,ntmps141
 go_wp2_with fail;refine G.out.mono ?_
 rintro e X ⟨rfl,f⟩;go_wp2_with fail;refine(oY (Wr.upto l) n X (by omega) K.out).mono ?_
 rintro e Y ⟨rfl,A⟩;have d:=f.trans (A.mono f.size);have N:=hid (nK (M.out) Y (O.out.belowB (by omega) d).pow);go_wp2_with fail;refine N.out.mono ?_
 rintro e Z ⟨rfl,E⟩;have y:=d.trans (E.mono d.size);go_wp2_with fail;refine(ja _).mono ?_
 rintro e Z ⟨rfl,rfl⟩;exact di rfl ⟨rfl,gi b y⟩
theorem D7 (b:Nat) (l:List UInt8) (n:Int) (w:World) (h:Rd b l w) (V:l.length≤140737488351232) (h6:5<b) (J:aX w) (H:Lib.atoiAll (Wr.upto l)= .ok n) (S:(59:UInt8)∈l) (I:dz n) (z:Lib.itoa n=Wr.upto l) (U:eW n=false):
    Calls prog 141 #[.pointer (some ⟨b,0,none⟩)] w fun e w'=>gh e∧w.grownBy w' (some b):=by
 have c0:=h.cell;have f0:=h.fr;have T:=h.lt;have F:=hid (my l w V);have X:(Wr.upto l).length≤l.length:=lK l;rw[decide_eq_true S]at F;have M:=hid H;have O:=hid I;have N:=hid z;clear H I z;have HH:=hid h;have Q:=hid J;clear h J;go_enter func141,ntmps141
 go_wp2_with fail;refine F.out.mono ?_
 rintro e Y ⟨rfl,f⟩;go_wp2_with fail;refine(oY (Wr.upto l) n Y (by omega) M.out).mono ?_
 rintro e Z ⟨rfl,A⟩;have d:=f.trans (A.mono f.size);have P:=hid (nK (O.out) Z (Q.out.belowB (by omega) d).pow);go_wp2_with fail;refine P.out.mono ?_
 rintro e K ⟨rfl,E⟩;have y:=d.trans (E.mono d.size);rw[N.out];have G:=hid (oU n K);rw[U]at G;go_wp2_with fail;refine G.out.mono ?_
 rintro e w4 ⟨rfl,rfl⟩;go_wp2_with fail;refine(ja _).mono ?_
 rintro e K ⟨rfl,rfl⟩;exact di rfl ⟨rfl,gi b y⟩
theorem D8 (b:Nat) (l:List UInt8) (n:Int) (w:World) (h:Rd b l w) (X:l.length≤140737488351232) (h6:5<b) (K:aX w) (I:Lib.atoiAll (Wr.upto l)= .ok n) (T:(59:UInt8)∈l) (J:dz n) (A:Lib.itoa n=Wr.upto l) (V:eW n=true):
    Calls prog 141 #[.pointer (some ⟨b,0,none⟩)] w fun e w'=>e= .returned (.int .i64 n)∧Rd b (Wr.behind l) w'∧w.grownBy w' (some b):=by
 have c0:=h.cell;have f0:=h.fr;have U:=h.lt;have G:=hid (my l w X);have Y:(Wr.upto l).length≤l.length:=lK l;rw[decide_eq_true T]at G;have M:=hid I;have P:=hid J;have N:=hid A;clear I J A;have O:=hid h;have S:=hid K;clear h K;go_enter func141,ntmps141
 go_wp2_with fail;refine G.out.mono ?_
 rintro e Z ⟨rfl,z⟩;go_wp2_with fail;refine(oY (Wr.upto l) n Z (by omega) M.out).mono ?_
 rintro e w2 ⟨rfl,E⟩;have d:=z.trans (E.mono z.size);have Q:=hid (nK (P.out) w2 (S.out.belowB (by omega) d).pow);go_wp2_with fail;refine Q.out.mono ?_
 rintro e w3 ⟨rfl,F⟩;have f:=d.trans (F.mono d.size);rw[N.out];have H:=hid (oU n w3);rw[V]at H;go_wp2_with fail;refine H.out.mono ?_
 rintro e w4 ⟨rfl,rfl⟩;have y:=O.out.below f;have f4:=y.fr;have c4:=y.cell;go_wp2_with fail;go_ret;exact⟨rfl,y.set,aG (gi b f) (ar _ b 0 _)⟩
abbrev bk (α:Type):=List UInt8→Option (α×List UInt8)
def aJ {α β:Type} (p:bk α) (f:α→bk β):bk β:=fun l=>match p l with
 |none=>none
 |some (x,r)=>f x r
def dJ {α:Type} (x:α):bk α:=fun l=>some (x,l)
theorem cJ {d y:Type} {p:bk d} {f:d→bk y} {l:List UInt8} (h:p l=none):aJ p f l=none:=by rw[aJ,h]
theorem Wr.bind_some {d y:Type} {p:bk d} {f:d→bk y} {l r:List UInt8} {x:d} (h:p l=some (x,r)):aJ p f l=f x r:=by rw[aJ,h]
def cO (g:Int→Bool) (m:Int):bk Int:=aJ (aS g) fun n r=>if 0≤n∧n≤m then some (n,r)else none
def bg (g:Int→Bool) (m:Int):bk ByteArray:=aJ (cO g m) fun n r=>if n≤r.length then some (⟨(r.take n.toNat).toArray⟩,r.drop n.toNat)else none
def eB (g:Int→Bool):bk Bool:=aJ (cO g 1) fun n=>dJ (decide (n=1))
def eC {α:Type} (p:bk α):Nat→bk (List α)
 |0=>dJ []
 |k+1=>aJ p fun x=>aJ (eC p k) fun xs=>dJ (x::xs)
def dr {α:Type} (g:Int→Bool) (m:Int) (p:bk α):bk (List α):=aJ (cO g m) fun n=>eC p n.toNat
theorem Wr.rd_some {g:Int→Bool} {l r:List UInt8} {n:Int} (h:aS g l=some (n,r)):Lib.atoiAll (Wr.upto l)= .ok n∧(59:UInt8)∈l∧Lib.itoa n=Wr.upto l∧g n=true∧r=Wr.behind l:=by
 unfold aS at h;split at h
 · rename_i m f
   split at h
   · rename_i d
     simp only[Option.some.injEq,Prod.mk.injEq]at h;obtain⟨rfl,rfl⟩:=h
     exact⟨f,d.1,d.2.1,d.2.2,rfl⟩
   · cases h
 · cases h
theorem Wr.rd_none {g:Int→Bool} {l:List UInt8} (h:aS g l=none):(∀n,Lib.atoiAll (Wr.upto l)≠ .ok n)∨ ∃n,Lib.atoiAll (Wr.upto l)= .ok n∧((59:UInt8)∉l∨Lib.itoa n≠Wr.upto l∨g n=false):=by
 unfold aS at h;split at h
 · rename_i m d
   split at h
   · cases h
   · rename_i z
     refine Or.inr ⟨m,d,?_⟩
     by_cases f:(59:UInt8)∈l
     · by_cases y:Lib.itoa m=Wr.upto l
       · exact Or.inr (Or.inr (by cases A:g m with
          |false=>rfl
          |true=>exact absurd ⟨f,y,A⟩ z))
       · exact Or.inr (Or.inl y)
     · exact Or.inl f
 · rename_i E
   exact Or.inl (fun n d=>E n d)
theorem xy: ∀l:List UInt8,(Wr.behind l).length≤l.length
 |[]=>by simp[Wr.behind]
 |x::l=>by
  have ih:=xy l;unfold Wr.behind at ih⊢;rw[List.dropWhile_cons];split
  · simp only[List.length_cons];omega
  · simp
theorem jd {g:Int→Bool} {l r:List UInt8} {n:Int} (h:aS g l=some (n,r)):r.length≤l.length:=by
 rw[(Wr.rd_some h).2.2.2.2];exact xy l
theorem mz {g:Int→Bool} {m:Int} {l r:List UInt8} {n:Int} (h:cO g m l=some (n,r)):aS g l=some (n,r)∧0≤n∧n≤m:=by
 unfold cO aJ at h;split at h
 · cases h
 · rename_i x y f
   dsimp only at h;split at h
   · rename_i d
     simp only[Option.some.injEq,Prod.mk.injEq]at h;obtain⟨rfl,rfl⟩:=h
     exact⟨f,d⟩
   · cases h
theorem Wr.cnt_none {g:Int→Bool} {m:Int} {l:List UInt8} (h:cO g m l=none):aS g l=none∨ ∃n r,aS g l=some (n,r)∧(n<0∨m<n):=by
 unfold cO aJ at h;split at h
 · rename_i d;exact Or.inl d
 · rename_i x f d
   dsimp only at h;split at h
   · cases h
   · rename_i y
     exact Or.inr ⟨x,f,d,by omega⟩
theorem mA {g:Int→Bool} {m:Int} {l r:List UInt8} {n:Int} (h:cO g m l=some (n,r)):r.length≤l.length:=jd (mz h).1
theorem xz {g:Int→Bool} {m:Int} {l r:List UInt8} {x:ByteArray} (h:bg g m l=some (x,r)): ∃n d,cO g m l=some (n,d)∧n≤d.length∧x=⟨(d.take n.toNat).toArray⟩∧r=d.drop n.toNat:=by
 unfold bg aJ at h;split at h
 · cases h
 · rename_i n d y
   dsimp only at h;split at h
   · rename_i f
     simp only[Option.some.injEq,Prod.mk.injEq]at h;exact⟨n,d,y,f,h.1.symm,h.2.symm⟩
   · cases h
theorem D9 {g:Int→Bool} {m:Int} {l:List UInt8} (h:bg g m l=none):cO g m l=none∨ ∃n r,cO g m l=some (n,r)∧(r.length:Int)<n:=by
 unfold bg aJ at h;split at h
 · rename_i d;exact Or.inl d
 · rename_i x f d
   dsimp only at h;split at h
   · cases h
   · rename_i y
     exact Or.inr ⟨x,f,d,by omega⟩
theorem gF {g:Int→Bool} {m:Int} {l r:List UInt8} {x:ByteArray} (h:bg g m l=some (x,r)):r.length≤l.length:=by
 obtain⟨n,y,d,f,_,rfl⟩:=xz h
 have:=mA d
 rw[List.length_drop];omega
abbrev cE:Nat:=140737488351232
theorem kj {b:Nat} {l r:List UInt8} {n:Int} {w:World} (h:Rd b l w) (F:l.length≤cE) (A:5<b) (G:aX w) (E:aS ah l=some (n,r)):
    Calls prog 141 #[.pointer (some ⟨b,0,none⟩)] w fun e w'=>e= .returned (.int .i64 n)∧Rd b r w'∧w.grownBy w' (some b):=by
 obtain⟨d,f,y,z,rfl⟩:=Wr.rd_some E
 exact D8 b l n w h F A G d f (Lib.atoiAll_bounds d) y z
theorem oZ {b:Nat} {l:List UInt8} {w:World} (h:Rd b l w) (z:l.length≤cE) (y:5<b) (A:aX w) (G:aS ah l=none):
    Calls prog 141 #[.pointer (some ⟨b,0,none⟩)] w fun e w'=>gh e∧w.grownBy w' (some b):=by
 by_cases f:(59:UInt8)∈l
 · rcases Wr.rd_none G with d|⟨n,d,E|E|E⟩
   · exact D6 b l w h z y A d f
   · exact absurd f E
   · exact xx b l n w h z y A d f (Lib.atoiAll_bounds d) E
   · by_cases F:Lib.itoa n=Wr.upto l
     · exact D7 b l n w h z y A d f (Lib.atoiAll_bounds d) F E
     · exact xx b l n w h z y A d f (Lib.atoiAll_bounds d) F
 · rcases Wr.rd_none G with d|⟨n,d,_⟩
   · exact D4 b l w h z y A d f
   · exact D5 b l n w h z y A d f
theorem mB {b:Nat} {l r:List UInt8} {m n:Int} {w:World} (h:Rd b l w) (G:l.length≤cE) (F:5<b) (A:aX w) (z:cO ah m l=some (n,r)):
    Calls prog 187 #[.pointer (some ⟨b,0,none⟩),.int .i64 m] w fun e w'=>e= .returned (.int .i64 n)∧Rd b r w'∧w.grownBy w' (some b):=by
 obtain⟨y,H,I⟩:=mz z
 have E:=hid (kj h G F A y);have J: ¬n<0:=by omega
 have K: ¬m<n:=by omega
 clear h A z y;go_enter func187,ntmps187
 go_wp2_with fail;refine E.out.mono ?_
 rintro e M ⟨rfl,f,d⟩;go_wp2_with fail;go_ret;exact⟨rfl,f,d⟩
theorem nQ {b:Nat} {l:List UInt8} {m:Int} {w:World} (h:Rd b l w) (I:l.length≤cE) (H:5<b) (A:aX w) (F:cO ah m l=none):
    Calls prog 187 #[.pointer (some ⟨b,0,none⟩),.int .i64 m] w fun e w'=>gh e∧w.grownBy w' (some b):=by
 rcases Wr.cnt_none F with y|⟨n,r,y,E⟩
 · have f:=hid (oZ h I H A y)
   clear h A F y;go_enter func187,ntmps187
   go_wp2_with fail;refine f.out.mono ?_
   rintro e G ⟨rfl,d⟩;exact di rfl ⟨rfl,d⟩
 · have f:=hid (kj h I H A y)
   clear h A F y;rcases E with E|E
   · go_enter func187,ntmps187
     go_wp2_with fail;refine f.out.mono ?_
     rintro e G ⟨rfl,z,d⟩;go_wp2_with fail;refine(ja _).mono ?_
     rintro e J ⟨rfl,rfl⟩;exact di rfl ⟨rfl,d⟩
   · by_cases K:n<0
     · go_enter func187,ntmps187
       go_wp2_with fail;refine f.out.mono ?_
       rintro e G ⟨rfl,z,d⟩;go_wp2_with fail;refine(ja _).mono ?_
       rintro e J ⟨rfl,rfl⟩;exact di rfl ⟨rfl,d⟩
     · go_enter func187,ntmps187
       go_wp2_with fail;refine f.out.mono ?_
       rintro e G ⟨rfl,z,d⟩;go_wp2_with fail;refine(ja _).mono ?_
       rintro e J ⟨rfl,rfl⟩;exact di rfl ⟨rfl,d⟩
theorem gX {b:Nat} {l r:List UInt8} {x:ByteArray} {w:World} (h:Rd b l w) (N:l.length≤cE) (M:5<b) (G:aX w) (F:bg ah 1000 l=some (x,r)):
    Calls prog 145 #[.pointer (some ⟨b,0,none⟩)] w fun e w'=>e= .returned (.string x)∧Rd b r w'∧w.grownBy w' (some b):=by
 obtain⟨n,d,y,K,rfl,rfl⟩:=xz F
 have J:=hid (mB h N M G y);have T:=mA y;obtain⟨_,O,P⟩:=mz y
 obtain⟨k,rfl⟩: ∃k:Nat,n=k:=⟨n.toNat,by omega⟩
 have E:(⟨d.toArray⟩:ByteArray).size=d.length:=by rw[Lib.size_eq]
 have X: ¬(k:Int)>d.length:=by omega
 have V:(k:Int)≤(⟨d.toArray⟩:ByteArray).size:=by rw[E];omega
 have U: ¬(k:Int)>(⟨d.toArray⟩:ByteArray).size:=by rw[E];omega
 have H:=hid (show(⟨d.toArray⟩:ByteArray).extract 0 k=⟨(d.take k).toArray⟩from dN (by rw[Lib.extract_data];simp));have I:=hid (show(⟨d.toArray⟩:ByteArray).extract k (⟨d.toArray⟩:ByteArray).size=⟨(d.drop k).toArray⟩from dN (by rw[Lib.extract_data,E];simp[List.take_of_length_le]));clear h G F y K O P;go_enter func145,ntmps145
 go_wp2_with fail;refine J.out.mono ?_
 rintro e Y ⟨rfl,f,A⟩;have Q:=f.cell;have S:=f.fr;have z:=hid f;clear f;go_wp2_with fail;go_ret;refine⟨by rw[show((k:Int).toNat)=k from rfl,←H.out];simp,?_,aG A (ar _ b 0 _)⟩
 rw[show((k:Int).toNat)=k from rfl];have:=z.out.set (r:=d.drop k)
 rw[←I.out]at this;exact this
theorem pa {b:Nat} {l:List UInt8} {w:World} (h:Rd b l w) (G:l.length≤cE) (F:5<b) (y:aX w) (A:bg ah 1000 l=none):
    Calls prog 145 #[.pointer (some ⟨b,0,none⟩)] w fun e w'=>gh e∧w.grownBy w' (some b):=by
 rcases D9 A with f|⟨n,r,f,K⟩
 · have z:=hid (nQ h G F y f)
   clear h y A f;go_enter func145,ntmps145
   go_wp2_with fail;refine z.out.mono ?_
   rintro e I ⟨rfl,d⟩;exact di rfl ⟨rfl,d⟩
 · have z:=hid (mB h G F y f)
   have H:(⟨r.toArray⟩:ByteArray).size=r.length:=by rw[Lib.size_eq]
   have M:(n:Int)>(⟨r.toArray⟩:ByteArray).size:=by rw[H];omega
   clear h y A f;go_enter func145,ntmps145
   go_wp2_with fail;refine z.out.mono ?_
   rintro e I ⟨rfl,E,d⟩;have J:=E.cell;go_wp2_with fail;refine(ja _).mono ?_
   rintro e N ⟨rfl,rfl⟩;exact di rfl ⟨rfl,d⟩
end Go.Proofs.YtcmlnelpcjfocaaGreatDoor
