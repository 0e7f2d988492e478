/- What the library's listed variables read as, at the wire's laws: what the walks need of it; and a heap that has it, for the rows' witness. -/
import Derived.Test.YtdifomkoegmngaaGreatDoorRows
import Derived.Test.YtdifomkoegmngaaGreatDoorRKS
import Derived.LaidLaws
set_option linter.unusedSimpArgs false
set_option linter.unusedVariables false
namespace Go.Proofs.YtdifomkoegmngaaGreatDoor
open Go.ChangeShapes Go.WideShapes Go.RowKit

namespace Pp
def lay (cs:List Value) (o:Obj):Obj:=match o with
 | .cells _ t frozen=> .cells cs.toArray t frozen
 |o=>o
def u8s (l:List Nat):List Value:=l.map fun(n:Nat)=>Value.int .u8 (n:Int)
def pows:List Value:=[.int .u64 1,.int .u64 10,.int .u64 100,.int .u64 1000,.int .u64 10000,.int .u64 100000,.int .u64 1000000,.int .u64 10000000,.int .u64 100000000,.int .u64 1000000000,.int .u64 10000000000,.int .u64 100000000000,.int .u64 1000000000000,.int .u64 10000000000000,.int .u64 100000000000000,.int .u64 1000000000000000,.int .u64 10000000000000000,.int .u64 100000000000000000,.int .u64 1000000000000000000,.int .u64 10000000000000000000]
def tab32:List Value:=u8s [0,1,28,2,29,14,24,3,30,22,20,15,25,17,4,8,31,27,13,23,21,19,16,7,26,12,18,6,11,5,10,9]
def tab64:List Value:=u8s [0,1,56,2,57,49,28,3,61,58,42,50,38,29,17,4,62,47,59,36,45,43,51,22,53,39,33,30,24,18,12,5,63,55,48,27,60,41,37,16,46,35,44,21,52,32,23,11,54,26,40,15,34,20,31,10,25,14,19,9,13,8,7,6]
def erAt (b:Nat):List Value:=[.iface 183 (.pointer (some ⟨b,0,none⟩))]
def tabs (h:Array Obj):Array Obj:=((((h.modify 3 (lay pows)).modify 4 (lay tab32)).modify 5 (lay tab64)).modify 1 (lay (erAt 11))).modify 2 (lay (erAt 12))
def texts:Array Obj:= #[.cells #[.string ⟨#[105,110,118,97,108,105,100,32,115,121,110,116,97,120]⟩] 185,.cells #[.string ⟨#[118,97,108,117,101,32,111,117,116,32,111,102,32,114,97,110,103,101]⟩] 185]
theorem pow_data:(Rows.laid_internal_strconv_uint64pow10:DataW Unit)=Lib.tabData .u64 Lib.pow10Tab:=by kernel_rfl
theorem heap_of_var {W:World} {g:Nat} {s:String} {cs:Array Value} (hg:Tryz.prog.globalNamed s=some g) (h:W.var? Tryz.prog s=some cs):g<W.heap.size:=by
 unfold World.var? at h;rw[hg]at h;simp only[Option.bind_some]at h;rcases Nat.lt_or_ge g W.heap.size with h1|h1
 · exact h1
 · rw[Array.getElem?_eq_none h1]at h;cases h
abbrev laids : List (String × DataW Unit) := [("math/bits.deBruijn32tab", Rows.laid_math_bits_deBruijn32tab), ("math/bits.deBruijn64tab", Rows.laid_math_bits_deBruijn64tab), ("internal/strconv.uint64pow10", Rows.laid_internal_strconv_uint64pow10), ("strconv.ErrRange", Rows.laid_strconv_ErrRange), ("strconv.ErrSyntax", Rows.laid_strconv_ErrSyntax)]
theorem vars_of_laid {W:World} (h:laidMetH Tryz.prog laids W):VarsW W∧5<W.heap.size:=by
 have h':laidMet Tryz.prog laids W:=h;obtain⟨ps,hl,_⟩:=h'
 obtain⟨_,_,_,_,_,_,_,_,_,_,hl1,_⟩:=hl
 obtain⟨g5,_,_,_,_,_,hg5,_,hv5,_,hl2,_⟩:=hl1
 obtain⟨g,t,cs,fuel,p,q,hg,ht,hvar,hd,hl3,_⟩:=hl2
 obtain⟨g2,t2,cs2,f2,p2,q2,hg2,ht2,hvar2,hd2,hl4,_⟩:=hl3
 obtain⟨g1,t1,cs1,f1,p1,q1,hg1,ht1,hvar1,hd1,_,_⟩:=hl4
 refine⟨⟨?_,?_,?_⟩,?_⟩
 · obtain rfl:=Option.some.inj (Tryz.powAt.symm.trans hg)
   obtain rfl:t=187:=Option.some.inj (ht.symm.trans (show(Tryz.prog.globals[3]?).map (·.type)=some 187 by kernel_rfl));rw[pow_data]at hd;unfold PowTab Lib.TabIs;rw[hvar,←Lib.cells_of_tab Tryz.underlying187 (show Tryz.prog.underlying 166=some (.int .u64) by kernel_rfl) (by kernel_rfl) (by kernel_rfl) hd]
 · obtain rfl:=Option.some.inj (Tryz.synAt.symm.trans hg1)
   obtain rfl:t1=112:=Option.some.inj (ht1.symm.trans (show(Tryz.prog.globals[1]?).map (·.type)=some 112 by kernel_rfl));obtain⟨_,u,v,hcs,_⟩:=iface_of_trod Tryz.underlying112 hd1
   exact⟨u,v,by rw[hvar1];congr 1;exact Array.ext' (by simpa using hcs)⟩
 · obtain rfl:=Option.some.inj (Tryz.rngAt.symm.trans hg2)
   obtain rfl:t2=112:=Option.some.inj (ht2.symm.trans (show(Tryz.prog.globals[2]?).map (·.type)=some 112 by kernel_rfl));obtain⟨_,u,v,hcs,_⟩:=iface_of_trod Tryz.underlying112 hd2
   exact⟨u,v,by rw[hvar2];congr 1;exact Array.ext' (by simpa using hcs)⟩
 · obtain rfl := Option.some.inj ((show Tryz.prog.globalNamed "math/bits.deBruijn64tab" = some 5 by kernel_rfl).symm.trans hg5)
   exact heap_of_var (show Tryz.prog.globalNamed "math/bits.deBruijn64tab" = some 5 by kernel_rfl) hv5
end Pp
end Go.Proofs.YtdifomkoegmngaaGreatDoor
