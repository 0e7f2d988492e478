/- The two regions of the reference's MergeOf that write a version, over slots that are a letter. -/
import Derived.Test.YtagibnejodgeeaaGreatDoorRUP
import Derived.Deep.RegionHeld3
set_option linter.unusedSimpArgs false
set_option linter.unusedVariables false
namespace Go.Proofs.YtagibnejodgeeaaGreatDoor
open Go.RowKit Go.Maps

theorem getD_ne (t:Array Value) (j k:Nat) (v u:Value) (h:j≠k):(t.setIfInBounds j v).getD k u=t.getD k u:=by
 simp only[Array.getD_eq_getD_getElem?];rw[Array.getElem?_setIfInBounds_ne h]
theorem getD_eq (t:Array Value) (j:Nat) (v u:Value) (h:j<t.size):(t.setIfInBounds j v).getD j u=v:=by
 simp only[Array.getD_eq_getD_getElem?];rw[Array.getElem?_setIfInBounds_self_of_lt h];rfl
theorem grown_tr {a b c:World} {g:Nat} (h:a.grownBy b (some g)) (k:b.grownBy c (some g)):a.grownBy c (some g):=⟨k.os.trans h.os,k.tape.trans h.tape,k.output.trans h.output,Nat.le_trans h.size k.size,fun x hx hn=>(k.block x (Nat.lt_of_lt_of_le hx h.size) hn).trans (h.block x hx hn)⟩
def verRegMOps : Array Oper := #[{ dst := some 253, op := Op.load 22 (Operand.tmp 13), type := 22, pos := "path.go:549", after := #[], guard := none },
 { dst := some 254, op := Op.move (Operand.tmp 33), type := 3, pos := "path.go:549", after := #[], guard := none },
 { dst := some 255, op := Op.load 22 (Operand.tmp 4), type := 22, pos := "path.go:549", after := #[], guard := none },
 { dst := some 256, op := Op.load 22 (Operand.tmp 4), type := 22, pos := "path.go:549", after := #[], guard := none },
 { dst := some 257, op := Op.move (Operand.tmp 34), type := 9, pos := "path.go:549", after := #[], guard := none },
 { dst := some 258, op := Op.call { callee := Callee.value (Operand.func 34), args := #[Operand.tmp 256, Operand.tmp 257], argTypes := #[22, 9] }, type := 3, pos := "path.go:549", after := #[{ on := 3, ground := Ground.data }, { on := 4, ground := Ground.data }], guard := none },
 { dst := some 259, op := Op.indexAddr 22 (Operand.tmp 255) (Operand.tmp 258), type := 0, pos := "path.go:549", after := #[{ on := 2, ground := Ground.data }, { on := 5, ground := Ground.data }], guard := none },
 { dst := some 260, op := Op.fieldAddr 27 (Operand.tmp 259) 3, type := 0, pos := "path.go:549", after := #[{ on := 6, ground := Ground.data }], guard := none },
 { dst := some 261, op := Op.load 3 (Operand.tmp 260), type := 3, pos := "path.go:549", after := #[{ on := 7, ground := Ground.data }], guard := none },
 { dst := some 262, op := Op.indexAddr 22 (Operand.tmp 253) (Operand.tmp 254), type := 0, pos := "path.go:549", after := #[{ on := 0, ground := Ground.data }, { on := 1, ground := Ground.data }, { on := 0, ground := Ground.phase }, { on := 1, ground := Ground.phase }, { on := 2, ground := Ground.phase }, { on := 3, ground := Ground.phase }, { on := 4, ground := Ground.phase }, { on := 5, ground := Ground.phase }, { on := 6, ground := Ground.phase }, { on := 7, ground := Ground.phase }, { on := 8, ground := Ground.phase }], guard := none },
 { dst := some 263, op := Op.fieldAddr 27 (Operand.tmp 262) 3, type := 0, pos := "path.go:549", after := #[{ on := 9, ground := Ground.data }, { on := 0, ground := Ground.phase }, { on := 1, ground := Ground.phase }, { on := 2, ground := Ground.phase }, { on := 3, ground := Ground.phase }, { on := 4, ground := Ground.phase }, { on := 5, ground := Ground.phase }, { on := 6, ground := Ground.phase }, { on := 7, ground := Ground.phase }, { on := 8, ground := Ground.phase }], guard := none },
 { dst := none, op := Op.store 3 (Operand.tmp 263) (Operand.tmp 261), type := 0, pos := "path.go:549", after := #[{ on := 10, ground := Ground.data }, { on := 8, ground := Ground.data }, { on := 5, ground := Ground.chain }, { on := 0, ground := Ground.phase }, { on := 1, ground := Ground.phase }, { on := 2, ground := Ground.phase }, { on := 3, ground := Ground.phase }, { on := 4, ground := Ground.phase }, { on := 5, ground := Ground.phase }, { on := 6, ground := Ground.phase }, { on := 7, ground := Ground.phase }, { on := 8, ground := Ground.phase }], guard := none }]
set_option maxRecDepth 100000 in
set_option maxHeartbeats 4000000 in
theorem verRegM {Q:Exit→Act→World→Prop} {tm:Array Value} {ds:List Deferred} {w1:World} {g bo bR bS oS n oc cS kk i:Nat} {vk:Int} {p:ByteArray} {S:List En}
    (hQ: ∀c (a:Act) (d:Nat) v w,Q (.panic c) (a.put (some d) v) w→Q (.panic c) a w) (hsz:tm.size=281) (h13:tm.getD 13 undef= .pointer (some ⟨bo,0,none⟩)) (h33:tm.getD 33 undef= .int .i64 i) (hS:tm.getD 4 undef= .pointer (some ⟨bR,0,none⟩)) (h34:tm.getD 34 undef= .string p)
    (HB1: ∀W',w1.grownBy W' (some g)→W'.cell? ⟨bo,0,none⟩=some (.slice (some ⟨g,0,none⟩) n oc)) (HB2: ∀W',w1.grownBy W' (some g)→W'.cell? ⟨bR,0,none⟩=some (.slice (some ⟨bS,oS,none⟩) S.length cS)) (HB3: ∀W',w1.grownBy W' (some g)→W'.cell? ⟨bS,oS+kk*4+3,none⟩=some (.int .i64 vk))
    (HLO: ∀W',Below w1.heap.size w1 W'→ ∃u:Int,W'.cell? ⟨g,i*4+3,none⟩=some (.int .i64 u)∧W'.frozen? ⟨g,i*4+3,none⟩=false) (HL: ∀W',Below w1.heap.size w1 W'→Lies W' (.slice (some ⟨bS,oS,none⟩) S.length cS) S)
    (hidx:Pp.idx S p.data.toList=(kk:Int)) (hkk:(kk:Int)<S.length) (hi:(i:Int)<n)
    (K: ∀wq,Below w1.heap.size w1 wq→Q .normal ⟨(((((((((((tm.setIfInBounds 253 (.slice (some ⟨g,0,none⟩) n oc)).setIfInBounds 254 (.int .i64 i)).setIfInBounds 255 (.slice (some ⟨bS,oS,none⟩) S.length cS)).setIfInBounds 256 (.slice (some ⟨bS,oS,none⟩) S.length cS)).setIfInBounds 257 (.string p)).setIfInBounds 258 (.int .i64 kk)).setIfInBounds 259 (.pointer (some ⟨bS,oS+kk*4,none⟩))).setIfInBounds 260 (.pointer (some ⟨bS,oS+kk*4+3,none⟩))).setIfInBounds 261 (.int .i64 vk)).setIfInBounds 262 (.pointer (some ⟨g,i*4,none⟩))).setIfInBounds 263 (.pointer (some ⟨g,i*4+3,none⟩))),ds⟩ (wq.setCell ⟨g,i*4+3,none⟩ (.int .i64 vk))):
    (Code.region 66 verRegMOps true).wp Tryz.prog Q ⟨tm,ds⟩ w1:=by
 have hdr:Below w1.heap.size w1 w1.drew:=(Below.refl _ _).drew;have hdg:w1.grownBy w1.drew (some g):=⟨hdr.os,hdr.tape,hdr.output,hdr.size,fun b hb _=>hdr.block b hb⟩
 refine wp_region_held_drew (S:=fun W=>w1.grownBy W (some g)) (by kernel_rfl) hdg (fun hHeld=>?_)
 refine wpAnyH_take (i:=0) (oi:=⟨some 253,Op.load 22 (Operand.tmp 13),_,_,_,none⟩) (v:= .slice (some ⟨g,0,none⟩) n oc) rfl (by kernel_rfl) (by kernel_rfl) (by kernel_rfl) (fun c a w h=>hQ c a _ _ w h) (Or.inl ⟨by rfl,?_⟩) hHeld ?_
 · intro W hSw
   have f:=HB1 W hSw;have v13:(tm).getD 13 undef= .pointer (some ⟨bo,0,none⟩):=by simp only[getD_ne,getD_eq,Array.size_setIfInBounds,hsz,ne_eq,Nat.reduceEqDiff,not_false_eq_true,Nat.reduceLT,h13,h33,hS,h34]
   go_simp
 try simp only[Act.put]
 refine wpAnyH_take (i:=1) (oi:=⟨some 254,Op.move (Operand.tmp 33),_,_,_,none⟩) (v:= .int .i64 i) rfl (by kernel_rfl) (by kernel_rfl) (by kernel_rfl) (fun c a w h=>hQ c a _ _ w h) (Or.inl ⟨by rfl,?_⟩) hHeld ?_
 · intro W hSw
   have v33:((tm.setIfInBounds 253 (.slice (some ⟨g,0,none⟩) n oc))).getD 33 undef= .int .i64 i:=by simp only[getD_ne,getD_eq,Array.size_setIfInBounds,hsz,ne_eq,Nat.reduceEqDiff,not_false_eq_true,Nat.reduceLT,h13,h33,hS,h34]
   go_simp
 try simp only[Act.put]
 refine wpAnyH_take (i:=2) (oi:=⟨some 255,Op.load 22 (Operand.tmp 4),_,_,_,none⟩) (v:= .slice (some ⟨bS,oS,none⟩) S.length cS) rfl (by kernel_rfl) (by kernel_rfl) (by kernel_rfl) (fun c a w h=>hQ c a _ _ w h) (Or.inl ⟨by rfl,?_⟩) hHeld ?_
 · intro W hSw
   have f:=HB2 W hSw;have v4:(((tm.setIfInBounds 253 (.slice (some ⟨g,0,none⟩) n oc)).setIfInBounds 254 (.int .i64 i))).getD 4 undef= .pointer (some ⟨bR,0,none⟩):=by simp only[getD_ne,getD_eq,Array.size_setIfInBounds,hsz,ne_eq,Nat.reduceEqDiff,not_false_eq_true,Nat.reduceLT,h13,h33,hS,h34]
   go_simp
 try simp only[Act.put]
 refine wpAnyH_take (i:=3) (oi:=⟨some 256,Op.load 22 (Operand.tmp 4),_,_,_,none⟩) (v:= .slice (some ⟨bS,oS,none⟩) S.length cS) rfl (by kernel_rfl) (by kernel_rfl) (by kernel_rfl) (fun c a w h=>hQ c a _ _ w h) (Or.inl ⟨by rfl,?_⟩) hHeld ?_
 · intro W hSw
   have f:=HB2 W hSw;have v4:((((tm.setIfInBounds 253 (.slice (some ⟨g,0,none⟩) n oc)).setIfInBounds 254 (.int .i64 i)).setIfInBounds 255 (.slice (some ⟨bS,oS,none⟩) S.length cS))).getD 4 undef= .pointer (some ⟨bR,0,none⟩):=by simp only[getD_ne,getD_eq,Array.size_setIfInBounds,hsz,ne_eq,Nat.reduceEqDiff,not_false_eq_true,Nat.reduceLT,h13,h33,hS,h34]
   go_simp
 try simp only[Act.put]
 refine wpAnyH_take (i:=4) (oi:=⟨some 257,Op.move (Operand.tmp 34),_,_,_,none⟩) (v:= .string p) rfl (by kernel_rfl) (by kernel_rfl) (by kernel_rfl) (fun c a w h=>hQ c a _ _ w h) (Or.inl ⟨by rfl,?_⟩) hHeld ?_
 · intro W hSw
   have v34:(((((tm.setIfInBounds 253 (.slice (some ⟨g,0,none⟩) n oc)).setIfInBounds 254 (.int .i64 i)).setIfInBounds 255 (.slice (some ⟨bS,oS,none⟩) S.length cS)).setIfInBounds 256 (.slice (some ⟨bS,oS,none⟩) S.length cS))).getD 34 undef= .string p:=by simp only[getD_ne,getD_eq,Array.size_setIfInBounds,hsz,ne_eq,Nat.reduceEqDiff,not_false_eq_true,Nat.reduceLT,h13,h33,hS,h34]
   go_simp
 try simp only[Act.put]
 refine wpAnyH_ready (rs:=[5]) (by kernel_rfl) (by simp) ?_
 refine AllReadyH.cons (o:=⟨some 258,Op.call ⟨Callee.value (Operand.func 34),#[Operand.tmp 256,Operand.tmp 257],#[22,9]⟩,_,_,_,none⟩) rfl (fun K2 hK=>?_) AllReadyH.nil
 refine go_wanted rfl ?_
 have v256:((((((tm.setIfInBounds 253 (.slice (some ⟨g,0,none⟩) n oc)).setIfInBounds 254 (.int .i64 i)).setIfInBounds 255 (.slice (some ⟨bS,oS,none⟩) S.length cS)).setIfInBounds 256 (.slice (some ⟨bS,oS,none⟩) S.length cS)).setIfInBounds 257 (.string p))).getD 256 undef= .slice (some ⟨bS,oS,none⟩) S.length cS:=by simp only[getD_ne,getD_eq,Array.size_setIfInBounds,hsz,ne_eq,Nat.reduceEqDiff,not_false_eq_true,Nat.reduceLT,h13,h33,hS,h34]
 have v257:((((((tm.setIfInBounds 253 (.slice (some ⟨g,0,none⟩) n oc)).setIfInBounds 254 (.int .i64 i)).setIfInBounds 255 (.slice (some ⟨bS,oS,none⟩) S.length cS)).setIfInBounds 256 (.slice (some ⟨bS,oS,none⟩) S.length cS)).setIfInBounds 257 (.string p))).getD 257 undef= .string p:=by simp only[getD_ne,getD_eq,Array.size_setIfInBounds,hsz,ne_eq,Nat.reduceEqDiff,not_false_eq_true,Nat.reduceLT,h13,h33,hS,h34]
 go_simp
 refine(entryAt_any S _ p _ (HL _ hdr)).mono ?_
 rintro e wq ⟨rfl,hbq⟩;rw[hidx];have hbq2:=below_tr hdr hbq;have hgq:w1.grownBy wq (some g):=⟨hbq2.os,hbq2.tape,hbq2.output,hbq2.size,fun b hb _=>hbq2.block b hb⟩
 refine hK.out _ _ hgq (fun hHeld=>?_)
 clear hK K2 v256 v257;try simp only[Act.put]
 refine wpAnyH_take (i:=6) (oi:=⟨some 259,Op.indexAddr 22 (Operand.tmp 255) (Operand.tmp 258),_,_,_,none⟩) (v:= .pointer (some ⟨bS,oS+kk*4,none⟩)) rfl (by kernel_rfl) (by kernel_rfl) (by kernel_rfl) (fun c a w h=>hQ c a _ _ w h) (Or.inl ⟨by rfl,?_⟩) hHeld ?_
 · intro W hSw
   have v255:(((((((tm.setIfInBounds 253 (.slice (some ⟨g,0,none⟩) n oc)).setIfInBounds 254 (.int .i64 i)).setIfInBounds 255 (.slice (some ⟨bS,oS,none⟩) S.length cS)).setIfInBounds 256 (.slice (some ⟨bS,oS,none⟩) S.length cS)).setIfInBounds 257 (.string p)).setIfInBounds 258 (.int .i64 kk))).getD 255 undef= .slice (some ⟨bS,oS,none⟩) S.length cS:=by simp only[getD_ne,getD_eq,Array.size_setIfInBounds,hsz,ne_eq,Nat.reduceEqDiff,not_false_eq_true,Nat.reduceLT,h13,h33,hS,h34]
   have v258:(((((((tm.setIfInBounds 253 (.slice (some ⟨g,0,none⟩) n oc)).setIfInBounds 254 (.int .i64 i)).setIfInBounds 255 (.slice (some ⟨bS,oS,none⟩) S.length cS)).setIfInBounds 256 (.slice (some ⟨bS,oS,none⟩) S.length cS)).setIfInBounds 257 (.string p)).setIfInBounds 258 (.int .i64 kk))).getD 258 undef= .int .i64 kk:=by simp only[getD_ne,getD_eq,Array.size_setIfInBounds,hsz,ne_eq,Nat.reduceEqDiff,not_false_eq_true,Nat.reduceLT,h13,h33,hS,h34]
   go_simp
 try simp only[Act.put]
 refine wpAnyH_take (i:=7) (oi:=⟨some 260,Op.fieldAddr 27 (Operand.tmp 259) 3,_,_,_,none⟩) (v:= .pointer (some ⟨bS,oS+kk*4+3,none⟩)) rfl (by kernel_rfl) (by kernel_rfl) (by kernel_rfl) (fun c a w h=>hQ c a _ _ w h) (Or.inl ⟨by rfl,?_⟩) hHeld ?_
 · intro W hSw
   have v259:((((((((tm.setIfInBounds 253 (.slice (some ⟨g,0,none⟩) n oc)).setIfInBounds 254 (.int .i64 i)).setIfInBounds 255 (.slice (some ⟨bS,oS,none⟩) S.length cS)).setIfInBounds 256 (.slice (some ⟨bS,oS,none⟩) S.length cS)).setIfInBounds 257 (.string p)).setIfInBounds 258 (.int .i64 kk)).setIfInBounds 259 (.pointer (some ⟨bS,oS+kk*4,none⟩)))).getD 259 undef= .pointer (some ⟨bS,oS+kk*4,none⟩):=by simp only[getD_ne,getD_eq,Array.size_setIfInBounds,hsz,ne_eq,Nat.reduceEqDiff,not_false_eq_true,Nat.reduceLT,h13,h33,hS,h34]
   go_simp
 try simp only[Act.put]
 refine wpAnyH_take (i:=8) (oi:=⟨some 261,Op.load 3 (Operand.tmp 260),_,_,_,none⟩) (v:= .int .i64 vk) rfl (by kernel_rfl) (by kernel_rfl) (by kernel_rfl) (fun c a w h=>hQ c a _ _ w h) (Or.inl ⟨by rfl,?_⟩) hHeld ?_
 · intro W hSw
   have f:=HB3 W hSw;have v260:(((((((((tm.setIfInBounds 253 (.slice (some ⟨g,0,none⟩) n oc)).setIfInBounds 254 (.int .i64 i)).setIfInBounds 255 (.slice (some ⟨bS,oS,none⟩) S.length cS)).setIfInBounds 256 (.slice (some ⟨bS,oS,none⟩) S.length cS)).setIfInBounds 257 (.string p)).setIfInBounds 258 (.int .i64 kk)).setIfInBounds 259 (.pointer (some ⟨bS,oS+kk*4,none⟩))).setIfInBounds 260 (.pointer (some ⟨bS,oS+kk*4+3,none⟩)))).getD 260 undef= .pointer (some ⟨bS,oS+kk*4+3,none⟩):=by simp only[getD_ne,getD_eq,Array.size_setIfInBounds,hsz,ne_eq,Nat.reduceEqDiff,not_false_eq_true,Nat.reduceLT,h13,h33,hS,h34]
   go_simp
 try simp only[Act.put]
 refine wpAnyH_take (i:=9) (oi:=⟨some 262,Op.indexAddr 22 (Operand.tmp 253) (Operand.tmp 254),_,_,_,none⟩) (v:= .pointer (some ⟨g,i*4,none⟩)) rfl (by kernel_rfl) (by kernel_rfl) (by kernel_rfl) (fun c a w h=>hQ c a _ _ w h) (Or.inl ⟨by rfl,?_⟩) hHeld ?_
 · intro W hSw
   have v253:((((((((((tm.setIfInBounds 253 (.slice (some ⟨g,0,none⟩) n oc)).setIfInBounds 254 (.int .i64 i)).setIfInBounds 255 (.slice (some ⟨bS,oS,none⟩) S.length cS)).setIfInBounds 256 (.slice (some ⟨bS,oS,none⟩) S.length cS)).setIfInBounds 257 (.string p)).setIfInBounds 258 (.int .i64 kk)).setIfInBounds 259 (.pointer (some ⟨bS,oS+kk*4,none⟩))).setIfInBounds 260 (.pointer (some ⟨bS,oS+kk*4+3,none⟩))).setIfInBounds 261 (.int .i64 vk))).getD 253 undef= .slice (some ⟨g,0,none⟩) n oc:=by simp only[getD_ne,getD_eq,Array.size_setIfInBounds,hsz,ne_eq,Nat.reduceEqDiff,not_false_eq_true,Nat.reduceLT,h13,h33,hS,h34]
   have v254:((((((((((tm.setIfInBounds 253 (.slice (some ⟨g,0,none⟩) n oc)).setIfInBounds 254 (.int .i64 i)).setIfInBounds 255 (.slice (some ⟨bS,oS,none⟩) S.length cS)).setIfInBounds 256 (.slice (some ⟨bS,oS,none⟩) S.length cS)).setIfInBounds 257 (.string p)).setIfInBounds 258 (.int .i64 kk)).setIfInBounds 259 (.pointer (some ⟨bS,oS+kk*4,none⟩))).setIfInBounds 260 (.pointer (some ⟨bS,oS+kk*4+3,none⟩))).setIfInBounds 261 (.int .i64 vk))).getD 254 undef= .int .i64 i:=by simp only[getD_ne,getD_eq,Array.size_setIfInBounds,hsz,ne_eq,Nat.reduceEqDiff,not_false_eq_true,Nat.reduceLT,h13,h33,hS,h34]
   go_simp
 try simp only[Act.put]
 refine wpAnyH_take (i:=10) (oi:=⟨some 263,Op.fieldAddr 27 (Operand.tmp 262) 3,_,_,_,none⟩) (v:= .pointer (some ⟨g,i*4+3,none⟩)) rfl (by kernel_rfl) (by kernel_rfl) (by kernel_rfl) (fun c a w h=>hQ c a _ _ w h) (Or.inl ⟨by rfl,?_⟩) hHeld ?_
 · intro W hSw
   have v262:(((((((((((tm.setIfInBounds 253 (.slice (some ⟨g,0,none⟩) n oc)).setIfInBounds 254 (.int .i64 i)).setIfInBounds 255 (.slice (some ⟨bS,oS,none⟩) S.length cS)).setIfInBounds 256 (.slice (some ⟨bS,oS,none⟩) S.length cS)).setIfInBounds 257 (.string p)).setIfInBounds 258 (.int .i64 kk)).setIfInBounds 259 (.pointer (some ⟨bS,oS+kk*4,none⟩))).setIfInBounds 260 (.pointer (some ⟨bS,oS+kk*4+3,none⟩))).setIfInBounds 261 (.int .i64 vk)).setIfInBounds 262 (.pointer (some ⟨g,i*4,none⟩)))).getD 262 undef= .pointer (some ⟨g,i*4,none⟩):=by simp only[getD_ne,getD_eq,Array.size_setIfInBounds,hsz,ne_eq,Nat.reduceEqDiff,not_false_eq_true,Nat.reduceLT,h13,h33,hS,h34]
   go_simp
 try simp only[Act.put]
 obtain⟨tz,htz⟩: ∃x,x=(((((((((((tm.setIfInBounds 253 (.slice (some ⟨g,0,none⟩) n oc)).setIfInBounds 254 (.int .i64 i)).setIfInBounds 255 (.slice (some ⟨bS,oS,none⟩) S.length cS)).setIfInBounds 256 (.slice (some ⟨bS,oS,none⟩) S.length cS)).setIfInBounds 257 (.string p)).setIfInBounds 258 (.int .i64 kk)).setIfInBounds 259 (.pointer (some ⟨bS,oS+kk*4,none⟩))).setIfInBounds 260 (.pointer (some ⟨bS,oS+kk*4+3,none⟩))).setIfInBounds 261 (.int .i64 vk)).setIfInBounds 262 (.pointer (some ⟨g,i*4,none⟩))).setIfInBounds 263 (.pointer (some ⟨g,i*4+3,none⟩))):=⟨_,rfl⟩
 have v263:tz.getD 263 undef= .pointer (some ⟨g,i*4+3,none⟩):=by rw[htz];simp only[getD_ne,getD_eq,Array.size_setIfInBounds,hsz,ne_eq,Nat.reduceEqDiff,not_false_eq_true,Nat.reduceLT,h13,h33,hS,h34]
 have v261:tz.getD 261 undef= .int .i64 vk:=by rw[htz];simp only[getD_ne,getD_eq,Array.size_setIfInBounds,hsz,ne_eq,Nat.reduceEqDiff,not_false_eq_true,Nat.reduceLT,h13,h33,hS,h34]
 have K3:=K wq hbq2;rw[←htz]at K3⊢;clear K htz hsz h13 h33 hS h34;obtain⟨uv,t4,t5⟩:=HLO wq hbq2
 refine wpAnyH_ready (rs:=[11]) (by kernel_rfl) (by simp) ?_
 refine AllReadyH.cons (o:=⟨none,Op.store 3 (Operand.tmp 263) (Operand.tmp 261),_,_,_,none⟩) rfl (fun K2 hK=>?_) AllReadyH.nil
 refine go_wanted rfl ?_
 go_simp
 refine hK.out _ _ (grown_tr hgq (nb_set wq g (i*4+3) (.int .i64 vk))) (fun hHeld=>?_)
 refine wpAnyH_done (by kernel_rfl) ?_ _
 exact K3
def verRegTOps : Array Oper := #[{ dst := some 268, op := Op.load 22 (Operand.tmp 13), type := 22, pos := "path.go:552", after := #[], guard := none },
 { dst := some 269, op := Op.move (Operand.tmp 33), type := 3, pos := "path.go:552", after := #[], guard := none },
 { dst := some 270, op := Op.load 22 (Operand.tmp 5), type := 22, pos := "path.go:552", after := #[], guard := none },
 { dst := some 271, op := Op.load 22 (Operand.tmp 5), type := 22, pos := "path.go:552", after := #[], guard := none },
 { dst := some 272, op := Op.move (Operand.tmp 34), type := 9, pos := "path.go:552", after := #[], guard := none },
 { dst := some 273, op := Op.call { callee := Callee.value (Operand.func 34), args := #[Operand.tmp 271, Operand.tmp 272], argTypes := #[22, 9] }, type := 3, pos := "path.go:552", after := #[{ on := 3, ground := Ground.data }, { on := 4, ground := Ground.data }], guard := none },
 { dst := some 274, op := Op.indexAddr 22 (Operand.tmp 270) (Operand.tmp 273), type := 0, pos := "path.go:552", after := #[{ on := 2, ground := Ground.data }, { on := 5, ground := Ground.data }], guard := none },
 { dst := some 275, op := Op.fieldAddr 27 (Operand.tmp 274) 3, type := 0, pos := "path.go:552", after := #[{ on := 6, ground := Ground.data }], guard := none },
 { dst := some 276, op := Op.load 3 (Operand.tmp 275), type := 3, pos := "path.go:552", after := #[{ on := 7, ground := Ground.data }], guard := none },
 { dst := some 277, op := Op.indexAddr 22 (Operand.tmp 268) (Operand.tmp 269), type := 0, pos := "path.go:552", after := #[{ on := 0, ground := Ground.data }, { on := 1, ground := Ground.data }, { on := 0, ground := Ground.phase }, { on := 1, ground := Ground.phase }, { on := 2, ground := Ground.phase }, { on := 3, ground := Ground.phase }, { on := 4, ground := Ground.phase }, { on := 5, ground := Ground.phase }, { on := 6, ground := Ground.phase }, { on := 7, ground := Ground.phase }, { on := 8, ground := Ground.phase }], guard := none },
 { dst := some 278, op := Op.fieldAddr 27 (Operand.tmp 277) 3, type := 0, pos := "path.go:552", after := #[{ on := 9, ground := Ground.data }, { on := 0, ground := Ground.phase }, { on := 1, ground := Ground.phase }, { on := 2, ground := Ground.phase }, { on := 3, ground := Ground.phase }, { on := 4, ground := Ground.phase }, { on := 5, ground := Ground.phase }, { on := 6, ground := Ground.phase }, { on := 7, ground := Ground.phase }, { on := 8, ground := Ground.phase }], guard := none },
 { dst := none, op := Op.store 3 (Operand.tmp 278) (Operand.tmp 276), type := 0, pos := "path.go:552", after := #[{ on := 10, ground := Ground.data }, { on := 8, ground := Ground.data }, { on := 5, ground := Ground.chain }, { on := 0, ground := Ground.phase }, { on := 1, ground := Ground.phase }, { on := 2, ground := Ground.phase }, { on := 3, ground := Ground.phase }, { on := 4, ground := Ground.phase }, { on := 5, ground := Ground.phase }, { on := 6, ground := Ground.phase }, { on := 7, ground := Ground.phase }, { on := 8, ground := Ground.phase }], guard := none }]
set_option maxRecDepth 100000 in
set_option maxHeartbeats 4000000 in
theorem verRegT {Q:Exit→Act→World→Prop} {tm:Array Value} {ds:List Deferred} {w1:World} {g bo bR bS oS n oc cS kk i:Nat} {vk:Int} {p:ByteArray} {S:List En}
    (hQ: ∀c (a:Act) (d:Nat) v w,Q (.panic c) (a.put (some d) v) w→Q (.panic c) a w) (hsz:tm.size=281) (h13:tm.getD 13 undef= .pointer (some ⟨bo,0,none⟩)) (h33:tm.getD 33 undef= .int .i64 i) (hS:tm.getD 5 undef= .pointer (some ⟨bR,0,none⟩)) (h34:tm.getD 34 undef= .string p)
    (HB1: ∀W',w1.grownBy W' (some g)→W'.cell? ⟨bo,0,none⟩=some (.slice (some ⟨g,0,none⟩) n oc)) (HB2: ∀W',w1.grownBy W' (some g)→W'.cell? ⟨bR,0,none⟩=some (.slice (some ⟨bS,oS,none⟩) S.length cS)) (HB3: ∀W',w1.grownBy W' (some g)→W'.cell? ⟨bS,oS+kk*4+3,none⟩=some (.int .i64 vk))
    (HLO: ∀W',Below w1.heap.size w1 W'→ ∃u:Int,W'.cell? ⟨g,i*4+3,none⟩=some (.int .i64 u)∧W'.frozen? ⟨g,i*4+3,none⟩=false) (HL: ∀W',Below w1.heap.size w1 W'→Lies W' (.slice (some ⟨bS,oS,none⟩) S.length cS) S)
    (hidx:Pp.idx S p.data.toList=(kk:Int)) (hkk:(kk:Int)<S.length) (hi:(i:Int)<n)
    (K: ∀wq,Below w1.heap.size w1 wq→Q .normal ⟨(((((((((((tm.setIfInBounds 268 (.slice (some ⟨g,0,none⟩) n oc)).setIfInBounds 269 (.int .i64 i)).setIfInBounds 270 (.slice (some ⟨bS,oS,none⟩) S.length cS)).setIfInBounds 271 (.slice (some ⟨bS,oS,none⟩) S.length cS)).setIfInBounds 272 (.string p)).setIfInBounds 273 (.int .i64 kk)).setIfInBounds 274 (.pointer (some ⟨bS,oS+kk*4,none⟩))).setIfInBounds 275 (.pointer (some ⟨bS,oS+kk*4+3,none⟩))).setIfInBounds 276 (.int .i64 vk)).setIfInBounds 277 (.pointer (some ⟨g,i*4,none⟩))).setIfInBounds 278 (.pointer (some ⟨g,i*4+3,none⟩))),ds⟩ (wq.setCell ⟨g,i*4+3,none⟩ (.int .i64 vk))):
    (Code.region 68 verRegTOps true).wp Tryz.prog Q ⟨tm,ds⟩ w1:=by
 have hdr:Below w1.heap.size w1 w1.drew:=(Below.refl _ _).drew;have hdg:w1.grownBy w1.drew (some g):=⟨hdr.os,hdr.tape,hdr.output,hdr.size,fun b hb _=>hdr.block b hb⟩
 refine wp_region_held_drew (S:=fun W=>w1.grownBy W (some g)) (by kernel_rfl) hdg (fun hHeld=>?_)
 refine wpAnyH_take (i:=0) (oi:=⟨some 268,Op.load 22 (Operand.tmp 13),_,_,_,none⟩) (v:= .slice (some ⟨g,0,none⟩) n oc) rfl (by kernel_rfl) (by kernel_rfl) (by kernel_rfl) (fun c a w h=>hQ c a _ _ w h) (Or.inl ⟨by rfl,?_⟩) hHeld ?_
 · intro W hSw
   have f:=HB1 W hSw;have v13:(tm).getD 13 undef= .pointer (some ⟨bo,0,none⟩):=by simp only[getD_ne,getD_eq,Array.size_setIfInBounds,hsz,ne_eq,Nat.reduceEqDiff,not_false_eq_true,Nat.reduceLT,h13,h33,hS,h34]
   go_simp
 try simp only[Act.put]
 refine wpAnyH_take (i:=1) (oi:=⟨some 269,Op.move (Operand.tmp 33),_,_,_,none⟩) (v:= .int .i64 i) rfl (by kernel_rfl) (by kernel_rfl) (by kernel_rfl) (fun c a w h=>hQ c a _ _ w h) (Or.inl ⟨by rfl,?_⟩) hHeld ?_
 · intro W hSw
   have v33:((tm.setIfInBounds 268 (.slice (some ⟨g,0,none⟩) n oc))).getD 33 undef= .int .i64 i:=by simp only[getD_ne,getD_eq,Array.size_setIfInBounds,hsz,ne_eq,Nat.reduceEqDiff,not_false_eq_true,Nat.reduceLT,h13,h33,hS,h34]
   go_simp
 try simp only[Act.put]
 refine wpAnyH_take (i:=2) (oi:=⟨some 270,Op.load 22 (Operand.tmp 5),_,_,_,none⟩) (v:= .slice (some ⟨bS,oS,none⟩) S.length cS) rfl (by kernel_rfl) (by kernel_rfl) (by kernel_rfl) (fun c a w h=>hQ c a _ _ w h) (Or.inl ⟨by rfl,?_⟩) hHeld ?_
 · intro W hSw
   have f:=HB2 W hSw;have v5:(((tm.setIfInBounds 268 (.slice (some ⟨g,0,none⟩) n oc)).setIfInBounds 269 (.int .i64 i))).getD 5 undef= .pointer (some ⟨bR,0,none⟩):=by simp only[getD_ne,getD_eq,Array.size_setIfInBounds,hsz,ne_eq,Nat.reduceEqDiff,not_false_eq_true,Nat.reduceLT,h13,h33,hS,h34]
   go_simp
 try simp only[Act.put]
 refine wpAnyH_take (i:=3) (oi:=⟨some 271,Op.load 22 (Operand.tmp 5),_,_,_,none⟩) (v:= .slice (some ⟨bS,oS,none⟩) S.length cS) rfl (by kernel_rfl) (by kernel_rfl) (by kernel_rfl) (fun c a w h=>hQ c a _ _ w h) (Or.inl ⟨by rfl,?_⟩) hHeld ?_
 · intro W hSw
   have f:=HB2 W hSw;have v5:((((tm.setIfInBounds 268 (.slice (some ⟨g,0,none⟩) n oc)).setIfInBounds 269 (.int .i64 i)).setIfInBounds 270 (.slice (some ⟨bS,oS,none⟩) S.length cS))).getD 5 undef= .pointer (some ⟨bR,0,none⟩):=by simp only[getD_ne,getD_eq,Array.size_setIfInBounds,hsz,ne_eq,Nat.reduceEqDiff,not_false_eq_true,Nat.reduceLT,h13,h33,hS,h34]
   go_simp
 try simp only[Act.put]
 refine wpAnyH_take (i:=4) (oi:=⟨some 272,Op.move (Operand.tmp 34),_,_,_,none⟩) (v:= .string p) rfl (by kernel_rfl) (by kernel_rfl) (by kernel_rfl) (fun c a w h=>hQ c a _ _ w h) (Or.inl ⟨by rfl,?_⟩) hHeld ?_
 · intro W hSw
   have v34:(((((tm.setIfInBounds 268 (.slice (some ⟨g,0,none⟩) n oc)).setIfInBounds 269 (.int .i64 i)).setIfInBounds 270 (.slice (some ⟨bS,oS,none⟩) S.length cS)).setIfInBounds 271 (.slice (some ⟨bS,oS,none⟩) S.length cS))).getD 34 undef= .string p:=by simp only[getD_ne,getD_eq,Array.size_setIfInBounds,hsz,ne_eq,Nat.reduceEqDiff,not_false_eq_true,Nat.reduceLT,h13,h33,hS,h34]
   go_simp
 try simp only[Act.put]
 refine wpAnyH_ready (rs:=[5]) (by kernel_rfl) (by simp) ?_
 refine AllReadyH.cons (o:=⟨some 273,Op.call ⟨Callee.value (Operand.func 34),#[Operand.tmp 271,Operand.tmp 272],#[22,9]⟩,_,_,_,none⟩) rfl (fun K2 hK=>?_) AllReadyH.nil
 refine go_wanted rfl ?_
 have v271:((((((tm.setIfInBounds 268 (.slice (some ⟨g,0,none⟩) n oc)).setIfInBounds 269 (.int .i64 i)).setIfInBounds 270 (.slice (some ⟨bS,oS,none⟩) S.length cS)).setIfInBounds 271 (.slice (some ⟨bS,oS,none⟩) S.length cS)).setIfInBounds 272 (.string p))).getD 271 undef= .slice (some ⟨bS,oS,none⟩) S.length cS:=by simp only[getD_ne,getD_eq,Array.size_setIfInBounds,hsz,ne_eq,Nat.reduceEqDiff,not_false_eq_true,Nat.reduceLT,h13,h33,hS,h34]
 have v272:((((((tm.setIfInBounds 268 (.slice (some ⟨g,0,none⟩) n oc)).setIfInBounds 269 (.int .i64 i)).setIfInBounds 270 (.slice (some ⟨bS,oS,none⟩) S.length cS)).setIfInBounds 271 (.slice (some ⟨bS,oS,none⟩) S.length cS)).setIfInBounds 272 (.string p))).getD 272 undef= .string p:=by simp only[getD_ne,getD_eq,Array.size_setIfInBounds,hsz,ne_eq,Nat.reduceEqDiff,not_false_eq_true,Nat.reduceLT,h13,h33,hS,h34]
 go_simp
 refine(entryAt_any S _ p _ (HL _ hdr)).mono ?_
 rintro e wq ⟨rfl,hbq⟩;rw[hidx];have hbq2:=below_tr hdr hbq;have hgq:w1.grownBy wq (some g):=⟨hbq2.os,hbq2.tape,hbq2.output,hbq2.size,fun b hb _=>hbq2.block b hb⟩
 refine hK.out _ _ hgq (fun hHeld=>?_)
 clear hK K2 v271 v272;try simp only[Act.put]
 refine wpAnyH_take (i:=6) (oi:=⟨some 274,Op.indexAddr 22 (Operand.tmp 270) (Operand.tmp 273),_,_,_,none⟩) (v:= .pointer (some ⟨bS,oS+kk*4,none⟩)) rfl (by kernel_rfl) (by kernel_rfl) (by kernel_rfl) (fun c a w h=>hQ c a _ _ w h) (Or.inl ⟨by rfl,?_⟩) hHeld ?_
 · intro W hSw
   have v270:(((((((tm.setIfInBounds 268 (.slice (some ⟨g,0,none⟩) n oc)).setIfInBounds 269 (.int .i64 i)).setIfInBounds 270 (.slice (some ⟨bS,oS,none⟩) S.length cS)).setIfInBounds 271 (.slice (some ⟨bS,oS,none⟩) S.length cS)).setIfInBounds 272 (.string p)).setIfInBounds 273 (.int .i64 kk))).getD 270 undef= .slice (some ⟨bS,oS,none⟩) S.length cS:=by simp only[getD_ne,getD_eq,Array.size_setIfInBounds,hsz,ne_eq,Nat.reduceEqDiff,not_false_eq_true,Nat.reduceLT,h13,h33,hS,h34]
   have v273:(((((((tm.setIfInBounds 268 (.slice (some ⟨g,0,none⟩) n oc)).setIfInBounds 269 (.int .i64 i)).setIfInBounds 270 (.slice (some ⟨bS,oS,none⟩) S.length cS)).setIfInBounds 271 (.slice (some ⟨bS,oS,none⟩) S.length cS)).setIfInBounds 272 (.string p)).setIfInBounds 273 (.int .i64 kk))).getD 273 undef= .int .i64 kk:=by simp only[getD_ne,getD_eq,Array.size_setIfInBounds,hsz,ne_eq,Nat.reduceEqDiff,not_false_eq_true,Nat.reduceLT,h13,h33,hS,h34]
   go_simp
 try simp only[Act.put]
 refine wpAnyH_take (i:=7) (oi:=⟨some 275,Op.fieldAddr 27 (Operand.tmp 274) 3,_,_,_,none⟩) (v:= .pointer (some ⟨bS,oS+kk*4+3,none⟩)) rfl (by kernel_rfl) (by kernel_rfl) (by kernel_rfl) (fun c a w h=>hQ c a _ _ w h) (Or.inl ⟨by rfl,?_⟩) hHeld ?_
 · intro W hSw
   have v274:((((((((tm.setIfInBounds 268 (.slice (some ⟨g,0,none⟩) n oc)).setIfInBounds 269 (.int .i64 i)).setIfInBounds 270 (.slice (some ⟨bS,oS,none⟩) S.length cS)).setIfInBounds 271 (.slice (some ⟨bS,oS,none⟩) S.length cS)).setIfInBounds 272 (.string p)).setIfInBounds 273 (.int .i64 kk)).setIfInBounds 274 (.pointer (some ⟨bS,oS+kk*4,none⟩)))).getD 274 undef= .pointer (some ⟨bS,oS+kk*4,none⟩):=by simp only[getD_ne,getD_eq,Array.size_setIfInBounds,hsz,ne_eq,Nat.reduceEqDiff,not_false_eq_true,Nat.reduceLT,h13,h33,hS,h34]
   go_simp
 try simp only[Act.put]
 refine wpAnyH_take (i:=8) (oi:=⟨some 276,Op.load 3 (Operand.tmp 275),_,_,_,none⟩) (v:= .int .i64 vk) rfl (by kernel_rfl) (by kernel_rfl) (by kernel_rfl) (fun c a w h=>hQ c a _ _ w h) (Or.inl ⟨by rfl,?_⟩) hHeld ?_
 · intro W hSw
   have f:=HB3 W hSw;have v275:(((((((((tm.setIfInBounds 268 (.slice (some ⟨g,0,none⟩) n oc)).setIfInBounds 269 (.int .i64 i)).setIfInBounds 270 (.slice (some ⟨bS,oS,none⟩) S.length cS)).setIfInBounds 271 (.slice (some ⟨bS,oS,none⟩) S.length cS)).setIfInBounds 272 (.string p)).setIfInBounds 273 (.int .i64 kk)).setIfInBounds 274 (.pointer (some ⟨bS,oS+kk*4,none⟩))).setIfInBounds 275 (.pointer (some ⟨bS,oS+kk*4+3,none⟩)))).getD 275 undef= .pointer (some ⟨bS,oS+kk*4+3,none⟩):=by simp only[getD_ne,getD_eq,Array.size_setIfInBounds,hsz,ne_eq,Nat.reduceEqDiff,not_false_eq_true,Nat.reduceLT,h13,h33,hS,h34]
   go_simp
 try simp only[Act.put]
 refine wpAnyH_take (i:=9) (oi:=⟨some 277,Op.indexAddr 22 (Operand.tmp 268) (Operand.tmp 269),_,_,_,none⟩) (v:= .pointer (some ⟨g,i*4,none⟩)) rfl (by kernel_rfl) (by kernel_rfl) (by kernel_rfl) (fun c a w h=>hQ c a _ _ w h) (Or.inl ⟨by rfl,?_⟩) hHeld ?_
 · intro W hSw
   have v268:((((((((((tm.setIfInBounds 268 (.slice (some ⟨g,0,none⟩) n oc)).setIfInBounds 269 (.int .i64 i)).setIfInBounds 270 (.slice (some ⟨bS,oS,none⟩) S.length cS)).setIfInBounds 271 (.slice (some ⟨bS,oS,none⟩) S.length cS)).setIfInBounds 272 (.string p)).setIfInBounds 273 (.int .i64 kk)).setIfInBounds 274 (.pointer (some ⟨bS,oS+kk*4,none⟩))).setIfInBounds 275 (.pointer (some ⟨bS,oS+kk*4+3,none⟩))).setIfInBounds 276 (.int .i64 vk))).getD 268 undef= .slice (some ⟨g,0,none⟩) n oc:=by simp only[getD_ne,getD_eq,Array.size_setIfInBounds,hsz,ne_eq,Nat.reduceEqDiff,not_false_eq_true,Nat.reduceLT,h13,h33,hS,h34]
   have v269:((((((((((tm.setIfInBounds 268 (.slice (some ⟨g,0,none⟩) n oc)).setIfInBounds 269 (.int .i64 i)).setIfInBounds 270 (.slice (some ⟨bS,oS,none⟩) S.length cS)).setIfInBounds 271 (.slice (some ⟨bS,oS,none⟩) S.length cS)).setIfInBounds 272 (.string p)).setIfInBounds 273 (.int .i64 kk)).setIfInBounds 274 (.pointer (some ⟨bS,oS+kk*4,none⟩))).setIfInBounds 275 (.pointer (some ⟨bS,oS+kk*4+3,none⟩))).setIfInBounds 276 (.int .i64 vk))).getD 269 undef= .int .i64 i:=by simp only[getD_ne,getD_eq,Array.size_setIfInBounds,hsz,ne_eq,Nat.reduceEqDiff,not_false_eq_true,Nat.reduceLT,h13,h33,hS,h34]
   go_simp
 try simp only[Act.put]
 refine wpAnyH_take (i:=10) (oi:=⟨some 278,Op.fieldAddr 27 (Operand.tmp 277) 3,_,_,_,none⟩) (v:= .pointer (some ⟨g,i*4+3,none⟩)) rfl (by kernel_rfl) (by kernel_rfl) (by kernel_rfl) (fun c a w h=>hQ c a _ _ w h) (Or.inl ⟨by rfl,?_⟩) hHeld ?_
 · intro W hSw
   have v277:(((((((((((tm.setIfInBounds 268 (.slice (some ⟨g,0,none⟩) n oc)).setIfInBounds 269 (.int .i64 i)).setIfInBounds 270 (.slice (some ⟨bS,oS,none⟩) S.length cS)).setIfInBounds 271 (.slice (some ⟨bS,oS,none⟩) S.length cS)).setIfInBounds 272 (.string p)).setIfInBounds 273 (.int .i64 kk)).setIfInBounds 274 (.pointer (some ⟨bS,oS+kk*4,none⟩))).setIfInBounds 275 (.pointer (some ⟨bS,oS+kk*4+3,none⟩))).setIfInBounds 276 (.int .i64 vk)).setIfInBounds 277 (.pointer (some ⟨g,i*4,none⟩)))).getD 277 undef= .pointer (some ⟨g,i*4,none⟩):=by simp only[getD_ne,getD_eq,Array.size_setIfInBounds,hsz,ne_eq,Nat.reduceEqDiff,not_false_eq_true,Nat.reduceLT,h13,h33,hS,h34]
   go_simp
 try simp only[Act.put]
 obtain⟨tz,htz⟩: ∃x,x=(((((((((((tm.setIfInBounds 268 (.slice (some ⟨g,0,none⟩) n oc)).setIfInBounds 269 (.int .i64 i)).setIfInBounds 270 (.slice (some ⟨bS,oS,none⟩) S.length cS)).setIfInBounds 271 (.slice (some ⟨bS,oS,none⟩) S.length cS)).setIfInBounds 272 (.string p)).setIfInBounds 273 (.int .i64 kk)).setIfInBounds 274 (.pointer (some ⟨bS,oS+kk*4,none⟩))).setIfInBounds 275 (.pointer (some ⟨bS,oS+kk*4+3,none⟩))).setIfInBounds 276 (.int .i64 vk)).setIfInBounds 277 (.pointer (some ⟨g,i*4,none⟩))).setIfInBounds 278 (.pointer (some ⟨g,i*4+3,none⟩))):=⟨_,rfl⟩
 have v278:tz.getD 278 undef= .pointer (some ⟨g,i*4+3,none⟩):=by rw[htz];simp only[getD_ne,getD_eq,Array.size_setIfInBounds,hsz,ne_eq,Nat.reduceEqDiff,not_false_eq_true,Nat.reduceLT,h13,h33,hS,h34]
 have v276:tz.getD 276 undef= .int .i64 vk:=by rw[htz];simp only[getD_ne,getD_eq,Array.size_setIfInBounds,hsz,ne_eq,Nat.reduceEqDiff,not_false_eq_true,Nat.reduceLT,h13,h33,hS,h34]
 have K3:=K wq hbq2;rw[←htz]at K3⊢;clear K htz hsz h13 h33 hS h34;obtain⟨uv,t4,t5⟩:=HLO wq hbq2
 refine wpAnyH_ready (rs:=[11]) (by kernel_rfl) (by simp) ?_
 refine AllReadyH.cons (o:=⟨none,Op.store 3 (Operand.tmp 278) (Operand.tmp 276),_,_,_,none⟩) rfl (fun K2 hK=>?_) AllReadyH.nil
 refine go_wanted rfl ?_
 go_simp
 refine hK.out _ _ (grown_tr hgq (nb_set wq g (i*4+3) (.int .i64 vk))) (fun hHeld=>?_)
 refine wpAnyH_done (by kernel_rfl) ?_ _
 exact K3
end Go.Proofs.YtagibnejodgeeaaGreatDoor
