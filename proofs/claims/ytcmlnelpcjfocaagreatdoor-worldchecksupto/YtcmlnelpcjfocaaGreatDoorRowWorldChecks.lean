/- The law WorldChecks holds: Check and Settled answer just what the document says, errors too, whatever world it is handed (it holds together at most 1048576 values and letters). -/
import Derived.Test.YtcmlnelpcjfocaaGreatDoorWYZT
import Derived.Test.YtcmlnelpcjfocaaGreatDoorWYZS
import Derived.Test.YtcmlnelpcjfocaaGreatDoorWYZJ
import Derived.Test.YtcmlnelpcjfocaaGreatDoorCards
import Derived.Test.YtcmlnelpcjfocaaGreatDoorTie
import Derived.WalkKit
import Derived.ProofKit
import Derived.OpenShut
import Derived.JoinedCond
import Derived.Carry
import Derived.SizedLaws
import Derived.Deep.DeepHandedRow
set_option linter.unusedSimpArgs false
set_option linter.unusedVariables false
namespace Go.Proofs.YtcmlnelpcjfocaaGreatDoor.worldChecks
open Go.ChangeShapes Go.WideShapes Go.ChangeAt Go.RowKit
open Go.ChangeMaps (open_string shut_string)

theorem own:ownKnob Tryz.prog.godebug=none:=by kernel_rfl
theorem laidOut:laidOutB Tryz.prog=true:=by kernel_rfl
set_option maxRecDepth 100000 in
theorem contract (H:Type) (enc:TypeId×Value→H) (W:World) (base:Nat) (args:Array Value) (ds gs:List (DataW H)) (before:List MemPlace)
    (hval: ∀(j:Nat) t v,Tryz.f3.params[j]?=some t→args[j]?=some v→Value.okWide Tryz.prog W .any base t v)
    (hW:DataW.Whole enc Tryz.prog Tryz.f3.params.toList Rows.worldChecksSpec.vars false W args.toList ds gs before) (hk:Rows.uptoSmall H (ds++gs)=true) (hkw:(DataW.weightsEach Tryz.prog (Tryz.f3.params.toList++(Rows.OpenSpec.upto Rows.worldChecksSpec).bare.plain.varTypes Tryz.prog) (ds++gs)).all (· ≤reachBytes)=true) (htab:aX W∧5<W.heap.size):
    Calls Tryz.prog 3 args W fun e W'=> ∃v,e= .returned v∧Rows.worldChecksSpec.post enc Tryz.prog Tryz.f3 false true false false W args v W':=by
 have hW':=hW;obtain⟨p,q,hA0,hV,rfl,hfz,hnd⟩:=hW
 have hA:DataW.TrodAll enc Tryz.prog W 0 (fun _=>true) true Tryz.f3.params.toList args.toList ds p:=hA0;rw[Tryz.params3]at hA hval hkw;obtain⟨v0,vs0,d0,ds0,p0,br,hargs,rfl,rfl,h0,r0⟩:=trodAll_cons hA
 obtain⟨rfl,rfl,rfl⟩:=trodAll_nil r0
 obtain rfl:args= #[v0]:=by cases args;simp_all
 obtain⟨rfl,rfl⟩:=trodVars_none hV
 clear hA0;simp only[List.append_nil]at hW';have hsum:=of_decide_eq_true hk;simp only[List.append_nil,Rows.uptoBulkAll,Nat.add_zero]at hsum;have h0k:=h0;have hlt0: ∀x∈p0,x.block<W.heap.size:=fun x hx=>hW'.lt x (by simp[hx])
 have hk0: ∀n∈DataW.weights Tryz.prog 32 d0,n≤reachBytes:=fun n hn=>by
  have:=List.all_eq_true.1 hkw n (DataW.weights_mem_each (j:=0) (t:=32) rfl rfl n hn)
  simpa using this
 obtain⟨W0,hl0,⟨hF0,hG0,hS0⟩,hC0,hL0⟩:=Iu (B:=1048576) (by decide) (hval 0 32 v0 rfl rfl) h0 (by omega) hk0
 have hz0:iA W0:=⟨⟨fun s hs=>⟨by have:=(hF0 s hs).1;omega,(fun e he=>⟨by have:=((hF0 s hs).2.1 e he).1;omega,by have:=((hF0 s hs).2.1 e he).2;omega⟩),(hF0 s hs).2.2.mono (by decide)⟩,hG0,hS0⟩,fun c hc=>⟨by have:=(hC0 c hc).1;omega,by have:=(hC0 c hc).2.1;omega,by have:=(hC0 c hc).2.2.1;omega,(fun e he=>⟨by have:=((hC0 c hc).2.2.2.1 e he).1;omega,by have:=((hC0 c hc).2.2.2.1 e he).2;omega⟩),(fun e he=>⟨by have:=((hC0 c hc).2.2.2.2 e he).1;omega,by have:=((hC0 c hc).2.2.2.2 e he).2;omega⟩)⟩,fun x hx=>by have:=hL0 x hx;omega⟩
 have hB0: ∀c∈W0.cls,(∀e∈c.base,e.path.size≤1000000000)∧ ∀e∈c.mine,e.path.size≤1000000000:=fun c hc=>⟨fun e he=>by have:=((hC0 c hc).2.2.2.1 e he).1;omega,fun e he=>by have:=((hC0 c hc).2.2.2.2 e he).1;omega⟩
 refine(Ii W0 _ W hl0 hz0 hF0 hB0 htab.2 htab.1).mono fun e W' ⟨he,hb⟩=>?_
 subst he;exact⟨_,rfl,_,_,_,[],_,[],hW',trodAll_cons_mk (shut_bool Tryz.underlying4 _) trodAll_mk0,(trodAll_cons_mk (Below.trod laidOut (by kernel_rfl) (of_decide_eq_true (by kernel_rfl)) h0k hb hlt0) trodAll_mk0),rfl,hb.frame _,fun h=>by cases h⟩
set_option maxRecDepth 100000 in
theorem liftedUpto (os:Os) (started:os.Started) (H:Type) (enc:TypeId×Value→H) (F:Stop.Interp):
    ReturnsInHanded {} Tryz.checked os 3 .any ((Rows.OpenSpec.upto Rows.worldChecksSpec).preRow enc Tryz.prog Tryz.f3 Rows.worldChecksUptoRow.domain false Rows.worldChecksUptoRow.laid) (((Rows.OpenSpec.upto Rows.worldChecksSpec).at F).post enc Tryz.prog Tryz.f3 false true false false):=by
 refine returnsInHanded_of_row (C:=Tryz.checked) (s:=Rows.OpenSpec.upto Rows.worldChecksSpec) own started (by kernel_rfl) Tryz.func3 ?_ ?_
 · refine witness_row_at (enc:=enc) (C:=Tryz.checked) false
    {World.holding Tryz.prog os ⟨yC,#[],[]⟩with heap:=FY (World.holding Tryz.prog os ⟨yC,#[],[]⟩).heap}
    #[.agg #[.slice none 0 0,.slice none 0 0,.slice none 0 0,.int .i64 0,.int .i64 0,.int .i64 0,.int .i64 0,.slice none 0 0,.slice none 0 0]] rfl (by kernel_rfl) (by kernel_rfl) (by kernel_rfl)
    (OpenSpec.preRow_of_cond (x:=([.agg [.agg [.nil,.nil,.agg [.nil,.lit (.int .i64 0),.lit (.int .i64 0),.lit (.int .i64 0)],.lit (.int .i64 0)],.nil,.nil]],[],[])) 8 (by kernel_rfl) (by kernel_rfl) (fun k hk=>by cases hk;kernel_rfl) (by kernel_rfl) (laidMet_of_run' 8 (by kernel_rfl) (by kernel_rfl)))
 intro W base args ds gs before hval hW _ hcond hsz hlaid _ _;exact contract H enc W base args ds gs before hval hW (hcond _ rfl) hsz (FZ hlaid)
set_option maxHeartbeats 8000000 in
theorem saidUpto:Rows.WorldChecksUptoSaid:=
 OpenClaim.holds_of_cond 3 Tryz.f3 rfl rfl rfl rfl rfl rfl rfl ⟨rfl,rfl,rfl,rfl,rfl⟩ rfl rfl rfl rfl rfl (by as_aux_lemma=>kernel_rfl) Tryz.func3 (by unfold joinedFacts;simp only[Bool.and_eq_true];and_intros;all_goals (as_aux_lemma=>kernel_rfl))
  (of_decide_eq_true (by kernel_rfl)) (by unfold Func.isWrapper;first|(rw[if_pos (by decide+kernel)];kernel_rfl)|(rw[if_neg (by decide+kernel)];exact⟨rfl,rfl⟩))
  (fun os started H enc _ F=>by rw[OpenClaim.pre_eq_preRow];exact liftedUpto os started H enc F)
theorem plain (f:FuncId) (fn:Func) (hf:Tryz.pinned.checked.prog.funcNamed Rows.worldChecksUptoRow.func=some f) (hfn:Tryz.pinned.checked.prog.funcs[f]?=some fn):
    true=Tryz.pinned.checked.prog.looks []∧ ∀(j:Nat) t,fn.params[j]?=some t→Tryz.pinned.checked.prog.wantsStandIn t=false:=by
 obtain rfl:f=3:=Option.some.inj ((show Tryz.prog.funcNamed Rows.worldChecksUptoRow.func=some 3 by kernel_rfl).symm.trans hf)|>.symm;obtain rfl:fn=Tryz.f3:=(Option.some.inj (Tryz.func3.symm.trans hfn)).symm;refine⟨by kernel_rfl,fun j t ht=>?_⟩
 rw[Tryz.params3]at ht;obtain rfl:t=32:=by simpa using Array.mem_of_getElem? ht
 exact(show Tryz.prog.wantsStandIn 32=false by kernel_rfl)
theorem goes_none {P:Program} (h:P.funcs.any Func.goes=false) (f:FuncId):P.goes f=false:=by
 unfold Program.goes;rw[h,Bool.and_false,Bool.or_false,List.any_eq_false];intro g _;cases hf:P.funcs[g]? with
 |none=>simp
 |some fn=>
  have:=(Array.any_eq_false.1 h) g (Array.getElem?_eq_some_iff.1 hf).1
  rw[(Array.getElem?_eq_some_iff.1 hf).2]at this;simpa using this
theorem goesFrom_none {P:Program} (h:P.funcs.any Func.goes=false) (n:String):P.goesFrom n=false:=by
 unfold Program.goesFrom;cases P.funcNamed n with
 |none=>rfl
 |some f=>exact goes_none h f
theorem no_go:Tryz.prog.funcs.any Func.goes=false:=by kernel_rfl
theorem fF:false=Rows.worldChecksUptoRow.goesBy Tryz.pinned.checked.prog:=by
 show false=(Tryz.prog.goesFrom Rows.worldChecksUptoRow.func||false)
 rw[goesFrom_none no_go];rfl
theorem cardUpto:Rows.WorldChecksUptoCardSaid:=
 Claim7.holds_tied_plain_at .later [] _ _ _ _ saidUpto (fun _ h=>by cases h) (by kernel_rfl) (fun _ h=>by cases h) worldChecksUpto_row_tie rfl ⟨rfl,rfl⟩ (by kernel_rfl) rfl plain fF
end Go.Proofs.YtcmlnelpcjfocaaGreatDoor.worldChecks
namespace Go.Proofs.YtcmlnelpcjfocaaGreatDoor
theorem worldChecks_holds:Rows.WorldChecksUptoCardSaid:=worldChecks.cardUpto
end Go.Proofs.YtcmlnelpcjfocaaGreatDoor
