/- The law HubAsks holds: whoever writes a request, hands the hub its text and reads the text that comes back has what Serve answers. -/
import Derived.Test.YtppdfeehhnofaaaGreatDoorHAZO
import Derived.Test.YtppdfeehhnofaaaGreatDoorHAZP
import Derived.Test.YtppdfeehhnofaaaGreatDoorHAZQ
import Derived.Test.YtppdfeehhnofaaaGreatDoorCards
import Derived.Test.YtppdfeehhnofaaaGreatDoorTie
import Derived.WalkKit
import Derived.ProofKit
import Derived.OpenShut
import Derived.JoinedCond
import Derived.Carry
import Derived.SizedLaws
import Derived.Deep.DeepHandedRow
set_option linter.unusedSimpArgs false
set_option linter.unusedVariables false
namespace Go.Proofs.YtppdfeehhnofaaaGreatDoor.hubAsks
open Go.ChangeShapes Go.WideShapes Go.ChangeAt Go.RowKit
open Go.ChangeMaps (open_string shut_string)

theorem own:ownKnob Tryz.prog.godebug=none:=by kernel_rfl
theorem laidOut:laidOutB Tryz.prog=true:=by kernel_rfl
set_option maxRecDepth 100000 in
theorem contract (H:Type) (enc:TypeId×Value→H) (W:World) (base:Nat) (args:Array Value) (ds gs:List (DataW H)) (before:List MemPlace)
    (hval: ∀(j:Nat) t v,Tryz.f3.params[j]?=some t→args[j]?=some v→Value.okWide Tryz.prog W .any base t v)
    (hW:DataW.Whole enc Tryz.prog Tryz.f3.params.toList Rows.hubAsksSpec.vars false W args.toList ds gs before) (hk:(DataW.weightsEach Tryz.prog (Tryz.f3.params.toList++(OpenSpec.ofChange Rows.hubAsksSpec).bare.plain.varTypes Tryz.prog) (ds++gs)).all (· ≤reachBytes)=true) (htab:VarsW W∧5<W.heap.size):
    Calls Tryz.prog 3 args W fun e W'=> ∃v,e= .returned v∧Rows.hubAsksSpec.post enc Tryz.prog Tryz.f3 false true false false W args v W':=by
 have hW':=hW;obtain⟨p,q,hA0,hV,rfl,hfz,hnd⟩:=hW
 have hA:DataW.TrodAll enc Tryz.prog W 0 (fun _=>true) true Tryz.f3.params.toList args.toList ds p:=hA0;rw[Tryz.params3]at hA hval hk;obtain⟨v0,vs0,d0,ds0,p0,q0,hargs,rfl,rfl,h0,r0⟩:=trodAll_cons hA
 obtain⟨v1,vs1,d1,ds1,p1,q1,rfl,rfl,rfl,h1,r1⟩:=trodAll_cons r0
 obtain⟨rfl,rfl,rfl⟩:=trodAll_nil r1
 obtain rfl:args= #[v0,v1]:=by cases args;simp_all
 obtain⟨rfl,rfl⟩:=trodVars_none hV
 clear hA0;simp only[List.append_nil]at hW';have h0k:=h0;have hlt0: ∀x∈p0,x.block<W.heap.size:=fun x hx=>hW'.lt x (by simp[hx])
 have h1k:=h1;have hlt1: ∀x∈p1,x.block<W.heap.size:=fun x hx=>hW'.lt x (by simp[hx])
 have hk0: ∀n∈DataW.weights Tryz.prog 28 d0,n≤reachBytes:=fun n hn=>by
  have:=List.all_eq_true.1 hk n (DataW.weights_mem_each (j:=0) (t:=28) rfl rfl n hn)
  simpa using this
 obtain⟨H0,hl0,hF0,hG0,hS0⟩:=open_hub_w (hval 0 28 v0 rfl rfl) h0 hk0
 have hrb0:reachBytes=140737488351232:=by decide
 rw[hrb0]at hF0;have hz0:SizedH H0:=⟨fun s hs=>⟨by have:=(hF0 s hs).1;omega,(fun e he=>⟨by have:=((hF0 s hs).2.1 e he).1;omega,by have:=((hF0 s hs).2.1 e he).2;omega⟩),(hF0 s hs).2.2.mono (by decide)⟩,hG0,hS0⟩
 have hk1: ∀n∈DataW.weights Tryz.prog 31 d1,n≤reachBytes:=fun n hn=>by
  have:=List.all_eq_true.1 hk n (DataW.weights_mem_each (j:=1) (t:=31) rfl rfl n hn)
  simpa using this
 obtain⟨Q1,hl1,hs1,⟨qa1,qb1,qc1,qd1,qe1⟩,hC1⟩:=open_requestX (hval 1 31 v1 rfl rfl) h1 hk1
 have hrq1:reachBytes=140737488351232:=by decide
 rw[hrq1]at hC1;have hz1:SizedQ Q1:=⟨by omega,by omega,by omega,by omega,by omega,fun x hx=>⟨by have:=(hC1 x hx).1;omega,by have:=(hC1 x hx).2.1;omega,by have:=(hC1 x hx).2.2;omega⟩⟩
 refine(hubAsks_walk H0 Q1 _ _ W hl0 hz0 hl1 hz1 hs1 htab.2 htab.1).mono fun e W' ⟨he,hb⟩=>?_
 subst he;exact⟨_,rfl,_,_,_,[],_,[],hW',trodAll_cons_mk (shut_bool Tryz.underlying4 _) trodAll_mk0,(trodAll_cons_mk (Below.trod laidOut (by kernel_rfl) (of_decide_eq_true (by kernel_rfl)) h0k hb hlt0) (trodAll_cons_mk (Below.trod laidOut (by kernel_rfl) (of_decide_eq_true (by kernel_rfl)) h1k hb hlt1) trodAll_mk0)),rfl,hb.frame _,fun h=>by cases h⟩
set_option maxRecDepth 100000 in
theorem lifted (os:Os) (started:os.Started) (H:Type) (enc:TypeId×Value→H) (F:Stop.Interp):
    ReturnsInHanded {} Tryz.checked os 3 .any ((OpenSpec.ofChange Rows.hubAsksSpec).preRow enc Tryz.prog Tryz.f3 Rows.hubAsksRow.domain false Rows.hubAsksRow.laid) (((OpenSpec.ofChange Rows.hubAsksSpec).at F).post enc Tryz.prog Tryz.f3 false true false false):=by
 refine returnsInHanded_of_row (C:=Tryz.checked) (s:=OpenSpec.ofChange Rows.hubAsksSpec) own started (by kernel_rfl) Tryz.func3 ?_ ?_
 · refine witness_row_at (enc:=enc) (C:=Tryz.checked) false
    {World.holding Tryz.prog os ⟨Pp.texts,#[],[]⟩with heap:=Pp.tabs (World.holding Tryz.prog os ⟨Pp.texts,#[],[]⟩).heap}
    #[.agg #[.slice none 0 0,.slice none 0 0,.slice none 0 0,.int .i64 0,.int .i64 0,.int .i64 0,.int .i64 0],.agg #[.int .i64 0,.string ⟨#[]⟩,.string ⟨#[]⟩,.string ⟨#[]⟩,.string ⟨#[]⟩,.string ⟨#[]⟩,.int .i64 0,.int .i64 0,.int .i64 0,.slice none 0 0]] rfl (by kernel_rfl) (by kernel_rfl) (by kernel_rfl)
    (OpenSpec.preRow_of_cond (x:=([.agg [.nil,.nil,.agg [.nil,.lit (.int .i64 0),.lit (.int .i64 0),.lit (.int .i64 0)],.lit (.int .i64 0)],.agg [.lit (.int .i64 0),.lit (.string []),.lit (.string []),.lit (.string []),.lit (.string []),.lit (.string []),.lit (.int .i64 0),.lit (.int .i64 0),.lit (.int .i64 0),.nil]],[],[])) 8 (by kernel_rfl) (by kernel_rfl) (fun k hk=>by cases hk) (by kernel_rfl) (laidMet_of_run' 8 (by kernel_rfl) (by kernel_rfl)))
 intro W base args ds gs before hval hW _ _ hsz hlaid _ _;exact contract H enc W base args ds gs before hval hW hsz (Pp.vars_of_laid hlaid)
set_option maxHeartbeats 8000000 in
theorem said:Rows.HubAsksSaid:=
 OpenClaim.holds_of_cond 3 Tryz.f3 rfl rfl rfl rfl rfl rfl rfl ⟨rfl,rfl,rfl,rfl,rfl⟩ rfl rfl rfl rfl rfl (by as_aux_lemma=>kernel_rfl) Tryz.func3 (by unfold joinedFacts;simp only[Bool.and_eq_true];and_intros;all_goals (as_aux_lemma=>kernel_rfl))
  (of_decide_eq_true (by kernel_rfl)) (by unfold Func.isWrapper;first|(rw[if_pos (by decide+kernel)];kernel_rfl)|(rw[if_neg (by decide+kernel)];exact⟨rfl,rfl⟩))
  (fun os started H enc _ F=>by rw[OpenClaim.pre_eq_preRow];exact lifted os started H enc F)
theorem plain (f:FuncId) (fn:Func) (hf:Tryz.pinned.checked.prog.funcNamed Rows.hubAsksRow.func=some f) (hfn:Tryz.pinned.checked.prog.funcs[f]?=some fn):
    true=Tryz.pinned.checked.prog.looks []∧ ∀(j:Nat) t,fn.params[j]?=some t→Tryz.pinned.checked.prog.wantsStandIn t=false:=by
 obtain rfl:f=3:=Option.some.inj ((show Tryz.prog.funcNamed Rows.hubAsksRow.func=some 3 by kernel_rfl).symm.trans hf)|>.symm;obtain rfl:fn=Tryz.f3:=(Option.some.inj (Tryz.func3.symm.trans hfn)).symm;refine⟨by kernel_rfl,fun j t ht=>?_⟩
 rw[Tryz.params3]at ht;have hm:t=28∨t=31:=by simpa using Array.mem_of_getElem? ht
 rcases hm with rfl|rfl
 · exact(show Tryz.prog.wantsStandIn 28=false by kernel_rfl)
 · exact(show Tryz.prog.wantsStandIn 31=false by kernel_rfl)
theorem card:Rows.HubAsksCardSaid:=
 Claim7.holds_tied_plain_at .later [] _ _ _ _ said (fun _ h=>by cases h) (by kernel_rfl) (fun _ h=>by cases h) hubAsks_row_tie rfl ⟨rfl,rfl⟩ (by kernel_rfl) rfl plain (by kernel_rfl)
end Go.Proofs.YtppdfeehhnofaaaGreatDoor.hubAsks
namespace Go.Proofs.YtppdfeehhnofaaaGreatDoor
theorem hubAsks_holds:Rows.HubAsksCardSaid:=hubAsks.card
end Go.Proofs.YtppdfeehhnofaaaGreatDoor
