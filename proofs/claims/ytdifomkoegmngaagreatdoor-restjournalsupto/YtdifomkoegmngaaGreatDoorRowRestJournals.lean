/- The law RestJournals holds, for journals, changes and texts of up to so many bytes: what came, and was changed, comes again, and changes nothing that was handed in. -/
import Derived.Test.YtdifomkoegmngaaGreatDoorRKX
import Derived.Test.YtdifomkoegmngaaGreatDoorRKY
import Derived.Test.YtdifomkoegmngaaGreatDoorCards
import Derived.Test.YtdifomkoegmngaaGreatDoorTie
import Derived.WalkKit
import Derived.ProofKit
import Derived.OpenShut
import Derived.JoinedCond
import Derived.Carry
import Derived.SizedLaws
import Derived.Deep.DeepHandedRow
set_option linter.unusedSimpArgs false
set_option linter.unusedVariables false
namespace Go.Proofs.YtdifomkoegmngaaGreatDoor.restJournals
open Go.ChangeShapes Go.WideShapes Go.ChangeAt Go.RowKit
open Go.ChangeMaps (open_string shut_string)

theorem own:ownKnob Tryz.prog.godebug=none:=by kernel_rfl
theorem laidOut:laidOutB Tryz.prog=true:=by kernel_rfl
set_option maxRecDepth 100000 in
theorem contract (H:Type) (enc:TypeId×Value→H) (W:World) (base:Nat) (args:Array Value) (ds gs:List (DataW H)) (before:List MemPlace)
    (hval: ∀(j:Nat) t v,Tryz.f3.params[j]?=some t→args[j]?=some v→Value.okWide Tryz.prog W .any base t v)
    (hW:DataW.Whole enc Tryz.prog Tryz.f3.params.toList Rows.restJournalsSpec.vars false W args.toList ds gs before) (hk:Rows.uptoSmall H (ds++gs)=true) (htab:VarsW W∧5<W.heap.size):
    Calls Tryz.prog 3 args W fun e W'=> ∃v,e= .returned v∧Rows.restJournalsSpec.post enc Tryz.prog Tryz.f3 false true false false W args v W':=by
 have hW':=hW;obtain⟨p,q,hA0,hV,rfl,hfz,hnd⟩:=hW
 have hA:DataW.TrodAll enc Tryz.prog W 0 (fun _=>true) true Tryz.f3.params.toList args.toList ds p:=hA0;rw[Tryz.params3]at hA hval;obtain⟨v0,vs0,d0,ds0,p0,q0,hargs,rfl,rfl,h0,r0⟩:=trodAll_cons hA
 obtain⟨v1,vs1,d1,ds1,p1,q1,rfl,rfl,rfl,h1,r1⟩:=trodAll_cons r0
 obtain⟨v2,vs2,d2,ds2,p2,q2,rfl,rfl,rfl,h2,r2⟩:=trodAll_cons r1
 obtain⟨v3,vs3,d3,ds3,p3,q3,rfl,rfl,rfl,h3,r3⟩:=trodAll_cons r2
 obtain⟨v4,vs4,d4,ds4,p4,q4,rfl,rfl,rfl,h4,r4⟩:=trodAll_cons r3
 obtain⟨rfl,rfl,rfl⟩:=trodAll_nil r4
 obtain rfl:args= #[v0,v1,v2,v3,v4]:=by cases args;simp_all
 obtain⟨rfl,rfl⟩:=trodVars_none hV
 clear hA0;obtain⟨x1,rfl,rfl,rfl,hx1⟩:=open_string Tryz.underlying9 (hval 1 9 v1 rfl rfl) h1
 obtain⟨x3,rfl,rfl,rfl,hx3⟩:=open_int Tryz.underlying3 (hval 3 3 v3 rfl rfl) h3
 obtain⟨x4,rfl,rfl,rfl,hx4⟩:=open_string Tryz.underlying9 (hval 4 9 v4 rfl rfl) h4
 simp only[List.append_nil]at hW';have hsum:=of_decide_eq_true hk;simp only[List.append_nil,Rows.uptoBulkAll,Nat.add_zero]at hsum;have h0k:=h0;have hlt0: ∀x∈p0,x.block<W.heap.size:=fun x hx=>hW'.lt x (by simp[hx])
 have hz1:x1.size≤1048576:=by
  have e:Rows.uptoBulk (.lit (.string x1.data.toList):DataW H)=x1.size+1:=by rw[Rows.uptoBulk,Lib.size_eq]
  omega
 have h2k:=h2;have hlt2: ∀x∈p2,x.block<W.heap.size:=fun x hx=>hW'.lt x (by simp[hx])
 have hz4:x4.size≤1048576:=by
  have e:Rows.uptoBulk (.lit (.string x4.data.toList):DataW H)=x4.size+1:=by rw[Rows.uptoBulk,Lib.size_eq]
  omega
 obtain⟨J0,hl0,hn0,hz0⟩:=open_journal (B:=1048576) (by decide) (hval 0 25 v0 rfl rfl) h0 (by omega)
 obtain⟨a2,len2,cap2,rfl⟩:=okWide_slice Tryz.underlying26 (hval 2 26 v2 rfl rfl)
 obtain⟨fuel2,hf2⟩:=h2
 obtain⟨C2,hl2,hn2,hz2⟩:=open_changes (B:=1048576) (by decide) (fuel:=fuel2) (by simpa[Value.cells]using hf2) (by omega)
 refine(restJournals_walk J0 _ x1 C2 _ x3 x4 W hl0 hl2 (fun e he=>⟨by have:=(hz0.2 e he).1;omega,by have:=(hz0.2 e he).2;omega⟩) (hz0.1.mono (by decide)) (fun c hc=>⟨Nat.le_trans (hz2 c hc).1 (by decide),Nat.le_trans (hz2 c hc).2.1 (by decide),Nat.le_trans (hz2 c hc).2.2 (by decide)⟩) (by omega) hn2 (by unfold MaxL;omega) htab.2 htab.1).mono fun e W' ⟨he,hb⟩=>?_
 subst he;exact⟨_,rfl,_,_,_,[],_,[],hW',trodAll_cons_mk (shut_bool Tryz.underlying4 _) trodAll_mk0,(trodAll_cons_mk (Below.trod laidOut (by kernel_rfl) (of_decide_eq_true (by kernel_rfl)) h0k hb hlt0) (trodAll_cons_mk (shut_string Tryz.underlying9 hx1) (trodAll_cons_mk (Below.trod laidOut (by kernel_rfl) (of_decide_eq_true (by kernel_rfl)) h2k hb hlt2) (trodAll_cons_mk (shut_int Tryz.underlying3 hx3) (trodAll_cons_mk (shut_string Tryz.underlying9 hx4) trodAll_mk0))))),rfl,hb.frame _,fun h=>by cases h⟩
set_option maxRecDepth 100000 in
theorem liftedUpto (os:Os) (started:os.Started) (H:Type) (enc:TypeId×Value→H) (F:Stop.Interp):
    ReturnsInHanded {} Tryz.checked os 3 .any ((Rows.OpenSpec.upto Rows.restJournalsSpec).preRow enc Tryz.prog Tryz.f3 Rows.restJournalsUptoRow.domain false Rows.restJournalsUptoRow.laid) (((Rows.OpenSpec.upto Rows.restJournalsSpec).at F).post enc Tryz.prog Tryz.f3 false true false false):=by
 refine returnsInHanded_of_row (C:=Tryz.checked) (s:=Rows.OpenSpec.upto Rows.restJournalsSpec) own started (by kernel_rfl) Tryz.func3 ?_ ?_
 · refine witness_row_at (enc:=enc) (C:=Tryz.checked) false
    {World.holding Tryz.prog os ⟨Pp.texts,#[],[]⟩with heap:=Pp.tabs (World.holding Tryz.prog os ⟨Pp.texts,#[],[]⟩).heap}
    #[.agg #[.slice none 0 0,.int .i64 0,.slice none 0 0],.string ⟨#[]⟩,.slice none 0 0,.int .i64 0,.string ⟨#[]⟩] rfl (by kernel_rfl) (by kernel_rfl) (by kernel_rfl)
    (OpenSpec.preRow_of_cond (x:=([.agg [.nil,.lit (.int .i64 0),.nil],.lit (.string []),.nil,.lit (.int .i64 0),.lit (.string [])],[],[])) 8 (by kernel_rfl) (by kernel_rfl) (fun k hk=>by cases hk;kernel_rfl) (by kernel_rfl) (laidMet_of_run' 8 (by kernel_rfl) (by kernel_rfl)))
 intro W base args ds gs before hval hW _ hcond _ hlaid _ _;exact contract H enc W base args ds gs before hval hW (hcond _ rfl) (Pp.vars_of_laid hlaid)
set_option maxHeartbeats 8000000 in
theorem saidUpto:Rows.RestJournalsUptoSaid:=
 OpenClaim.holds_of_cond 3 Tryz.f3 rfl rfl rfl rfl rfl rfl rfl ⟨rfl,rfl,rfl,rfl,rfl⟩ rfl rfl rfl rfl rfl (by as_aux_lemma=>kernel_rfl) Tryz.func3 (by unfold joinedFacts;simp only[Bool.and_eq_true];and_intros;all_goals (as_aux_lemma=>kernel_rfl))
  (of_decide_eq_true (by kernel_rfl)) (by unfold Func.isWrapper;first|(rw[if_pos (by decide+kernel)];kernel_rfl)|(rw[if_neg (by decide+kernel)];exact⟨rfl,rfl⟩))
  (fun os started H enc _ F=>by rw[OpenClaim.pre_eq_preRow];exact liftedUpto os started H enc F)
theorem plain (f:FuncId) (fn:Func) (hf:Tryz.pinned.checked.prog.funcNamed Rows.restJournalsUptoRow.func=some f) (hfn:Tryz.pinned.checked.prog.funcs[f]?=some fn):
    true=Tryz.pinned.checked.prog.looks []∧ ∀(j:Nat) t,fn.params[j]?=some t→Tryz.pinned.checked.prog.wantsStandIn t=false:=by
 obtain rfl:f=3:=Option.some.inj ((show Tryz.prog.funcNamed Rows.restJournalsUptoRow.func=some 3 by kernel_rfl).symm.trans hf)|>.symm;obtain rfl:fn=Tryz.f3:=(Option.some.inj (Tryz.func3.symm.trans hfn)).symm;refine⟨by kernel_rfl,fun j t ht=>?_⟩
 rw[Tryz.params3]at ht;have hm:t=25∨t=9∨t=26∨t=3∨t=9:=by simpa using Array.mem_of_getElem? ht
 rcases hm with rfl|rfl|rfl|rfl|rfl
 · exact(show Tryz.prog.wantsStandIn 25=false by kernel_rfl)
 · exact(show Tryz.prog.wantsStandIn 9=false by kernel_rfl)
 · exact(show Tryz.prog.wantsStandIn 26=false by kernel_rfl)
 · exact(show Tryz.prog.wantsStandIn 3=false by kernel_rfl)
 · exact(show Tryz.prog.wantsStandIn 9=false by kernel_rfl)
theorem cardUpto:Rows.RestJournalsUptoCardSaid:=
 Claim7.holds_tied_plain_at .later [] _ _ _ _ saidUpto (fun _ h=>by cases h) (by kernel_rfl) (fun _ h=>by cases h) restJournalsUpto_row_tie rfl ⟨rfl,rfl⟩ (by kernel_rfl) rfl plain (by kernel_rfl)
end Go.Proofs.YtdifomkoegmngaaGreatDoor.restJournals
namespace Go.Proofs.YtdifomkoegmngaaGreatDoor
theorem restJournals_holds:Rows.RestJournalsUptoCardSaid:=restJournals.cardUpto
end Go.Proofs.YtdifomkoegmngaaGreatDoor
