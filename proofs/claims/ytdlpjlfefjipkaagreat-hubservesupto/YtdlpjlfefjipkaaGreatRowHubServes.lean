/- The law HubServes holds: for every hub and request of bulk at most 1048576 together Serve answers just what the document says, errors too; and the arguments read afterwards as they did. -/
import Derived.Test.YtdlpjlfefjipkaaGreatHFSC
import Derived.Test.YtdlpjlfefjipkaaGreatRows
import Derived.Test.YtdlpjlfefjipkaaGreatHFXHOpen
import Derived.Test.YtdlpjlfefjipkaaGreatHFXHOpenQ
import Derived.WalkKit
import Derived.ProofKit
import Derived.OpenShut
import Derived.JoinedCond
import Derived.Carry
import Derived.SizedLaws
import Derived.Deep.CondSized
set_option linter.unusedSimpArgs false
set_option linter.unusedVariables false
namespace Go.Proofs.YtdlpjlfefjipkaaGreat.hubServes
open Go.ChangeShapes Go.WideShapes Go.ChangeAt Go.RowKit
open Go.ChangeMaps (open_string shut_string)

theorem own:ownKnob Tryz.prog.godebug=none:=by kernel_rfl
theorem laidOut:laidOutB Tryz.prog=true:=by kernel_rfl
set_option maxRecDepth 100000 in
theorem contract (H:Type) (enc:TypeId×Value→H) (W:World) (base:Nat) (args:Array Value) (ds gs:List (DataW H)) (before:List MemPlace)
    (hval: ∀(j:Nat) t v,Tryz.f3.params[j]?=some t→args[j]?=some v→Value.okWide Tryz.prog W .any base t v)
    (hW:DataW.Whole enc Tryz.prog Tryz.f3.params.toList Rows.hubServesSpec.vars false W args.toList ds gs before) (hk:(DataW.weightsEach Tryz.prog (Tryz.f3.params.toList++Rows.hubServesSpec.plain.varTypes Tryz.prog) (ds++gs)).all (· ≤reachBytes)=true) (hks:Rows.uptoSmall H (ds++gs)=true):
    Calls Tryz.prog 3 args W fun e W'=> ∃v,e= .returned v∧Rows.hubServesSpec.post enc Tryz.prog Tryz.f3 false true false false W args v W':=by
 have hW':=hW;obtain⟨p,q,hA0,hV,rfl,hfz,hnd⟩:=hW
 have hA:DataW.TrodAll enc Tryz.prog W 0 (fun _=>true) true Tryz.f3.params.toList args.toList ds p:=hA0;rw[Tryz.params3]at hA hval hk;obtain⟨v0,vs0,d0,ds0,p0,q0,hargs,rfl,rfl,h0,r0⟩:=trodAll_cons hA
 obtain⟨v1,vs1,d1,ds1,p1,q1,rfl,rfl,rfl,h1,r1⟩:=trodAll_cons r0
 obtain⟨rfl,rfl,rfl⟩:=trodAll_nil r1
 obtain rfl:args= #[v0,v1]:=by cases args;simp_all
 obtain⟨rfl,rfl⟩:=trodVars_none hV
 clear hA0;simp only[List.append_nil]at hW';have hrb:reachBytes=140737488351232:=by decide
 have hsum:=of_decide_eq_true hks;simp only[List.append_nil,Rows.uptoBulkAll,Nat.add_zero]at hsum
 have hk0: ∀n∈DataW.weights Tryz.prog 28 d0,n≤reachBytes:=fun n hn=>by
  have:=List.all_eq_true.1 hk n (DataW.weights_mem_each (j:=0) (t:=28) rfl rfl n hn)
  simpa using this
 have hk1: ∀n∈DataW.weights Tryz.prog 31 d1,n≤reachBytes:=fun n hn=>by
  have:=List.all_eq_true.1 hk n (DataW.weights_mem_each (j:=1) (t:=31) rfl rfl n hn)
  simpa using this
 have h0k:=h0;have hlt0: ∀x∈p0,x.block<W.heap.size:=fun x hx=>hW'.lt x (by simp[hx])
 have h1k:=h1;have hlt1: ∀x∈p1,x.block<W.heap.size:=fun x hx=>hW'.lt x (by simp[hx])
 obtain⟨H0,hl0,hF0,hG0,hS0⟩:=EA (B:=1048576) (by decide) (hval 0 28 v0 rfl rfl) h0 (by omega) hk0
 have hz0:dd H0:=⟨fun s hs=>⟨by have:=(hF0 s hs).1;omega,(fun e he=>⟨by have:=((hF0 s hs).2.1 e he).1;omega,by have:=((hF0 s hs).2.1 e he).2;omega⟩),(hF0 s hs).2.2.mono (by decide)⟩,hG0,hS0⟩
 have hu0:=hF0;obtain⟨Q1,hl1,⟨a1,b1,c1,e1,f1⟩,hC1⟩:=EB (B:=1048576) (by decide) (hval 1 31 v1 rfl rfl) h1 (by omega)
 have hu1:=hC1;have hz1:cE Q1:=⟨by omega,by omega,by omega,by omega,by omega,fun x hx=>⟨by have:=(hC1 x hx).1;omega,by have:=(hC1 x hx).2.1;omega,by have:=(hC1 x hx).2.2;omega⟩⟩
 refine(Eo H0 Q1 _ _ W hl0 hz0 hl1 hz1 hu0 ⟨c1,hu1⟩).mono fun e W' ⟨he,hb⟩=>?_
 subst he;exact⟨_,rfl,_,_,_,[],_,[],hW',trodAll_cons_mk (shut_bool Tryz.underlying4 _) trodAll_mk0,(trodAll_cons_mk (Below.trod laidOut (by kernel_rfl) (of_decide_eq_true (by kernel_rfl)) h0k hb hlt0) (trodAll_cons_mk (Below.trod laidOut (by kernel_rfl) (of_decide_eq_true (by kernel_rfl)) h1k hb hlt1) trodAll_mk0)),rfl,hb.frame _,fun h=>by cases h⟩
set_option maxRecDepth 100000 in
theorem liftedUpto (os:Os) (started:os.Started) (H:Type) (enc:TypeId×Value→H) (F:Stop.Interp):
    ReturnsInHanded {} Tryz.checked os 3 .any ((Rows.OpenSpec.upto Rows.hubServesSpec).pre6 enc Tryz.prog Tryz.f3 Rows.hubServesUptoRow.domain false) (((Rows.OpenSpec.upto Rows.hubServesSpec).at F).post enc Tryz.prog Tryz.f3 false true false false):=by
 refine returnsInHanded_of_cond_sized (C:=Tryz.checked) (s:=Rows.OpenSpec.upto Rows.hubServesSpec) (k:=Rows.uptoSmall) rfl own started (by kernel_rfl) Tryz.func3
  (OpenSpec.witness (enc:=enc) (C:=Tryz.checked) (s:=Rows.OpenSpec.upto Rows.hubServesSpec) (k:=Rows.uptoSmall) rfl false ⟨#[],#[.agg #[.slice none 0 0,.slice none 0 0,.slice none 0 0,.int .i64 0,.int .i64 0,.int .i64 0,.int .i64 0],.agg #[.int .i64 0,.string ⟨#[]⟩,.string ⟨#[]⟩,.string ⟨#[]⟩,.string ⟨#[]⟩,.string ⟨#[]⟩,.int .i64 0,.int .i64 0,.int .i64 0,.slice none 0 0]],[]⟩ 8 (by kernel_rfl) (by kernel_rfl) (by kernel_rfl) (x:=([.agg [.nil,.nil,.agg [.nil,.lit (.int .i64 0),.lit (.int .i64 0),.lit (.int .i64 0)],.lit (.int .i64 0)],.agg [.lit (.int .i64 0),.lit (.string []),.lit (.string []),.lit (.string []),.lit (.string []),.lit (.string []),.lit (.int .i64 0),.lit (.int .i64 0),.lit (.int .i64 0),.nil]],[],[])) (by kernel_rfl) (by kernel_rfl) (by kernel_rfl)) ?_
 intro W base args ds gs before hval hW _ hk hsz _;exact contract H enc W base args ds gs before hval hW hsz hk
theorem saidUpto:Rows.HubServesUptoSaid:=
 OpenClaim.holds_of_cond 3 Tryz.f3 rfl rfl rfl rfl rfl rfl rfl ⟨rfl,rfl,rfl,rfl,rfl⟩ rfl rfl rfl rfl rfl (by kernel_rfl) Tryz.func3 (by kernel_rfl)
  (of_decide_eq_true (by kernel_rfl)) (by unfold Func.isWrapper;first|(rw[if_pos (by decide+kernel)];kernel_rfl)|(rw[if_neg (by decide+kernel)];exact⟨rfl,rfl⟩))
  (fun os started H enc _ F=>by rw[OpenClaim.pre_of_none' rfl];exact liftedUpto os started H enc F)
end Go.Proofs.YtdlpjlfefjipkaaGreat.hubServes
namespace Go.Proofs.YtdlpjlfefjipkaaGreat
theorem hubServes_holds:Rows.HubServesUptoSaid:=hubServes.saidUpto
#print axioms hubServes_holds
end Go.Proofs.YtdlpjlfefjipkaaGreat
