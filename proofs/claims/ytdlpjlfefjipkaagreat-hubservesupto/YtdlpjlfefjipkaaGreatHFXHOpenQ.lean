/- A request that is handed in, by its bulk. -/
import Derived.Test.YtdlpjlfefjipkaaGreatHFXHOpen
set_option linter.unusedSimpArgs false
set_option linter.unusedVariables false
namespace Go.Proofs.YtdlpjlfefjipkaaGreat
open Go.ChangeShapes Go.WideShapes Go.ChangeAt Go.RowKit Go.Proofs.Tryz
set_option maxRecDepth 100000
theorem EB {B:Nat} (hB:B≤1000000000) {H:Type} {enc:TypeId×Value→H} {W:World} {r:Reach} {b0:Nat} {v:Value} {d:DataW H} {P:List MemPlace} (hv:Value.okWide prog W r b0 31 v) (h:DataW.Trod enc prog W 0 (fun _=>true) true 31 v d P) (hk:Rows.uptoBulk d≤B):
    ∃q:Rq,bH W v q∧(q.who.size≤B∧q.fo.size≤B∧q.name.size≤B∧q.key.size≤B∧q.text.size≤B)∧dV B q.ch:=by
 obtain⟨cs,rfl,E0⟩:=okWide_struct underlying31 hv
 obtain⟨f,hf⟩:=h
 have A:DataW.trod enc prog W 0 (fun _=>true) true f 31 cs.toList=some (d,P):=by simpa[Value.cells]using hf
 obtain⟨y0,y1,y2,y3,y4,y5,y6,y7,y8,y9,a,E1,O,c,Q,R,S,T,U,V,X,Y,Z,t9⟩:=Ev underlying31 A
 rw[Tryz.cellsRq]at c;obtain⟨J,K,c2,c3,c4,c5,M,c7,N,x,g⟩:=Er c
 rw[g]at Q R S T U V X Y Z t9;have q0:DataW.trod enc prog W 0 (fun _=>true) true a 3 [J]=some y0:=by simpa[Tryz.cells3]using Q
 have q1:DataW.trod enc prog W 0 (fun _=>true) true a 9 [K]=some y1:=by simpa[Tryz.cells9]using R
 have q2:DataW.trod enc prog W 0 (fun _=>true) true a 9 [c2]=some y2:=by simpa[Tryz.cells9]using S
 have q3:DataW.trod enc prog W 0 (fun _=>true) true a 9 [c3]=some y3:=by simpa[Tryz.cells9]using T
 have q4:DataW.trod enc prog W 0 (fun _=>true) true a 9 [c4]=some y4:=by simpa[Tryz.cells9]using U
 have q5:DataW.trod enc prog W 0 (fun _=>true) true a 9 [c5]=some y5:=by simpa[Tryz.cells9]using V
 have q6:DataW.trod enc prog W 0 (fun _=>true) true a 3 [M]=some y6:=by simpa[Tryz.cells3]using X
 have q7:DataW.trod enc prog W 0 (fun _=>true) true a 3 [c7]=some y7:=by simpa[Tryz.cells3]using Y
 have q8:DataW.trod enc prog W 0 (fun _=>true) true a 3 [N]=some y8:=by simpa[Tryz.cells3]using Z
 have q9:DataW.trod enc prog W 0 (fun _=>true) true a 29 [x]=some y9:=by simpa[Tryz.cellsSC]using t9
 obtain⟨E,e0,g0,_⟩:=DataW.trod_int underlying3 q0
 obtain rfl:J= .int .i64 E:=by simpa using e0
 subst g0;obtain⟨i,e1,g1,_⟩:=DataW.trod_string underlying9 q1
 obtain rfl:K= .string i:=by simpa using e1
 subst g1;obtain⟨j,e2,g2,_⟩:=DataW.trod_string underlying9 q2
 obtain rfl:c2= .string j:=by simpa using e2
 subst g2;obtain⟨o,e3,g3,_⟩:=DataW.trod_string underlying9 q3
 obtain rfl:c3= .string o:=by simpa using e3
 subst g3;obtain⟨s,e4,g4,_⟩:=DataW.trod_string underlying9 q4
 obtain rfl:c4= .string s:=by simpa using e4
 subst g4;obtain⟨u,e5,g5,_⟩:=DataW.trod_string underlying9 q5
 obtain rfl:c5= .string u:=by simpa using e5
 subst g5;obtain⟨F,e6,g6,_⟩:=DataW.trod_int underlying3 q6
 obtain rfl:M= .int .i64 F:=by simpa using e6
 subst g6;obtain⟨G,e7,g7,_⟩:=DataW.trod_int underlying3 q7
 obtain rfl:c7= .int .i64 G:=by simpa using e7
 subst g7;obtain⟨I,e8,g8,_⟩:=DataW.trod_int underlying3 q8
 obtain rfl:N= .int .i64 I:=by simpa using e8
 subst g8;obtain⟨d9,p9⟩:=y9
 simp only[Prod.mk.injEq]at O;rw[O.1,Ew,lF,lF,lF,lF,lF]at hk;obtain⟨l,hl,_,C⟩:=vU (B:=B) hB q9 (by omega)
 have z1:i.size≤B:=by omega
 have z2:j.size≤B:=by omega
 have z3:o.size≤B:=by omega
 have z4:s.size≤B:=by omega
 have z5:u.size≤B:=by omega
 have z:cs= #[.int .i64 E,.string i,.string j,.string o,.string s,.string u,.int .i64 F,.int .i64 G,.int .i64 I,x]:=Array.ext' (by simpa using g);exact⟨⟨E,i,j,o,s,u,F,G,I,l⟩,⟨x,by rw[z],hl⟩,⟨z1,z2,z3,z4,z5⟩,C⟩
end Go.Proofs.YtdlpjlfefjipkaaGreat
