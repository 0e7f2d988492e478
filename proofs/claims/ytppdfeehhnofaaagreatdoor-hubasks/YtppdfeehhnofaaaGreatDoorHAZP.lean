/- Changes, commits and journals that are handed in: how great they are, by the reach of every argument. -/
import Derived.Test.YtppdfeehhnofaaaGreatDoorHAZO
import Derived.Test.YtppdfeehhnofaaaGreatDoorHAL
import Derived.Test.YtppdfeehhnofaaaGreatDoorRows
import Derived.Deep.Slices
import Derived.Lib.SmallJoins
import Derived.Carry
import Derived.SizedLaws
import Derived.Test.YtppdfeehhnofaaaGreatDoorHAM
import Derived.Test.YtppdfeehhnofaaaGreatDoorHAQ
set_option linter.unusedSimpArgs false
set_option linter.unusedVariables false
namespace Go.Proofs.YtppdfeehhnofaaaGreatDoor
open Go.ChangeShapes Go.WideShapes Go.ChangeAt Go.RowKit

theorem Tryz.bytesCo:Tryz.prog.bytesOf 132=48:=by kernel_rfl
set_option maxRecDepth 100000 in
theorem open_co_w {H:Type} {enc:TypeId×Value→H} {W:World} {n i:Nat} {a:Addr} {x:DataW H} {pl:List MemPlace} {cs':List Value} (ha:a.spot=none)
    (h1:W.cells? 0 (a.add (i*Tryz.prog.cellsOf 132)) (Tryz.prog.cellsOf 132)=some cs') (h2:DataW.trod enc Tryz.prog W 0 (fun _=>true) true n 132 cs'=some (x,pl)) (hk: ∀n∈x.weights Tryz.prog 132,n≤reachBytes):
    ∃c:Co,(c.ke.size≤reachBytes∧SizedC reachBytes c.ch)∧a.spot=none∧CoAt W a.block (a.off+i*3) c:=by
 rw[Tryz.cellsCo]at h1;obtain⟨_,hlen,hc⟩:=World.cells?_some h1
 obtain⟨y0,y1,y2,n',hx',_,t0,t1,t2⟩:=fields3 Tryz.underlying132 h2
 obtain⟨c0,c1,c2,rfl⟩:=list3 hlen
 have t0':DataW.trod enc Tryz.prog W 0 (fun _=>true) true n' 3 [c0]=some y0:=by simpa[Tryz.cells3]using t0
 have t1':DataW.trod enc Tryz.prog W 0 (fun _=>true) true n' 9 [c1]=some y1:=by simpa[Tryz.cells9]using t1
 have t2':DataW.trod enc Tryz.prog W 0 (fun _=>true) true n' 29 [c2]=some y2:=by simpa[Tryz.cellsSC]using t2
 obtain⟨s0,e0,g0,_⟩:=DataW.trod_int Tryz.underlying3 t0'
 obtain⟨s1,e1,g1,_⟩:=DataW.trod_string Tryz.underlying9 t1'
 obtain rfl:c0= .int .i64 s0:=by simpa using e0
 obtain rfl:c1= .string s1:=by simpa using e1
 subst g0;subst g1;obtain⟨d2,p2⟩:=y2
 simp only[Prod.mk.injEq]at hx'
 have hw:x.weights Tryz.prog 132=s1.data.toList.length::d2.weights Tryz.prog 29:=by
  rw[hx'.1,DataW.weights];simp only[Tryz.underlying132];simp[DataW.weightsEach,DataW.weights]
 rw[hw]at hk;obtain⟨l,hl,hls⟩:=open_changes_w t2' (fun n hn=>hk n (List.mem_cons_of_mem _ hn))
 have hs1:s1.size≤reachBytes:=by rw[Lib.size_eq];exact hk _ (List.mem_cons_self ..)
 have k0:=hc 0 (by omega);have k1:=hc 1 (by omega);have k2:=hc 2 (by omega);obtain⟨ab,ao,asp⟩:=a
 obtain rfl:asp=none:=ha;refine⟨⟨s0,s1,l⟩,⟨hs1,hls⟩,rfl,?_,?_,c2,?_,hl⟩
 · by_cases hi0:i=0
   · subst hi0;simpa[Addr.add]using k0
   · have hi4:i*3≠0:=by omega
     simpa[Addr.add,hi4]using k0
 · by_cases hi0:i=0
   · subst hi0;simpa[Addr.add]using k1
   · have hi4:i*3≠0:=by omega
     simpa[Addr.add,hi4,Nat.add_assoc]using k1
 · by_cases hi0:i=0
   · subst hi0;simpa[Addr.add]using k2
   · have hi4:i*3≠0:=by omega
     simpa[Addr.add,hi4,Nat.add_assoc]using k2
set_option maxRecDepth 100000 in
theorem open_commits_w {H:Type} {enc:TypeId×Value→H} {W:World} {v:Value} {d:DataW H} {p:List MemPlace} {fuel:Nat} (hf:DataW.trod enc Tryz.prog W 0 (fun _=>true) true fuel 39 [v]=some (d,p)) (hk: ∀n∈d.weights Tryz.prog 39,n≤reachBytes):
    ∃l:List Co,LiesO W v l∧SizedO reachBytes l:=by
 haveI:Inhabited Co:=⟨⟨0,⟨#[]⟩,[]⟩⟩
 rcases Go.Deep.open_slice Tryz.underlying39 hf with⟨hcs,hx⟩|⟨a,len,cap,m,n,D,Pl,hcs,hb,hl,hm,hmm,hx,hel⟩
 · obtain rfl:v= .slice none 0 0:=by simpa using hcs
   exact⟨[],liesO_nil _,fun e he=>by cases he⟩
 obtain rfl:v= .slice (some a) len cap:=by simpa using hcs
 have hm2:m=cap:=hmm.trans (if_pos rfl);clear hmm;have hd:=(Prod.mk.inj hx).1;clear hx;subst hm2
 have hsp:0<len→a.spot=none:=fun h=>by
  obtain⟨cs',h1,_⟩:=hel 0 (by omega)
  rw[Tryz.cellsCo]at h1;obtain⟨_,hlen,hc⟩:=World.cells?_some h1
  obtain⟨c0,c1,c2,rfl⟩:=list3 hlen
  have k0:=hc 0 (by omega);exact spot_none (v:=c0) (by simpa[Addr.add]using k0)
 obtain⟨sp,hd'⟩: ∃sp,d= .slice ((List.range len).map D) sp:=⟨_,hd⟩
 have hlen48:(len+sp.length)*48≤reachBytes:=by
  have:=hk ((len+sp.length)*48) (by
   rw[hd',DataW.weights];simp only[Tryz.underlying39,Tryz.bytesCo,List.length_map,List.length_range];exact List.mem_cons_self ..)
  exact this
 have hel2: ∀i,i<len→ ∀n∈(D i).weights Tryz.prog 132,n≤reachBytes:=fun i hi n hn=>hk n (by
  rw[hd',DataW.weights];simp only[Tryz.underlying39];refine List.mem_cons_of_mem _ (List.mem_append_left _ (all_mem (List.mem_map.2 ⟨i,List.mem_range.2 hi,rfl⟩) n hn)))
 have hrb:reachBytes=140737488351232:=by decide
 have each: ∀i,i<len→ ∃e:Co,(e.ke.size≤reachBytes∧SizedC reachBytes e.ch)∧a.spot=none∧CoAt W a.block (a.off+i*3) e:=fun i hi=>by
  obtain⟨cs',h1,h2⟩:=hel i (by omega)
  exact open_co_w (hsp (by omega)) h1 h2 (hel2 i hi)
 obtain⟨E,hE⟩:=Go.Deep.choose_lt each
 refine⟨(List.range len).map E,⟨some a,_,by simp;rfl,by simpa using hl,?_,fun i hi=>?_⟩,fun e he=>?_⟩
 · rw[hrb]at hlen48
   simp only[List.length_map,List.length_range];omega
 · have hi':i<len:=by simpa using hi
   obtain⟨h1,h2,h3⟩:=hE i hi'
   have hlt:a.block<W.heap.size:=by
    have k:=h3.1;rcases Nat.lt_or_ge a.block W.heap.size with h|h
    · exact h
    · unfold World.cell? at k;rw[Array.getElem?_eq_none h]at k;cases k
   refine⟨a.block,a.off,?_,hlt,by simpa using h3⟩
   rw[←h2]
 · obtain⟨i,hi,rfl⟩:=List.mem_map.1 he
   exact(hE i (List.mem_range.1 hi)).1
namespace BkG
theorem mem {H:Type} {d:DataW H}: ∀{l:List (DataW H)},d∈l→Rows.uptoBulk d≤Rows.uptoBulkAll l
 |[],h=>by cases h
 |x::r,h=>by
  rw[Rows.uptoBulkAll];rcases List.mem_cons.1 h with rfl|h
  · omega
  · have:=mem h;omega
theorem len {H:Type}: ∀{l:List (DataW H)},(∀d∈l,1≤Rows.uptoBulk d)→l.length≤Rows.uptoBulkAll l
 |[],_=>Nat.zero_le _
 |x::r,h=>by
  rw[Rows.uptoBulkAll,List.length_cons];have h1:=h x (by simp);have h2:=len (l:=r) fun d hd=>h d (by simp[hd])
  omega
end BkG

theorem Tryz.cellsG:Tryz.prog.cellsOf 137=3:=by kernel_rfl
theorem Tryz.cellsG9:Tryz.prog.cellsOf 9=1:=by kernel_rfl
theorem Tryz.cellsG3:Tryz.prog.cellsOf 3=1:=by kernel_rfl
def datG {H:Type} (e:Gr):DataW H:= .agg [.lit (.string e.fo.data.toList),.lit (.string e.wh.data.toList),.lit (.int .i64 e.ri)]
theorem list3g {α:Type} {l:List α} (h:l.length=3): ∃a b c,l=[a,b,c]:=by
 rcases l with _|⟨a,_|⟨b,_|⟨c,_|⟨d,r⟩⟩⟩⟩
 all_goals first|exact⟨a,b,c,rfl⟩|(simp at h)
theorem spotG {W:World} {a:Addr} {v:Value} (k:W.cell? a=some v):a.spot=none:=by
 unfold World.cell? at k;cases hq:a.spot with
 |none=>rfl
 |some z=>rw[hq]at k;simp at k;split at k<;>cases k
theorem fields3g {H:Type} {enc:TypeId×Value→H} {P:Program} {w:World} {base:Nat} {spare:Nat→Bool} {held:Bool} {t:TypeId} {f0 f1 f2:Field} {fuel:Nat} {cs:List Value} {x:DataW H×List MemPlace} (ht:P.underlying t=some (.struct #[f0,f1,f2])) (h:DataW.trod enc P w base spare held fuel t cs=some x):
    ∃y0 y1 y2 n,x=(.agg [y0.1,y1.1,y2.1],y0.2++(y1.2++y2.2))∧cs.length=P.cellsOf t∧DataW.trod enc P w base spare held n f0.type ((cs.drop f0.offset).take (P.cellsOf f0.type))=some y0∧
     DataW.trod enc P w base spare held n f1.type ((cs.drop f1.offset).take (P.cellsOf f1.type))=some y1∧DataW.trod enc P w base spare held n f2.type ((cs.drop f2.offset).take (P.cellsOf f2.type))=some y2:=by
 obtain⟨xs,n,_,rfl,hl,hlen,hf⟩:=DataW.trod_struct ht h
 match xs,hlen with
 |[y0,y1,y2],_=>exact⟨y0,y1,y2,n,by simp,hl,by simpa using hf 0 f0 rfl,by simpa using hf 1 f1 rfl,by simpa using hf 2 f2 rfl⟩
theorem open_grant {H:Type} {enc:TypeId×Value→H} {W:World} {n i:Nat} {a:Addr} {x:DataW H} {pl:List MemPlace} {cs':List Value} (ha:a.spot=none)
    (h1:W.cells? 0 (a.add (i*Tryz.prog.cellsOf 137)) (Tryz.prog.cellsOf 137)=some cs') (h2:DataW.trod enc Tryz.prog W 0 (fun _=>true) true n 137 cs'=some (x,pl)):
    ∃e:Gr,x=datG e∧a.spot=none∧GrAt W a.block (a.off+i*3) e:=by
 rw[Tryz.cellsG]at h1;obtain⟨_,hlen,hc⟩:=World.cells?_some h1
 obtain⟨y0,y1,y2,n',hx',_,t0,t1,t2⟩:=fields3g Tryz.underlying137 h2
 obtain⟨c0,c1,c2,rfl⟩:=list3g hlen
 have t0':DataW.trod enc Tryz.prog W 0 (fun _=>true) true n' 9 [c0]=some y0:=by simpa[Tryz.cellsG9]using t0
 have t1':DataW.trod enc Tryz.prog W 0 (fun _=>true) true n' 9 [c1]=some y1:=by simpa[Tryz.cellsG9]using t1
 have t2':DataW.trod enc Tryz.prog W 0 (fun _=>true) true n' 3 [c2]=some y2:=by simpa[Tryz.cellsG3]using t2
 obtain⟨s0,e0,g0,_⟩:=DataW.trod_string Tryz.underlying9 t0'
 obtain⟨s1,e1,g1,_⟩:=DataW.trod_string Tryz.underlying9 t1'
 obtain⟨s2,e2,g2,_⟩:=DataW.trod_int Tryz.underlying3 t2'
 obtain rfl:c0= .string s0:=by simpa using e0
 obtain rfl:c1= .string s1:=by simpa using e1
 obtain rfl:c2= .int .i64 s2:=by simpa using e2
 subst g0;subst g1;subst g2;simp only[Prod.mk.injEq]at hx';have k0:=hc 0 (by omega);have k1:=hc 1 (by omega);have k2:=hc 2 (by omega);obtain⟨ab,ao,asp⟩:=a
 obtain rfl:asp=none:=ha;refine⟨⟨s0,s1,s2⟩,hx'.1,rfl,?_,?_,?_⟩
 · by_cases hi0:i=0
   · subst hi0;simpa[Addr.add]using k0
   · have hi4:i*3≠0:=by omega
     simpa[Addr.add,hi4]using k0
 · by_cases hi0:i=0
   · subst hi0;simpa[Addr.add]using k1
   · have hi4:i*3≠0:=by omega
     simpa[Addr.add,hi4,Nat.add_assoc]using k1
 · by_cases hi0:i=0
   · subst hi0;simpa[Addr.add]using k2
   · have hi4:i*3≠0:=by omega
     simpa[Addr.add,hi4,Nat.add_assoc]using k2
end Go.Proofs.YtppdfeehhnofaaaGreatDoor
namespace Go.Proofs.YtppdfeehhnofaaaGreatDoor
open Go.ChangeShapes Go.WideShapes Go.ChangeAt Go.RowKit

theorem Tryz.bytesG:Tryz.prog.bytesOf 137=40:=by kernel_rfl
theorem all_memG {H:Type} {P:Program} {e:TypeId}: ∀{l:List (DataW H)} {d:DataW H},d∈l→ ∀n∈d.weights P e,n∈DataW.weightsAll P e l
 |[],_,h=>by cases h
 |x::r,d,h=>by
  intro n hn;rw[DataW.weightsAll];rcases List.mem_cons.1 h with rfl|h
  · exact List.mem_append_left _ hn
  · exact List.mem_append_right _ (all_memG h n hn)
set_option maxRecDepth 100000 in
theorem open_grants_w {H:Type} {enc:TypeId×Value→H} {W:World} {v:Value} {d:DataW H} {p:List MemPlace} {fuel:Nat} (hf:DataW.trod enc Tryz.prog W 0 (fun _=>true) true fuel 23 [v]=some (d,p)) (hk: ∀n∈d.weights Tryz.prog 23,n≤reachBytes):
    ∃L:List Gr,LiesG W v L∧SizedG L:=by
 haveI:Inhabited Gr:=⟨⟨⟨#[]⟩,⟨#[]⟩,0⟩⟩
 rcases Go.Deep.open_slice Tryz.underlying23 hf with⟨hcs,hx⟩|⟨a,len,cap,m,n,D,Pl,hcs,hb,hl,hm,hmm,hx,hel⟩
 · obtain rfl:v= .slice none 0 0:=by simpa using hcs
   exact⟨[],liesG_nil _,fun e he=>by cases he⟩
 obtain rfl:v= .slice (some a) len cap:=by simpa using hcs
 have hm2:m=cap:=hmm.trans (if_pos rfl);clear hmm;have hd:=(Prod.mk.inj hx).1;clear hx;subst hm2
 have hsp:0<len→a.spot=none:=fun h=>by
  obtain⟨cs',h1,_⟩:=hel 0 (by omega)
  rw[Tryz.cellsG]at h1;obtain⟨_,hlen,hc⟩:=World.cells?_some h1
  obtain⟨c0,c1,c2,rfl⟩:=list3g hlen
  have k0:=hc 0 (by omega);exact spotG (v:=c0) (by simpa[Addr.add]using k0)
 have each: ∀i,i<len→ ∃e:Gr,D i=datG e∧a.spot=none∧GrAt W a.block (a.off+i*3) e:=fun i hi=>by
  obtain⟨cs',h1,h2⟩:=hel i (by omega)
  exact open_grant (hsp (by omega)) h1 h2
 obtain⟨E,hE⟩:=Go.Deep.choose_lt each
 obtain⟨sp,hd'⟩: ∃sp,d= .slice ((List.range len).map D) sp:=⟨_,hd⟩
 have hlen40:(len+sp.length)*40≤reachBytes:=by
  have:=hk ((len+sp.length)*40) (by
   rw[hd',DataW.weights];simp only[Tryz.underlying23,Tryz.bytesG,List.length_map,List.length_range];exact List.mem_cons_self ..)
  exact this
 have hel2: ∀i,i<len→ ∀n∈(D i).weights Tryz.prog 137,n≤reachBytes:=fun i hi n hn=>hk n (by
  rw[hd',DataW.weights];simp only[Tryz.underlying23];refine List.mem_cons_of_mem _ (List.mem_append_left _ (all_memG (List.mem_map.2 ⟨i,List.mem_range.2 hi,rfl⟩) n hn)))
 have hrb:reachBytes=140737488351232:=by decide
 refine⟨(List.range len).map E,⟨some a,_,by simp;rfl,by simpa using hl,?_,fun i hi=>?_⟩,fun e he=>?_⟩
 · rw[hrb]at hlen40
   simp only[List.length_map,List.length_range];omega
 · have hi':i<len:=by simpa using hi
   obtain⟨h1,h2,h3⟩:=hE i hi'
   have hlt:a.block<W.heap.size:=by
    have k:=h3.1;rcases Nat.lt_or_ge a.block W.heap.size with h|h
    · exact h
    · unfold World.cell? at k;rw[Array.getElem?_eq_none h]at k;cases k
   refine⟨a.block,a.off,?_,hlt,by simpa using h3⟩
   rw[←h2]
 · obtain⟨i,hi,rfl⟩:=List.mem_map.1 he
   have h1:=hel2 i (List.mem_range.1 hi);rw[(hE i (List.mem_range.1 hi)).1]at h1
   have hw:DataW.weights Tryz.prog 137 (datG (H:=H) (E i))=[(E i).fo.data.toList.length,(E i).wh.data.toList.length]:=by
    rw[datG,DataW.weights];simp only[Tryz.underlying137];simp[DataW.weightsEach,DataW.weights]
   rw[hw,hrb]at h1;rw[Lib.size_eq,Lib.size_eq];have a1:=h1 _ (List.mem_cons_self ..);have a2:=h1 _ (List.mem_cons_of_mem _ (List.mem_cons_self ..));exact⟨by omega,by omega⟩
theorem Tryz.cellsSe:Tryz.prog.cellsOf 139=5:=by kernel_rfl
theorem Tryz.cellsS9:Tryz.prog.cellsOf 9=1:=by kernel_rfl
theorem Tryz.cellsS3:Tryz.prog.cellsOf 3=1:=by kernel_rfl
theorem Tryz.bytesSe:Tryz.prog.bytesOf 139=56:=by kernel_rfl
def datS {H:Type} (e:Se):DataW H:= .agg [.lit (.int .i64 e.nu),.lit (.string e.wh.data.toList),.lit (.string e.tx.data.toList),.lit (.int .i64 e.si),.lit (.int .i64 e.ti)]
theorem list5s {α:Type} {l:List α} (h:l.length=5): ∃a b c d e,l=[a,b,c,d,e]:=by
 rcases l with _|⟨a,_|⟨b,_|⟨c,_|⟨d,_|⟨e,_|⟨f,r⟩⟩⟩⟩⟩⟩
 all_goals first|exact⟨a,b,c,d,e,rfl⟩|(simp at h)
theorem spotS {W:World} {a:Addr} {v:Value} (k:W.cell? a=some v):a.spot=none:=by
 unfold World.cell? at k;cases hq:a.spot with
 |none=>rfl
 |some z=>rw[hq]at k;simp at k;split at k<;>cases k
theorem fields5s {H:Type} {enc:TypeId×Value→H} {P:Program} {w:World} {base:Nat} {spare:Nat→Bool} {held:Bool} {t:TypeId} {f0 f1 f2 f3 f4:Field} {fuel:Nat} {cs:List Value} {x:DataW H×List MemPlace} (ht:P.underlying t=some (.struct #[f0,f1,f2,f3,f4])) (h:DataW.trod enc P w base spare held fuel t cs=some x):
    ∃y0 y1 y2 y3 y4 n,x=(.agg [y0.1,y1.1,y2.1,y3.1,y4.1],y0.2++(y1.2++(y2.2++(y3.2++y4.2))))∧cs.length=P.cellsOf t∧DataW.trod enc P w base spare held n f0.type ((cs.drop f0.offset).take (P.cellsOf f0.type))=some y0∧
     DataW.trod enc P w base spare held n f1.type ((cs.drop f1.offset).take (P.cellsOf f1.type))=some y1∧DataW.trod enc P w base spare held n f2.type ((cs.drop f2.offset).take (P.cellsOf f2.type))=some y2∧DataW.trod enc P w base spare held n f3.type ((cs.drop f3.offset).take (P.cellsOf f3.type))=some y3∧DataW.trod enc P w base spare held n f4.type ((cs.drop f4.offset).take (P.cellsOf f4.type))=some y4:=by
 obtain⟨xs,n,_,rfl,hl,hlen,hf⟩:=DataW.trod_struct ht h
 match xs,hlen with
 |[y0,y1,y2,y3,y4],_=>exact⟨y0,y1,y2,y3,y4,n,by simp,hl,by simpa using hf 0 f0 rfl,by simpa using hf 1 f1 rfl,by simpa using hf 2 f2 rfl,by simpa using hf 3 f3 rfl,by simpa using hf 4 f4 rfl⟩
theorem all_memS {H:Type} {P:Program} {e:TypeId}: ∀{l:List (DataW H)} {d:DataW H},d∈l→ ∀n∈d.weights P e,n∈DataW.weightsAll P e l
 |[],_,h=>by cases h
 |x::r,d,h=>by
  intro n hn;rw[DataW.weightsAll];rcases List.mem_cons.1 h with rfl|h
  · exact List.mem_append_left _ hn
  · exact List.mem_append_right _ (all_memS h n hn)
theorem open_session {H:Type} {enc:TypeId×Value→H} {W:World} {n i:Nat} {a:Addr} {x:DataW H} {pl:List MemPlace} {cs':List Value} (ha:a.spot=none)
    (h1:W.cells? 0 (a.add (i*Tryz.prog.cellsOf 139)) (Tryz.prog.cellsOf 139)=some cs') (h2:DataW.trod enc Tryz.prog W 0 (fun _=>true) true n 139 cs'=some (x,pl)):
    ∃e:Se,x=datS e∧a.spot=none∧SeAt W a.block (a.off+i*5) e:=by
 rw[Tryz.cellsSe]at h1;obtain⟨_,hlen,hc⟩:=World.cells?_some h1
 obtain⟨y0,y1,y2,y3,y4,n',hx',_,t0,t1,t2,t3,t4⟩:=fields5s Tryz.underlying139 h2
 obtain⟨c0,c1,c2,c3,c4,rfl⟩:=list5s hlen
 have t0':DataW.trod enc Tryz.prog W 0 (fun _=>true) true n' 3 [c0]=some y0:=by simpa[Tryz.cellsS3]using t0
 have t1':DataW.trod enc Tryz.prog W 0 (fun _=>true) true n' 9 [c1]=some y1:=by simpa[Tryz.cellsS9]using t1
 have t2':DataW.trod enc Tryz.prog W 0 (fun _=>true) true n' 9 [c2]=some y2:=by simpa[Tryz.cellsS9]using t2
 have t3':DataW.trod enc Tryz.prog W 0 (fun _=>true) true n' 3 [c3]=some y3:=by simpa[Tryz.cellsS3]using t3
 have t4':DataW.trod enc Tryz.prog W 0 (fun _=>true) true n' 3 [c4]=some y4:=by simpa[Tryz.cellsS3]using t4
 obtain⟨s0,e0,g0,_⟩:=DataW.trod_int Tryz.underlying3 t0'
 obtain⟨s1,e1,g1,_⟩:=DataW.trod_string Tryz.underlying9 t1'
 obtain⟨s2,e2,g2,_⟩:=DataW.trod_string Tryz.underlying9 t2'
 obtain⟨s3,e3,g3,_⟩:=DataW.trod_int Tryz.underlying3 t3'
 obtain⟨s4,e4,g4,_⟩:=DataW.trod_int Tryz.underlying3 t4'
 obtain rfl:c0= .int .i64 s0:=by simpa using e0
 obtain rfl:c1= .string s1:=by simpa using e1
 obtain rfl:c2= .string s2:=by simpa using e2
 obtain rfl:c3= .int .i64 s3:=by simpa using e3
 obtain rfl:c4= .int .i64 s4:=by simpa using e4
 subst g0;subst g1;subst g2;subst g3;subst g4;simp only[Prod.mk.injEq]at hx';have k0:=hc 0 (by omega);have k1:=hc 1 (by omega);have k2:=hc 2 (by omega);have k3:=hc 3 (by omega);have k4:=hc 4 (by omega);obtain⟨ab,ao,asp⟩:=a
 obtain rfl:asp=none:=ha;refine⟨⟨s0,s1,s2,s3,s4⟩,hx'.1,rfl,?_,?_,?_,?_,?_⟩
 · by_cases hi0:i=0
   · subst hi0;simpa[Addr.add]using k0
   · have hi4:i*5≠0:=by omega
     simpa[Addr.add,hi4]using k0
 · by_cases hi0:i=0
   · subst hi0;simpa[Addr.add]using k1
   · have hi4:i*5≠0:=by omega
     simpa[Addr.add,hi4,Nat.add_assoc]using k1
 · by_cases hi0:i=0
   · subst hi0;simpa[Addr.add]using k2
   · have hi4:i*5≠0:=by omega
     simpa[Addr.add,hi4,Nat.add_assoc]using k2
 · by_cases hi0:i=0
   · subst hi0;simpa[Addr.add]using k3
   · have hi4:i*5≠0:=by omega
     simpa[Addr.add,hi4,Nat.add_assoc]using k3
 · by_cases hi0:i=0
   · subst hi0;simpa[Addr.add]using k4
   · have hi4:i*5≠0:=by omega
     simpa[Addr.add,hi4,Nat.add_assoc]using k4
set_option maxRecDepth 100000 in
theorem open_sessions_w {H:Type} {enc:TypeId×Value→H} {W:World} {v:Value} {d:DataW H} {p:List MemPlace} {fuel:Nat} (hf:DataW.trod enc Tryz.prog W 0 (fun _=>true) true fuel 24 [v]=some (d,p)) (hk: ∀n∈d.weights Tryz.prog 24,n≤reachBytes):
    ∃L:List Se,LiesS W v L∧SizedS L:=by
 haveI:Inhabited Se:=⟨⟨0,⟨#[]⟩,⟨#[]⟩,0,0⟩⟩
 rcases Go.Deep.open_slice Tryz.underlying24 hf with⟨hcs,hx⟩|⟨a,len,cap,m,n,D,Pl,hcs,hb,hl,hm,hmm,hx,hel⟩
 · obtain rfl:v= .slice none 0 0:=by simpa using hcs
   exact⟨[],liesS_nil _,fun e he=>by cases he⟩
 obtain rfl:v= .slice (some a) len cap:=by simpa using hcs
 have hm2:m=cap:=hmm.trans (if_pos rfl);clear hmm;have hd:=(Prod.mk.inj hx).1;clear hx;subst hm2
 have hsp:0<len→a.spot=none:=fun h=>by
  obtain⟨cs',h1,_⟩:=hel 0 (by omega)
  rw[Tryz.cellsSe]at h1;obtain⟨_,hlen,hc⟩:=World.cells?_some h1
  obtain⟨c0,c1,c2,c3,c4,rfl⟩:=list5s hlen
  have k0:=hc 0 (by omega);exact spotS (v:=c0) (by simpa[Addr.add]using k0)
 have each: ∀i,i<len→ ∃e:Se,D i=datS e∧a.spot=none∧SeAt W a.block (a.off+i*5) e:=fun i hi=>by
  obtain⟨cs',h1,h2⟩:=hel i (by omega)
  exact open_session (hsp (by omega)) h1 h2
 obtain⟨E,hE⟩:=Go.Deep.choose_lt each
 obtain⟨sp,hd'⟩: ∃sp,d= .slice ((List.range len).map D) sp:=⟨_,hd⟩
 have hlen56:(len+sp.length)*56≤reachBytes:=by
  have:=hk ((len+sp.length)*56) (by
   rw[hd',DataW.weights];simp only[Tryz.underlying24,Tryz.bytesSe,List.length_map,List.length_range];exact List.mem_cons_self ..)
  exact this
 have hel2: ∀i,i<len→ ∀n∈(D i).weights Tryz.prog 139,n≤reachBytes:=fun i hi n hn=>hk n (by
  rw[hd',DataW.weights];simp only[Tryz.underlying24];refine List.mem_cons_of_mem _ (List.mem_append_left _ (all_memS (List.mem_map.2 ⟨i,List.mem_range.2 hi,rfl⟩) n hn)))
 have hrb:reachBytes=140737488351232:=by decide
 refine⟨(List.range len).map E,⟨some a,_,by simp;rfl,by simpa using hl,?_,fun i hi=>?_⟩,fun e he=>?_⟩
 · rw[hrb]at hlen56
   simp only[List.length_map,List.length_range];omega
 · have hi':i<len:=by simpa using hi
   obtain⟨h1,h2,h3⟩:=hE i hi'
   have hlt:a.block<W.heap.size:=by
    have k:=h3.1;rcases Nat.lt_or_ge a.block W.heap.size with h|h
    · exact h
    · unfold World.cell? at k;rw[Array.getElem?_eq_none h]at k;cases k
   refine⟨a.block,a.off,?_,hlt,by simpa using h3⟩
   rw[←h2]
 · obtain⟨i,hi,rfl⟩:=List.mem_map.1 he
   have h1:=hel2 i (List.mem_range.1 hi);rw[(hE i (List.mem_range.1 hi)).1]at h1
   have hw:DataW.weights Tryz.prog 139 (datS (H:=H) (E i))=[(E i).wh.data.toList.length,(E i).tx.data.toList.length]:=by
    rw[datS,DataW.weights];simp only[Tryz.underlying139];simp[DataW.weightsEach,DataW.weights]
   rw[hw,hrb]at h1;rw[Lib.size_eq,Lib.size_eq];have a1:=h1 _ (List.mem_cons_self ..);have a2:=h1 _ (List.mem_cons_of_mem _ (List.mem_cons_self ..));exact⟨by omega,by omega⟩
theorem Tryz.cellsSh:Tryz.prog.cellsOf 90=4:=by kernel_rfl
theorem Tryz.cellsHub:Tryz.prog.cellsOf 28=7:=by kernel_rfl
theorem Tryz.cellsHJo:Tryz.prog.cellsOf 88=3:=by kernel_rfl
theorem Tryz.cellsHUp:Tryz.prog.cellsOf 26=4:=by kernel_rfl
theorem Tryz.cellsLF:Tryz.prog.cellsOf 22=1:=by kernel_rfl
theorem Tryz.cellsLG:Tryz.prog.cellsOf 23=1:=by kernel_rfl
theorem Tryz.cellsLSe:Tryz.prog.cellsOf 24=1:=by kernel_rfl
theorem Tryz.bytesSh:Tryz.prog.bytesOf 90=72:=by kernel_rfl
theorem listH4 {α:Type} {l:List α} (h:l.length=4): ∃x0 x1 x2 x3,l=[x0,x1,x2,x3]:=by
 rcases l with _|⟨x0,_|⟨x1,_|⟨x2,_|⟨x3,_|⟨d,r⟩⟩⟩⟩⟩
 all_goals first|exact⟨x0,x1,x2,x3,rfl⟩|(simp at h)
theorem listH7 {α:Type} {l:List α} (h:l.length=7): ∃x0 x1 x2 x3 x4 x5 x6,l=[x0,x1,x2,x3,x4,x5,x6]:=by
 rcases l with _|⟨x0,_|⟨x1,_|⟨x2,_|⟨x3,_|⟨x4,_|⟨x5,_|⟨x6,_|⟨d,r⟩⟩⟩⟩⟩⟩⟩⟩
 all_goals first|exact⟨x0,x1,x2,x3,x4,x5,x6,rfl⟩|(simp at h)
theorem fieldsH2 {H:Type} {enc:TypeId×Value→H} {P:Program} {w:World} {base:Nat} {spare:Nat→Bool} {held:Bool} {t:TypeId} {f0 f1:Field} {fuel:Nat} {cs:List Value} {x:DataW H×List MemPlace} (ht:P.underlying t=some (.struct #[f0,f1])) (h:DataW.trod enc P w base spare held fuel t cs=some x):
    ∃y0 y1 n pl,x=(.agg [y0.1,y1.1],pl)∧cs.length=P.cellsOf t∧DataW.trod enc P w base spare held n f0.type ((cs.drop f0.offset).take (P.cellsOf f0.type))=some y0∧DataW.trod enc P w base spare held n f1.type ((cs.drop f1.offset).take (P.cellsOf f1.type))=some y1:=by
 obtain⟨xs,n,_,rfl,hl,hlen,hf⟩:=DataW.trod_struct ht h
 match xs,hlen with
 |[y0,y1],_=>exact⟨y0,y1,n,_,rfl,hl,by simpa using hf 0 f0 rfl,by simpa using hf 1 f1 rfl⟩
theorem fieldsH3 {H:Type} {enc:TypeId×Value→H} {P:Program} {w:World} {base:Nat} {spare:Nat→Bool} {held:Bool} {t:TypeId} {f0 f1 f2:Field} {fuel:Nat} {cs:List Value} {x:DataW H×List MemPlace} (ht:P.underlying t=some (.struct #[f0,f1,f2])) (h:DataW.trod enc P w base spare held fuel t cs=some x):
    ∃y0 y1 y2 n pl,x=(.agg [y0.1,y1.1,y2.1],pl)∧cs.length=P.cellsOf t∧DataW.trod enc P w base spare held n f0.type ((cs.drop f0.offset).take (P.cellsOf f0.type))=some y0∧DataW.trod enc P w base spare held n f1.type ((cs.drop f1.offset).take (P.cellsOf f1.type))=some y1∧DataW.trod enc P w base spare held n f2.type ((cs.drop f2.offset).take (P.cellsOf f2.type))=some y2:=by
 obtain⟨xs,n,_,rfl,hl,hlen,hf⟩:=DataW.trod_struct ht h
 match xs,hlen with
 |[y0,y1,y2],_=>exact⟨y0,y1,y2,n,_,rfl,hl,by simpa using hf 0 f0 rfl,by simpa using hf 1 f1 rfl,by simpa using hf 2 f2 rfl⟩
theorem fieldsH4 {H:Type} {enc:TypeId×Value→H} {P:Program} {w:World} {base:Nat} {spare:Nat→Bool} {held:Bool} {t:TypeId} {f0 f1 f2 f3:Field} {fuel:Nat} {cs:List Value} {x:DataW H×List MemPlace} (ht:P.underlying t=some (.struct #[f0,f1,f2,f3])) (h:DataW.trod enc P w base spare held fuel t cs=some x):
    ∃y0 y1 y2 y3 n pl,x=(.agg [y0.1,y1.1,y2.1,y3.1],pl)∧cs.length=P.cellsOf t∧DataW.trod enc P w base spare held n f0.type ((cs.drop f0.offset).take (P.cellsOf f0.type))=some y0∧DataW.trod enc P w base spare held n f1.type ((cs.drop f1.offset).take (P.cellsOf f1.type))=some y1∧DataW.trod enc P w base spare held n f2.type ((cs.drop f2.offset).take (P.cellsOf f2.type))=some y2∧DataW.trod enc P w base spare held n f3.type ((cs.drop f3.offset).take (P.cellsOf f3.type))=some y3:=by
 obtain⟨xs,n,_,rfl,hl,hlen,hf⟩:=DataW.trod_struct ht h
 match xs,hlen with
 |[y0,y1,y2,y3],_=>exact⟨y0,y1,y2,y3,n,_,rfl,hl,by simpa using hf 0 f0 rfl,by simpa using hf 1 f1 rfl,by simpa using hf 2 f2 rfl,by simpa using hf 3 f3 rfl⟩
set_option maxRecDepth 100000 in
theorem open_sh_w {H:Type} {enc:TypeId×Value→H} {W:World} {n i:Nat} {a:Addr} {x:DataW H} {pl:List MemPlace} {cs':List Value} (ha:a.spot=none)
    (h1:W.cells? 0 (a.add (i*Tryz.prog.cellsOf 90)) (Tryz.prog.cellsOf 90)=some cs') (h2:DataW.trod enc Tryz.prog W 0 (fun _=>true) true n 90 cs'=some (x,pl)) (hk: ∀n∈x.weights Tryz.prog 90,n≤reachBytes):
    ∃s:Sh,(s.na.size≤reachBytes∧(∀e∈s.jo.base,e.path.size≤reachBytes∧e.text.size≤reachBytes)∧SizedO reachBytes s.jo.cos)∧a.spot=none∧ShAt W a.block (a.off+i*4) s:=by
 rw[Tryz.cellsSh]at h1;obtain⟨_,hlen,hc⟩:=World.cells?_some h1
 obtain⟨y0,y1,n',pl',hx',_,t0,t1⟩:=fieldsH2 Tryz.underlying90 h2
 obtain⟨c0,c1,c2,c3,rfl⟩:=listH4 hlen
 have t0':DataW.trod enc Tryz.prog W 0 (fun _=>true) true n' 9 [c0]=some y0:=by simpa[Tryz.cells9]using t0
 have t1':DataW.trod enc Tryz.prog W 0 (fun _=>true) true n' 88 [c1,c2,c3]=some y1:=by simpa[Tryz.cellsHJo]using t1
 obtain⟨s0,e0,g0,_⟩:=DataW.trod_string Tryz.underlying9 t0'
 obtain rfl:c0= .string s0:=by simpa using e0
 subst g0;obtain⟨z0,z1,z2,n'',pl'',hz',_,u0,u1,u2⟩:=fieldsH3 Tryz.underlying88 t1'
 have u0':DataW.trod enc Tryz.prog W 0 (fun _=>true) true n'' 38 [c1]=some z0:=by simpa[Tryz.cellsSE]using u0
 have u1':DataW.trod enc Tryz.prog W 0 (fun _=>true) true n'' 3 [c2]=some z1:=by simpa[Tryz.cells3]using u1
 have u2':DataW.trod enc Tryz.prog W 0 (fun _=>true) true n'' 39 [c3]=some z2:=by simpa[Tryz.cellsSO]using u2
 obtain⟨s2,e2,g2,_⟩:=DataW.trod_int Tryz.underlying3 u1'
 obtain rfl:c2= .int .i64 s2:=by simpa using e2
 subst g2;obtain⟨d0,p0⟩:=z0
 obtain⟨d2,p2⟩:=z2
 subst hz';simp only[Prod.mk.injEq]at hx'
 have hw:x.weights Tryz.prog 90=s0.data.toList.length::(d0.weights Tryz.prog 38++d2.weights Tryz.prog 39):=by
  rw[hx'.1,DataW.weights];simp only[Tryz.underlying90];simp[DataW.weightsEach,DataW.weights,Tryz.underlying88]
 rw[hw]at hk;obtain⟨L,hL,hLs⟩:=open_tree_w u0' (fun n hn=>hk n (List.mem_cons_of_mem _ (List.mem_append_left _ hn)))
 obtain⟨l,hl,hls⟩:=open_commits_w u2' (fun n hn=>hk n (List.mem_cons_of_mem _ (List.mem_append_right _ hn)))
 have hs0:s0.size≤reachBytes:=by rw[Lib.size_eq];exact hk _ (List.mem_cons_self ..)
 have k0:=hc 0 (by omega);have k1:=hc 1 (by omega);have k2:=hc 2 (by omega);have k3:=hc 3 (by omega);obtain⟨ab,ao,asp⟩:=a
 obtain rfl:asp=none:=ha;refine⟨⟨s0,⟨L,s2,l⟩⟩,⟨hs0,hLs,hls⟩,rfl,?_,c1,c3,?_,?_,?_,hL,hl⟩
 · by_cases hi0:i=0
   · subst hi0;simpa[Addr.add]using k0
   · have hi4:i*4≠0:=by omega
     simpa[Addr.add,hi4]using k0
 · by_cases hi0:i=0
   · subst hi0;simpa[Addr.add]using k1
   · have hi4:i*4≠0:=by omega
     simpa[Addr.add,hi4,Nat.add_assoc]using k1
 · by_cases hi0:i=0
   · subst hi0;simpa[Addr.add]using k2
   · have hi4:i*4≠0:=by omega
     simpa[Addr.add,hi4,Nat.add_assoc]using k2
 · by_cases hi0:i=0
   · subst hi0;simpa[Addr.add]using k3
   · have hi4:i*4≠0:=by omega
     simpa[Addr.add,hi4,Nat.add_assoc]using k3
set_option maxRecDepth 100000 in
theorem open_shares_w {H:Type} {enc:TypeId×Value→H} {W:World} {v:Value} {d:DataW H} {p:List MemPlace} {fuel:Nat} (hf:DataW.trod enc Tryz.prog W 0 (fun _=>true) true fuel 22 [v]=some (d,p)) (hk: ∀n∈d.weights Tryz.prog 22,n≤reachBytes):
    ∃l:List Sh,LiesF W v l∧ ∀s∈l,s.na.size≤reachBytes∧(∀e∈s.jo.base,e.path.size≤reachBytes∧e.text.size≤reachBytes)∧SizedO reachBytes s.jo.cos:=by
 haveI:Inhabited Sh:=⟨⟨⟨#[]⟩,⟨[],0,[]⟩⟩⟩
 rcases Go.Deep.open_slice Tryz.underlying22 hf with⟨hcs,hx⟩|⟨a,len,cap,m,n,D,Pl,hcs,hb,hl,hm,hmm,hx,hel⟩
 · obtain rfl:v= .slice none 0 0:=by simpa using hcs
   exact⟨[],liesF_nil _,fun e he=>by cases he⟩
 obtain rfl:v= .slice (some a) len cap:=by simpa using hcs
 have hm2:m=cap:=hmm.trans (if_pos rfl);clear hmm;have hd:=(Prod.mk.inj hx).1;clear hx;subst hm2
 have hsp:0<len→a.spot=none:=fun h=>by
  obtain⟨cs',h1,_⟩:=hel 0 (by omega)
  rw[Tryz.cellsSh]at h1;obtain⟨_,hlen,hc⟩:=World.cells?_some h1
  obtain⟨c0,c1,c2,c3,rfl⟩:=listH4 hlen
  have k0:=hc 0 (by omega);exact spot_none (v:=c0) (by simpa[Addr.add]using k0)
 obtain⟨sp,hd'⟩: ∃sp,d= .slice ((List.range len).map D) sp:=⟨_,hd⟩
 have hlen72:(len+sp.length)*72≤reachBytes:=by
  have:=hk ((len+sp.length)*72) (by
   rw[hd',DataW.weights];simp only[Tryz.underlying22,Tryz.bytesSh,List.length_map,List.length_range];exact List.mem_cons_self ..)
  exact this
 have hel2: ∀i,i<len→ ∀n∈(D i).weights Tryz.prog 90,n≤reachBytes:=fun i hi n hn=>hk n (by
  rw[hd',DataW.weights];simp only[Tryz.underlying22];refine List.mem_cons_of_mem _ (List.mem_append_left _ (all_mem (List.mem_map.2 ⟨i,List.mem_range.2 hi,rfl⟩) n hn)))
 have hrb:reachBytes=140737488351232:=by decide
 have hln:len≤1000000000000000:=by rw[hrb]at hlen72;omega
 have each: ∀i,i<len→ ∃s:Sh,(s.na.size≤reachBytes∧(∀e∈s.jo.base,e.path.size≤reachBytes∧e.text.size≤reachBytes)∧SizedO reachBytes s.jo.cos)∧a.spot=none∧ShAt W a.block (a.off+i*4) s:=fun i hi=>by
  obtain⟨cs',h1,h2⟩:=hel i (by omega)
  exact open_sh_w (hsp (by omega)) h1 h2 (hel2 i hi)
 obtain⟨E,hE⟩:=Go.Deep.choose_lt each
 refine⟨(List.range len).map E,⟨some a,_,by simp;rfl,by simpa using hl,by simpa using hln,fun i hi=>?_⟩,fun e he=>?_⟩
 · have hi':i<len:=by simpa using hi
   obtain⟨h1,h2,h3⟩:=hE i hi'
   have hlt:a.block<W.heap.size:=by
    have k:=h3.1;rcases Nat.lt_or_ge a.block W.heap.size with h|h
    · exact h
    · unfold World.cell? at k;rw[Array.getElem?_eq_none h]at k;cases k
   refine⟨a.block,a.off,?_,hlt,by simpa using h3⟩
   rw[←h2]
 · obtain⟨i,hi,rfl⟩:=List.mem_map.1 he
   exact(hE i (List.mem_range.1 hi)).1
set_option maxRecDepth 100000 in
theorem open_hub_w {H:Type} {enc:TypeId×Value→H} {W:World} {r:Reach} {b0:Nat} {v:Value} {d:DataW H} {pl:List MemPlace} (hv:Value.okWide Tryz.prog W r b0 28 v) (h:DataW.Trod enc Tryz.prog W 0 (fun _=>true) true 28 v d pl) (hk: ∀n∈d.weights Tryz.prog 28,n≤reachBytes):
    ∃h:Hb,LiesH W v h∧(∀s∈h.fos,s.na.size≤reachBytes∧(∀e∈s.jo.base,e.path.size≤reachBytes∧e.text.size≤reachBytes)∧SizedO reachBytes s.jo.cos)∧SizedG h.gs∧SizedS h.ss:=by
 obtain⟨cs,rfl,hsz⟩:=okWide_struct Tryz.underlying28 hv
 obtain⟨fuel,hf⟩:=h
 have hf':DataW.trod enc Tryz.prog W 0 (fun _=>true) true fuel 28 cs.toList=some (d,pl):=by simpa[Value.cells]using hf
 obtain⟨y0,y1,y2,y3,n',pl',hx,hlen,t0,t1,t2,t3⟩:=fieldsH4 Tryz.underlying28 hf'
 rw[Tryz.cellsHub]at hlen;obtain⟨c0,c1,c2,c3,c4,c5,c6,hcs⟩:=listH7 hlen
 rw[hcs]at t0 t1 t2 t3;have q0:DataW.trod enc Tryz.prog W 0 (fun _=>true) true n' 22 [c0]=some y0:=by simpa[Tryz.cellsLF]using t0
 have q1:DataW.trod enc Tryz.prog W 0 (fun _=>true) true n' 23 [c1]=some y1:=by simpa[Tryz.cellsLG]using t1
 have q2:DataW.trod enc Tryz.prog W 0 (fun _=>true) true n' 26 [c2,c3,c4,c5]=some y2:=by simpa[Tryz.cellsHUp]using t2
 have q3:DataW.trod enc Tryz.prog W 0 (fun _=>true) true n' 3 [c6]=some y3:=by simpa[Tryz.cells3]using t3
 obtain⟨z0,z1,z2,z3,n'',pl'',hz',_,u0,u1,u2,u3⟩:=fieldsH4 Tryz.underlying26 q2
 have v0:DataW.trod enc Tryz.prog W 0 (fun _=>true) true n'' 24 [c2]=some z0:=by simpa[Tryz.cellsLSe]using u0
 have v1:DataW.trod enc Tryz.prog W 0 (fun _=>true) true n'' 3 [c3]=some z1:=by simpa[Tryz.cells3]using u1
 have v2:DataW.trod enc Tryz.prog W 0 (fun _=>true) true n'' 3 [c4]=some z2:=by simpa[Tryz.cells3]using u2
 have v3:DataW.trod enc Tryz.prog W 0 (fun _=>true) true n'' 3 [c5]=some z3:=by simpa[Tryz.cells3]using u3
 obtain⟨s6,e6,g6,_⟩:=DataW.trod_int Tryz.underlying3 q3
 obtain rfl:c6= .int .i64 s6:=by simpa using e6
 subst g6;obtain⟨s3,e3,g3,_⟩:=DataW.trod_int Tryz.underlying3 v1
 obtain rfl:c3= .int .i64 s3:=by simpa using e3
 subst g3;obtain⟨s4,e4,g4,_⟩:=DataW.trod_int Tryz.underlying3 v2
 obtain rfl:c4= .int .i64 s4:=by simpa using e4
 subst g4;obtain⟨s5,e5,g5,_⟩:=DataW.trod_int Tryz.underlying3 v3
 obtain rfl:c5= .int .i64 s5:=by simpa using e5
 subst g5;obtain⟨d0,p0⟩:=y0
 obtain⟨d1,p1⟩:=y1
 obtain⟨d2,p2⟩:=z0
 subst hz';simp only[Prod.mk.injEq]at hx
 have hw:d.weights Tryz.prog 28=d0.weights Tryz.prog 22++(d1.weights Tryz.prog 23++d2.weights Tryz.prog 24):=by
  rw[hx.1,DataW.weights];simp only[Tryz.underlying28];simp[DataW.weightsEach,DataW.weights,Tryz.underlying26]
 rw[hw]at hk;obtain⟨F,hF,hFs⟩:=open_shares_w q0 (fun n hn=>hk n (List.mem_append_left _ hn))
 obtain⟨G,hG,hGs⟩:=open_grants_w q1 (fun n hn=>hk n (List.mem_append_right _ (List.mem_append_left _ hn)))
 obtain⟨S,hS,hSs⟩:=open_sessions_w v0 (fun n hn=>hk n (List.mem_append_right _ (List.mem_append_right _ hn)))
 have hag:cs= #[c0,c1,c2,.int .i64 s3,.int .i64 s4,.int .i64 s5,.int .i64 s6]:=Array.ext' (by simpa using hcs);exact⟨⟨F,G,S,s3,s4,s5,s6⟩,⟨c0,c1,c2,by rw[hag],hF,hG,hS⟩,hFs,hGs,hSs⟩
end Go.Proofs.YtppdfeehhnofaaaGreatDoor
