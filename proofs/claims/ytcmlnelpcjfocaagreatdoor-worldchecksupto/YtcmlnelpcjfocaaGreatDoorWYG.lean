/- Names: path.Join of nothing and a text, word.Names. -/
import Derived.Test.YtcmlnelpcjfocaaGreatDoorWYE
import Derived.Test.YtcmlnelpcjfocaaGreatDoorWYF
import Derived.Laws.OwnMore
import Derived.Test.YtcmlnelpcjfocaaGreatDoorShelfS
import Derived.Lib.OwnBridge
set_option linter.unusedSimpArgs false
set_option linter.unusedVariables false
namespace Go.Proofs.YtcmlnelpcjfocaaGreatDoor
open Go.RowKit Go.Maps Go.Proofs.Tryz
set_option maxHeartbeats 1000000
set_option maxRecDepth 100000
theorem ak {p:Prop} (h:p):Hid p:=h
theorem AI {l:List UInt8} (h:aM l=true):47∉l:=by
 intro d
 have f: ∀c∈l,dB c=true:=by
  simp only[aM,Bool.and_eq_true,List.all_eq_true]at h;first|exact h.1|exact h.1.1|exact h.1.1.1|exact h.1.1.1.1|exact h.1.1.1.1.1|exact h.1.1.1.1.1.1|exact fun c y=>(h.1 c y)|simp_all
 exact absurd (f 47 d) (by decide)
theorem AJ {l:List UInt8} (h:aM l=true):l.length≤20:=by
 simp only[aM,Bool.and_eq_true,decide_eq_true_eq]at h;omega
theorem AK {l:List UInt8} (h:aM l=true):az l=0:=by
 have d:aj l=[l]:=kB l (AI h);have f:(aj l).all aM=true:=by rw[d];simp[h]
 rw[pP f,if_neg];have:=AJ h
 simp[Pp.big,d]
 omega
def nr (l:List UInt8):Int:=if aM l=true then 0 else 1
def bH (ns:List ByteArray):Int:=if(ns.all fun s=>aM s.data.toList)=true then 0 else 1
theorem AL (s:ByteArray) (w:World) (G:s.size≤1000000000000000):
    Calls prog 148 #[.string ⟨#[]⟩,.string s] w fun e w'=> ∃u,e= .returned (.tuple #[u,.int .i64 (nr s.data.toList)])∧Below w.heap.size w w':=by
 have F:s.size≤maxLen:=by unfold maxLen;omega
 cases f:aM s.data.toList with
 |true=>
  have z:=ak f;have H:=ak (AK f);have y:=hid (show nr s.data.toList=0 from if_pos f);have I:=hid (show(⟨(kD [] s.data.toList).toArray⟩:ByteArray)=s from by rw[kD,if_pos rfl]);clear f;go_enter func148,ntmps148
  go_wp2_with fail;refine(l9 s _ F).mono ?_
  rintro e E ⟨rfl,d⟩;rw[d,z.out];clear d E;go_wp2_with fail;refine(Ad ⟨#[]⟩ s _ (by decide) G).mono ?_
  rintro e J ⟨rfl,d⟩;rw[d,show(⟨(kD (⟨#[]⟩:ByteArray).data.toList s.data.toList).toArray⟩:ByteArray)=s from I.out];clear d J;go_wp2_with fail;refine(ud s _ G H.out).mono ?_
  rintro e K ⟨rfl,A⟩;go_wp2;go_ret2;exact⟨_,by rw[y.out];rfl,A⟩
 |false=>
  have z:=ak f;have y:=hid (show nr s.data.toList=1 from if_neg (by rw[f];decide));clear f;go_enter func148,ntmps148
  go_wp2_with fail;refine(l9 s _ F).mono ?_
  rintro e E ⟨rfl,d⟩;rw[d,z.out];clear d E;go_wp2_with fail;go_ret2;exact⟨_,by rw[y.out];rfl,Below.refl _ _⟩
theorem nt (d:List ByteArray) (g o cap:Nat) (w:World) (T:g<w.heap.size) (K: ∀i (h:i<d.length),(d[i]).size≤1000000000000000) (Y:d.length≤1000) (I: ∀i (h:i<d.length),w.cell? ⟨g,o+i,none⟩=some (.string d[i])):
    Calls prog 104 #[.slice (some ⟨g,o,none⟩) d.length cap] w fun e w'=>e= .returned (.int .i64 (bH d))∧Below w.heap.size w w':=by
 have M:=ak I;have N:=ak K;clear I K;go_enter func104,ntmps104
 have O:=hid (show∀k (h:k<d.length),(∀j (h:j<d.length),j<k→aM (d[j]).data.toList=true)→aM (d[k]).data.toList=false→(d.all fun s=>aM s.data.toList)=false from fun k h _ J=>List.all_eq_false.2 ⟨d[k],List.getElem_mem h,by rw[J];decide⟩)
 have P:=hid (show(∀j (h:j<d.length),aM (d[j]).data.toList=true)→(d.all fun s=>aM s.data.toList)=true from fun h=>List.all_eq_true.2 fun x V=>by
  obtain⟨j,U,rfl⟩:=List.getElem_of_mem V
  exact h j U)
 go_wp2_with fail;go_loopw [9] (fun i wr=> ∃k:Nat,k≤d.length∧i= .int .i64 k∧Hid (∀j (h:j<d.length),j<k→aM (d[j]).data.toList=true)∧Below w.heap.size w wr) (fun i _=>d.length-(intOf i).toNat)
 case atStart=>exact⟨0,Nat.zero_le _,rfl,(fun j _ h=>absurd h (Nat.not_lt_zero _): ∀j (h:j<d.length),j<0→aM (d[j]).data.toList=true),Below.refl _ _⟩
 case round=>
  obtain⟨k,J,rfl,G,f⟩:=hrel
  by_cases z:k<d.length
  · have Q:=(f.cell (p:=⟨g,o+k,none⟩) T).trans (M.out k z)
    go_wp2_with fail;refine(AL d[k] _ (N.out k z)).mono ?_
    rintro e Z ⟨u,rfl,E⟩;have y:=bn f E;clear f E Q;cases A:aM (d[k]).data.toList with
    |true=>
     rw[nr,if_pos A]
     have H:=hid (show∀j (h:j<d.length),j<k+1→aM (d[j]).data.toList=true from fun j S X=>by
      by_cases e:j=k
      · subst e;exact A
      · exact G.out j S (by omega))
     clear A;go_wp2_with fail;go_roundw
     case rel=>exact⟨k+1,by omega,by simp,H,y⟩
     case measure=>simp[intOf];omega
    |false=>
     rw[nr,if_neg (by rw[A];decide)];have F:=hid (show(1:Int)=bH d from by rw[bH,if_neg (by rw[O.out k z G.out A];decide)]);clear A;go_wp2_with fail;go_ret;exact⟨aD F.out,y⟩
  · have F:=hid (show(0:Int)=bH d from by rw[bH,if_pos (P.out (fun j h=>G.out j h (by omega)))])
    go_wp2_with fail;go_ret;exact⟨aD F.out,f⟩
def Cs (W:World) (b:Nat) (ai:List Value):Prop:= ∃T,W.heap[b]?=some (.cells ai.toArray T (0,0))
theorem Cs.lt {W:World} {b:Nat} {ai:List Value} (h:Cs W b ai):b<W.heap.size:=h.elim fun _ h=>cM h
theorem Cs.cell {W:World} {b:Nat} {ai:List Value} (h:Cs W b ai) (i:Nat) {v:Value} (d:ai[i]?=some v):W.cell? ⟨b,i,none⟩=some v:=by
 obtain⟨T,h⟩:=h
 simp[World.cell?,h,d]
theorem Cs.fr {W:World} {b:Nat} {ai:List Value} (h:Cs W b ai) (i:Nat):W.frozen? ⟨b,i,none⟩=false:=by
 obtain⟨T,h⟩:=h
 simp[World.frozen?,h]
theorem Cs.belowAt {W d:World} {b B:Nat} {ai:List Value} (h:Cs W b ai) (f:Below B W d) (hb:b<B):Cs d b ai:=by
 obtain⟨T,h⟩:=h
 exact⟨T,(f.block b hb).trans h⟩
theorem Cs.below {W d:World} {b:Nat} {ai:List Value} (h:Cs W b ai) (f:Below W.heap.size W d):Cs d b ai:=h.belowAt f h.lt
theorem Cs.nb {W f:World} {b g:Nat} {ai:List Value} (h:Cs W b ai) (z:W.grownBy f (some g)) (d:b≠g):Cs f b ai:=by
 have y:=h.lt;obtain⟨T,h⟩:=h
 exact⟨T,(z.block b y (fun e=>d (by injection e))).trans h⟩
theorem Cs.new (w:World) (ai:List Value) (T:TypeId):Cs (w.alloc (.cells ai.toArray T)) w.heap.size ai:=⟨T,by show(w.heap.push _)[w.heap.size]?=_;simp⟩
theorem Cs.set {W:World} {b:Nat} {ai:List Value} (h:Cs W b ai) (i:Nat) (u:Value):Cs (W.setCell ⟨b,i,none⟩ u) b (ai.set i u):=by
 obtain⟨T,h⟩:=h
 refine⟨T,?_⟩
 unfold World.setCell;simp only[Array.getElem?_modify,h,if_true,Option.map_some];simp
theorem ar (W:World) (b o:Nat) (u:Value):W.grownBy (W.setCell ⟨b,o,none⟩ u) (some b):=
 ⟨rfl,rfl,rfl,by simp,fun k _ d=>Below.heap_setCell W _ u k (fun e=>d (by rw[e]))⟩
theorem Cs.other {W:World} {b d o:Nat} {ai:List Value} (h:Cs W b ai) (f:b≠d) (u:Value):Cs (W.setCell ⟨d,o,none⟩ u) b ai:=h.nb (ar W d o u) f
def dx (W:World) (g:Nat):Prop:= ∀o s,W.cell? ⟨g,o,none⟩≠some (.string s)
theorem Cs.noStr {W:World} {b:Nat} {ai:List Value} (h:Cs W b ai) (f: ∀s,Value.string s∉ai):dx W b:=by
 obtain⟨T,h⟩:=h
 intro o s;simp only[World.cell?,h];intro d;have:ai[o]?=some (.string s):=by simpa using d
 exact f s (List.mem_of_getElem? this)
theorem qt {W:World} {P:Program} {k:TypeId} {R:Value→Option (DataW Unit×List MemPlace)} {b n:Nat} {D:DataW Unit} (h:W.ownsMap P k R b n D):dx W b:=by
 obtain⟨f,d,hb,_⟩:=h
 intro o s;simp[World.cell?,hb]
theorem dp.ne {W:World} {b o g:Nat} {e:En} (h:dp W b o e) (d:dx W g):b≠g:=fun hb=>d o e.path (hb▸h.1)
theorem iI.ne {W:World} {b o g:Nat} {c:ay} (h:iI W b o c) (d:dx W g):b≠g:=fun hb=>d (o+1) c.p (hb▸h.2.1)
theorem ir {W f:World} {g b:Nat} (y:W.grownBy f (some g)) (hb:b<W.heap.size) (d:b≠g) (o:Nat):f.cell? ⟨b,o,none⟩=W.cell? ⟨b,o,none⟩:=
 World.cell?_of_block (w:=W) (a:=⟨b,o,none⟩) (y.block b hb (fun e=>d (by injection e)))
theorem an.nb {W y:World} {v:Value} {L:List En} {g:Nat} (h:an W v L) (z:W.grownBy y (some g)) (I:dx W g):an y v L:=by
 obtain⟨a,f,J,A,E,F⟩:=h
 refine⟨a,f,J,A,E,fun i H=>?_⟩
 obtain⟨b,o,G,hb,d⟩:=F i H
 have c:=ir z hb (d.ne I);exact⟨b,o,G,Nat.lt_of_lt_of_le hb z.size,(c _).trans d.1,(c _).trans d.2.1,(c _).trans d.2.2.1,(c _).trans d.2.2.2⟩
theorem cj.nb {W y:World} {v:Value} {L:List ay} {g:Nat} (h:cj W v L) (z:W.grownBy y (some g)) (I:dx W g):cj y v L:=by
 obtain⟨a,f,J,A,E,F⟩:=h
 refine⟨a,f,J,A,E,fun i H=>?_⟩
 obtain⟨b,o,G,hb,d⟩:=F i H
 have c:=ir z hb (d.ne I);exact⟨b,o,G,Nat.lt_of_lt_of_le hb z.size,(c _).trans d.1,(c _).trans d.2.1,(c _).trans d.2.2.1,(c _).trans d.2.2.2.1,(c _).trans d.2.2.2.2⟩
structure eo (w w':World) (b m:Nat):Prop where
 os:w'.os=w.os
 tape:w'.tape=w.tape
 output:w'.output=w.output
 size:w.heap.size≤w'.heap.size
 block: ∀k,k<w.heap.size→k≠b→k≠m→w'.heap[k]?=w.heap[k]?
theorem eo.of_below {w w':World} (b m:Nat) (h:Below w.heap.size w w'):eo w w' b m:=⟨h.os,h.tape,h.output,h.size,fun k d _ _=>h.block k d⟩
theorem eo.of_left {w w':World} {b:Nat} (m:Nat) (h:w.grownBy w' (some b)):eo w w' b m:=⟨h.os,h.tape,h.output,h.size,fun k d hb _=>h.block k d (fun e=>hb (by injection e))⟩
theorem eo.of_right {w w':World} {m:Nat} (b:Nat) (h:w.grownBy w' (some m)):eo w w' b m:=⟨h.os,h.tape,h.output,h.size,fun k d _ f=>h.block k d (fun e=>f (by injection e))⟩
theorem eo.trans {a c d:World} {b m:Nat} (h:eo a c b m) (k:eo c d b m):eo a d b m:=
 ⟨k.os.trans h.os,k.tape.trans h.tape,k.output.trans h.output,Nat.le_trans h.size k.size,fun q z f y=>(k.block q (Nat.lt_of_lt_of_le z h.size) f y).trans (h.block q z f y)⟩
theorem eo.to {w w':World} {b m B:Nat} (h:eo w w' b m) (y:B≤w.heap.size) (d:B≤b) (f:B≤m):Below B w w':=⟨h.os,h.tape,h.output,h.size,fun k z=>h.block k (by omega) (by omega) (by omega)⟩
theorem eo.cell {w w':World} {b m k:Nat} (h:eo w w' b m) (y:k<w.heap.size) (d:k≠b) (f:k≠m) (o:Nat):w'.cell? ⟨k,o,none⟩=w.cell? ⟨k,o,none⟩:=World.cell?_of_block (w:=w) (a:=⟨k,o,none⟩) (h.block k y d f)
theorem oj {B b:Nat} {d W:World} {f y z A E F G:Value} (h:Below B d W) (hb:B≤b):Below B d (((((((W.setCell ⟨b,0,none⟩ f).setCell ⟨b,1,none⟩ y).setCell ⟨b,2,none⟩ z).setCell ⟨b,3,none⟩ A).setCell ⟨b,4,none⟩ E).setCell ⟨b,5,none⟩ F).setCell ⟨b,6,none⟩ G):=(((((((h.setCell (p:=⟨b,0,none⟩) hb _).setCell (p:=⟨b,1,none⟩) hb _).setCell (p:=⟨b,2,none⟩) hb _).setCell (p:=⟨b,3,none⟩) hb _).setCell (p:=⟨b,4,none⟩) hb _).setCell (p:=⟨b,5,none⟩) hb _).setCell (p:=⟨b,6,none⟩) hb _)
theorem ag {w d y:World} (f:Below w.heap.size w d) (z:Below d.heap.size d y):Below w.heap.size w y:=f.trans (z.mono f.size)
def iL (w:World) (v:Value):Prop:= ∀g,v.ownBlock=some g→dx w g
theorem om {w:World} {g:Nat} {cur:Array Value} {T:TypeId} {d:Nat×Nat} (h:w.heap[g]?=some (.cells cur T d)) (y: ∀s,Value.string s∉cur.toList):dx w g:=by
 intro o s f;have:cur.toList[o]?=some (.string s):=by simpa[World.cell?,h]using f
 exact y s (List.mem_of_getElem? this)
theorem uD {w:World} {g:Nat} {cur:Array Value} {T:TypeId} {d:Nat×Nat} (h:w.heap[g]?=some (.cells cur T d)) (f:dx w g): ∀s,Value.string s∉cur.toList:=by
 intro s z;obtain⟨o,y⟩:=List.getElem?_of_mem z
 exact f o s (by simpa[World.cell?,h]using y)
theorem dx.keep {w w':World} {g:Nat} (h:dx w g) (hb:w'.heap[g]?=w.heap[g]?):dx w' g:=by
 intro o s;rw[World.cell?_of_block (w:=w) (a:=⟨g,o,none⟩) hb];exact h o s
theorem iL.below {w w':World} {v:Value} (h:iL w v) (f: ∀g,v.ownBlock=some g→g<w.heap.size) (y:Below w.heap.size w w'):iL w' v:=fun g d=>(h g d).keep (y.block g (f g d))
theorem uE {z:Array Value} (F: ∀s,Value.string s∉z.toList) (n:Nat) (s:ByteArray):Value.string s∉(Builtin.zeroCells z n).toList:=by
 intro h;simp only[Builtin.zeroCells]at h;simp at h
 obtain⟨k,E,A⟩:=h
 have d:0<z.size:=by
  rcases Nat.eq_zero_or_pos z.size with f|f
  · rw[f]at E;simp at E
  · exact f
 have y:k % z.size<z.size:=Nat.mod_lt _ d;rw[getElem!_pos z _ y]at A;exact F s (by rw[←A];simp)
theorem AM {P:Program} (w:World) (base:Nat) (t Y e:TypeId) (i:TypeInfo) (z:Value) (size bytes:Nat) (ht:P.underlying t=some (.slice e)) (hi:P.info? e=some i) (hz:i.zero=some z)
    (M:i.size=size) (I0:i.bytes=bytes) (Iv:z.cells.size=size) (I9:0<size) (v:Value) (n:Nat) (xs:List Value) (G:w.ownsRow base e size v n xs)
    (a:Addr) (m c:Nat) (d:List Value) (V:d.length=m*size) (A: ∀j u,d[j]?=some u→w.cell? (a.add j)=some u) (h1: ∀u∈d,u.oneCell'=true)
    (Z:n+m≤maxLen) (F:(n+m)*bytes≤140737488355328) (hm:0<m) (T: ∀s,Value.string s∉z.cells.toList) (K: ∀s,Value.string s∉d) (S:iL w v)
    {v':Value} {w':World} (hr:(Builtin.append_ #[t,t] Y #[v,.slice (some a) m c]).run P w= .ok v' w'):iL w' v':=by
 subst M;subst I0;have X:n+m≤9223372036854775807:=by simp only[maxLen]at Z;omega
 rcases G.2 with⟨rfl,rfl⟩|⟨g,J,cur,rfl,I6,U,I8,I7,I5,N⟩
 · have E:=run_append_nil (P:=P) w t Y e i z ht hi hz a m c d V A hm (by omega) (by have hb:=F;simp only[Nat.zero_add]at hb;omega)
   rw[hr]at E;injection E with E O
   subst E;subst O;intro g y;simp only[Value.ownBlock,Option.some.injEq]at y;subst y;refine om (heap_alloc_new w.drew _) ?_
   intro s f;rw[Array.toList_append,List.mem_append]at f;rcases f with f|f
   · exact K s f
   · exact uE T _ s f
 · by_cases H:n+m≤J
   · have Q:n*i.size+d.length≤cur.size:=by rw[V,I5,←Nat.add_mul];exact Nat.mul_le_mul_right _ H
     have E:=run_append_room (P:=P) w t Y e i ht hi g n J cur U a m c d V A h1 H Q;rw[hr]at E;injection E with E O
     subst E;subst O;have I:=uD U (S g rfl);intro g' y;simp only[Value.ownBlock,Option.some.injEq]at y;subst y;refine om (setRow_heap w g cur _ e _ U) ?_
     intro s f;simp only[List.mem_append]at f;rcases f with(f|f)|f
     · exact I s (List.mem_of_mem_take f)
     · exact K s f
     · exact I s (List.mem_of_mem_drop f)
   · have E:=run_append_grow (P:=P) w t Y e i z ht hi hz ⟨g,0,none⟩ n J xs G.1 (G.cells (g:=g) rfl) a m c d V A (by omega) (by omega) (growslice_fits (by omega) F)
     rw[hr]at E;injection E with E O
     subst E;subst O;have I:=uD U (S g rfl);intro g' y;simp only[Value.ownBlock,Option.some.injEq]at y;subst y;refine om (heap_alloc_new w.drew _) ?_
     intro s f;rw[Array.toList_append,Array.toList_append,List.mem_append,List.mem_append]at f;rcases f with(f|f)|f
     · have:Value.string s∈xs:=by simpa using f
       rw[←N]at this;exact I s (List.mem_of_mem_take this)
     · exact K s (by simpa using f)
     · exact uE T _ s f
theorem AN {P:Program} (w:World) {K:Array Oper} {rest:List Oper} {o:Oper} {a:Act} {Q:Exit→Act→World→Prop} (N:o.guard=none) (s x:Operand) (t:TypeId)
    (ho:o.op= .call {callee:= .builtin .append,args:= #[s,x],argTypes:= #[t,t]})
    (base:Nat) (e:TypeId) (i:TypeInfo) (z:Value) (size bytes:Nat) (Z:P.underlying t=some (.slice e)) (V:P.info? e=some i) (hz:i.zero=some z)
    (A:i.size=size) (H:i.bytes=bytes) (J:z.cells.size=size) (I:0<size)
    (v:Value) (n:Nat) (xs:List Value) (hs:a.eval s=v) (E:w.ownsRow base e size v n xs)
    (ad:Addr) (m c:Nat) (d:List Value) (hx:a.eval x= .slice (some ad) m c) (X:d.length=m*size) (y: ∀j u,d[j]?=some u→w.cell? (ad.add j)=some u) (U: ∀u∈d,u.oneCell'=true)
    (G:n+m≤maxLen) (f:(n+m)*bytes≤140737488355328) (F:base≤w.heap.size) (hm:0<m) (T: ∀s,Value.string s∉z.cells.toList) (O: ∀s,Value.string s∉d) (S:iL w v)
    (h: ∀M w',w'.ownsRow base e size M (n+m) (xs++d)→w.grownBy w' v.ownBlock→iL w' M→wpList P K Q rest (a.put o.dst M) w'):wpList P K Q (o::rest) a w:=by
 refine wpList_plain N fun _ hK=>?_
 obtain⟨M,w',Y,h2,h3,h4⟩:=run_append_own (P:=P) w base t o.type e i z size bytes Z V hz A H J I v n xs E ad m c d X y U G f F
 have h5:=AM (P:=P) w base t o.type e i z size bytes Z V hz A H J I v n xs E ad m c d X y U G f hm T O S Y;unfold Oper.wp execOp;simp only[ho,resolve,invoke,builtin,Sem.run_bind,Sem.run_pure,Result.andThen_ok,List.map_toArray,List.map_cons,List.map_nil,hs,hx,Y];exact hK _ _ (h M w' h2 h3 h5)
theorem an.row {w w':World} {x v:Value} {L:List En} (h:an w x L) (d:w.grownBy w' v.ownBlock) (z:iL w v):an w' x L:=by
 cases f:v.ownBlock with
 |none=>
  rw[f]at d;exact h.below ⟨d.os,d.tape,d.output,d.size,fun k y=>d.block k y (by simp)⟩
 |some g=>
  rw[f]at d;exact h.nb d (z g f)
def aI (B:Nat) (w:World) (v:Value):Prop:= ∀g,v.ownBlock=some g→B≤g∧ ∃cur T,w.heap[g]?=some (.cells cur T (0,0))
theorem gM (B:Nat) (w:World):aI B w (.slice none 0 0):=fun g h=>by simp[Value.ownBlock]at h
theorem aI.lt {B:Nat} {w:World} {v:Value} (h:aI B w v): ∀g,v.ownBlock=some g→g<w.heap.size:=fun g d=>by
 obtain⟨_,cur,T,f⟩:=h g d
 exact cM f
theorem aI.below {B:Nat} {w w':World} {v:Value} (h:aI B w v) (z:Below w.heap.size w w'):aI B w' v:=fun g y=>by
 obtain⟨f,cur,T,d⟩:=h g y
 exact⟨f,cur,T,(z.block g (cM d)).trans d⟩
theorem aI.mono {B B':Nat} {w:World} {v:Value} (h:aI B w v) (f:B'≤B):aI B' w v:=fun g d=>⟨Nat.le_trans f (h g d).1,(h g d).2⟩
theorem iM {w:World} {base:Nat} {e:TypeId} {size:Nat} {v:Value} {n:Nat} {xs:List Value} (h:w.ownsRow base e size v n xs):aI base w v:=by
 obtain⟨_,y⟩:=h
 rcases y with⟨rfl,_⟩|⟨g,f,cur,rfl,z,A,_⟩
 · exact gM _ _
 · intro E d
   simp only[Value.ownBlock,Option.some.injEq]at d;subst d;exact⟨z,cur,e,A⟩
def is (B:Nat) (w:World) (v:Value) (L:List En):Prop:=an w v L∧aI B w v
theorem is.mono {A B:Nat} {w:World} {v:Value} {L:List En} (h:is B w v L) (d:A≤B):is A w v L:=⟨h.1,h.2.mono d⟩
theorem lu (B:Nat) (w:World):is B w (.slice none 0 0) []:=⟨⟨none,0,rfl,Nat.le_refl _,by simp,fun i d=>absurd d (by simp)⟩,gM _ _⟩
theorem AO {w:World} {base:Nat} {T:TypeId} {v:Value} {L:List En} (h:w.ownsRow base T 4 v L.length (cr L)) (d:L.length≤1000000000000000):is base w v L:=⟨AA h d,iM h⟩
def aW (n:Nat) (w:World) (v:Value) (R:List (List Value)):Prop:= ∃a cap,v= .slice a R.length cap∧R.length≤cap∧R.length≤1000000000000000∧(∀r∈R,r.length=n∧ ∀u∈r,u.oneCell'=true)∧
 ∀i (h:i<R.length),∃b o,a=some ⟨b,o,none⟩∧b<w.heap.size∧ ∀c u,R[i][c]?=some u→w.cell? ⟨b,o+i*n+c,none⟩=some u
theorem aW.below {n:Nat} {w w':World} {v:Value} {R:List (List Value)} (h:aW n w v R) (f:Below w.heap.size w w'):aW n w' v R:=by
 obtain⟨a,d,J,y,z,E,A⟩:=h
 refine⟨a,d,J,y,z,E,fun i H=>?_⟩
 obtain⟨b,o,F,hb,G⟩:=A i H
 exact⟨b,o,F,Nat.lt_of_lt_of_le hb f.size,fun c u I=>(f.cell (p:=⟨b,o+i*n+c,none⟩) hb).trans (G c u I)⟩
theorem iu {n:Nat}: ∀{R:List (List Value)},(∀r∈R,r.length=n)→R.flatten.length=R.length*n
 |[],_=>by simp
 |r::R,h=>by
  rw[List.flatten_cons,List.length_append,h r (by simp),iu (fun x d=>h x (by simp[d])),List.length_cons,Nat.add_mul];omega
theorem qv {n:Nat}: ∀{R:List (List Value)} (i c:Nat) (h:i<R.length),(∀r∈R,r.length=n)→c<n→R.flatten[i*n+c]?=R[i][c]?
 |[],i,c,h,_,_=>absurd h (Nat.not_lt_zero _)
 |r::R,0,c,_,hr,hc=>by
  rw[List.flatten_cons,Nat.zero_mul,Nat.zero_add,List.getElem?_append_left (by rw[hr r (by simp)];exact hc)];rfl
 |r::R,i+1,c,h,hr,hc=>by
  have d:=hr r (by simp);rw[List.flatten_cons,List.getElem?_append_right (by rw[d,Nat.add_mul];omega),d];have e:(i+1)*n+c-n=i*n+c:=by rw[Nat.add_mul];omega
  rw[e,qv i c (by simpa using h) (fun x f=>hr x (by simp[f])) hc];rfl
theorem jX {n:Nat} (F:0<n) {w:World} {b o:Nat} {R:List (List Value)} (G: ∀r∈R,r.length=n) (h: ∀i (h:i<R.length),∀c u,R[i][c]?=some u→w.cell? ⟨b,o+i*n+c,none⟩=some u): ∀j u,R.flatten[j]?=some u→w.cell? ((⟨b,o,none⟩:Addr).add j)=some u:=by
 intro j u E
 have d:j<R.length*n:=by
  have:=(List.getElem?_eq_some_iff.1 E).1
  rw[iu G]at this;exact this
 have f:j/n<R.length:=(Nat.div_lt_iff_lt_mul F).2 d;have y:j/n*n+j % n=j:=Nat.div_add_mod' j n;have z:=qv (j/n) (j % n) f G (Nat.mod_lt _ F);rw[y,E]at z;have A:=h _ f _ u z.symm;rw[Addr.add_lit];rw[Nat.add_assoc,y]at A;exact A
theorem iN {n:Nat} {w:World} {base:Nat} {T:TypeId} {v:Value} {R:List (List Value)} (h:w.ownsRow base T n v R.length R.flatten) (O:R.length≤1000000000000000) (A: ∀r∈R,r.length=n∧ ∀u∈r,u.oneCell'=true):aW n w v R:=by
 have I:=h;obtain⟨_,J⟩:=h
 rcases J with⟨rfl,H⟩|⟨g,f,cur,rfl,P,N,M,Q,H,F⟩
 · have:R=[]:=List.length_eq_zero_iff.1 H
   subst this;exact⟨none,0,rfl,Nat.le_refl _,by simp,by simp,fun i d=>absurd d (by simp)⟩
 · refine⟨some ⟨g,0,none⟩,f,rfl,M,O,A,fun i d=>⟨g,0,rfl,cM N,fun c u G=>?_⟩⟩
   have y:c<n:=by
    have:=(List.getElem?_eq_some_iff.1 G).1
    rw[(A _ (List.getElem_mem d)).1]at this;exact this
   have z:i*n+c<R.length*n:=by
    have K:(i+1)*n≤R.length*n:=Nat.mul_le_mul_right n d;rw[Nat.add_mul]at K;omega
   rw[Nat.zero_add,I.cellAt (i*n+c) z,qv i c d (fun r E=>(A r E).1) y];exact G
theorem kL {n:Nat} {R:List (List Value)} (y: ∀r∈R,r.length=n∧ ∀u∈r,u.oneCell'=true): ∀u∈R.flatten,u.oneCell'=true:=by
 intro u z;obtain⟨r,d,f⟩:=List.mem_flatten.1 z
 exact(y r d).2 u f
theorem AP (x y:En) (W:World):Calls prog 360 #[.agg #[.string x.path,.bool x.folder,.string x.text,.int .i64 x.ver],.agg #[.string y.path,.bool y.folder,.string y.text,.int .i64 y.ver]] W fun e w'=>e= .returned (.int .i64 (Pp.cfE x y))∧ ∃q d,w'=Sort.grow (W.drewN q) d:=by
 have f:Hid (Lib.compareBytes x.path.data.toList y.path.data.toList=Pp.cfE x y):=rfl;go_enter func360,ntmps360
 go_wp2_with fail;refine(Tryz.strings_Compare _ _ _).mono ?_
 rintro e z ⟨rfl,rfl⟩;rw[f.out];go_wp2;go_ret;exact⟨rfl,0,_,by rw[Sort.alloc_eq_grow,Sort.alloc_eq_grow,Sort.grow_grow];rfl⟩
theorem AQ {B:Nat} {d w:World} (h:Below B d w) (f:B≤w.heap.size) (os:Array Obj):Below B d (Sort.grow w os):=
 h.trans ⟨rfl,rfl,rfl,by simp[Sort.grow],fun k y=>by simp[Sort.grow,Array.getElem?_append_left (show k<w.heap.size by omega)]⟩
theorem uF: ∀(L:List En) (i c:Nat) (h:i<L.length),c<4→(cr L)[i*4+c]?=(Pp.cells L[i])[c]?
 |[],i,c,h,_=>absurd h (Nat.not_lt_zero _)
 |a::r,0,c,_,hc=>by
  rw[cr,List.flatMap_cons,Nat.zero_mul,Nat.zero_add,List.getElem?_append_left (by simpa[Pp.cells]using hc)];rfl
 |a::r,i+1,c,h,hc=>by
  have ih:=uF r i c (by simpa using h) hc;rw[cr,List.flatMap_cons,List.getElem?_append_right (by simp[Pp.cells];omega)];rw[show(i+1)*4+c-(Pp.cells a).length=i*4+c by simp[Pp.cells];omega];exact ih
theorem uG (e:En) (c:Nat) (d:c<4):(Pp.cells e)[c]?=some ((Pp.cells e)[c]!):=by
 have:c<(Pp.cells e).length:=by simpa[Pp.cells]using d
 rw[List.getElem?_eq_getElem this,getElem!_pos _ c this]
theorem uH [Inhabited En] {w:World} {base g n cap:Nat} {T:TypeId} {L:List En} (h:w.ownsRow base T 4 (.slice (some ⟨g,0,none⟩) n cap) n (cr L)) (z:n=L.length):Sort.HoldsK Pp.cells 4 w g 0 L.toArray:=by
 subst z;intro j d;rw[Sort.size_flatK,List.size_toArray]at d;refine⟨?_,by rw[Nat.zero_add];exact h.frozenAt j⟩
 rw[Nat.zero_add,h.cellAt j d,id,Sort.get_flatK _ _ _ _ (by simpa using d)];have f:j/4<L.length:=by omega
 have y:=uF L (j/4) (j % 4) f (by omega);rw[show j/4*4+j % 4=j by omega]at y;rw[y,uG _ _ (by omega)];have e:L.toArray[j/4]! =L[j/4]:=by rw[getElem!_pos _ _ (by simpa using f)];simp
 rw[e]
theorem Pp.heap_sorted {f:Type} [Inhabited f] (enc:f→List Value) (k:Nat) {w:World} {g n:Nat} (d:Array f) (os:Array Obj) {cur:Array Value} {T:TypeId} {z:Nat×Nat} (h:w.heap[g]?=some (.cells cur T z)) (A:g<w.heap.size): ∃y,(sortWorldK enc k w g 0 n d os).heap[g]?=some (.cells y T z):=by
 simp only[sortWorldK,Sort.putRowK,Sort.putRow,Sort.mapBlock,Sort.grow,Sort.ahead];rw[Array.getElem?_append_left (by simpa using A),Array.getElem?_modify,if_pos rfl,h];exact⟨_,rfl⟩
theorem Pp.lies_holds [Inhabited En] {w:World} {g cap:Nat} {d:Array En} (F:g<w.heap.size) (h:Sort.HoldsK Pp.cells 4 w g 0 d) (E:d.size≤cap) (f:d.size≤1000000000000000):an w (.slice (some ⟨g,0,none⟩) d.size cap) d.toList:=by
 refine⟨some ⟨g,0,none⟩,cap,by simp,by simpa using E,by simpa using f,fun i G=>⟨g,0,rfl,F,?_⟩⟩
 have z:i<d.size:=by simpa using G
 have e:d[i]! =d.toList[i]:=by rw[getElem!_pos d i z];simp
 have key: ∀c,c<4→w.cell? ⟨g,0+i*4+c,none⟩=(Pp.cells d.toList[i])[c]?:=by
  intro c y;have A:i*4+c<d.size*4:=by omega
  have:=(h (i*4+c) (by rw[Sort.size_flatK];exact A)).1
  rw[id,Sort.get_flatK _ _ _ _ A,show(i*4+c)/4=i by omega,show(i*4+c) % 4=c by omega,e,←uG _ c y]at this;rw[Nat.add_assoc];exact this
 exact⟨key 0 (by omega),key 1 (by omega),key 2 (by omega),key 3 (by omega)⟩
theorem AR {p:Prop} (h:p):Hid p:=h
theorem uI (L:List En) (base g cap:Nat) (w:World) (Q:w.ownsRow base 107 4 (.slice (some ⟨g,0,none⟩) L.length cap) L.length (cr L)) (hn:L.length≤1000000000) (Y:L.length≤cap) (hb:base≤g) (J:g<w.heap.size):
    Calls prog 322 #[.slice (some ⟨g,0,none⟩) L.length cap] w fun e w'=>e= .returned (.tuple #[])∧ ∃M:List En,M.Perm L∧M.Pairwise (fun a b=>Pp.lt b a=false)∧is base w' (.slice (some ⟨g,0,none⟩) L.length cap) M∧Below base w w':=by
 have V:Inhabited En:=⟨⟨⟨#[]⟩,false,⟨#[]⟩,0⟩⟩
 have I:=uH Q rfl;have G:=AR (iM Q g rfl).2;have S: ∀A w,(callFunc 360 A).run prog w= .ok (.enter 360 A) w:=enters_of func360 (by kernel_rfl) rfl;have d:=AnyQ.slices_SortFunc Tryz.sortE 4 Tryz.isAgg107 Tryz.sizeOf107 Pp.cells (fun _=>rfl) (fun x=>Pp.cells_one x) Pp.cfE Al 360 #[] g 0 cap L.toArray w S (fun _ _ _ _ x y=>AP x y _) I J (by simp;omega);change Calls prog 359 _ _ _ at d
 rw[List.size_toArray]at d;have X:Hid (Sort.HoldsK Pp.cells 4 w g 0 L.toArray):=I;clear I Q S;go_enter func322,ntmps322
 go_wp2_with fail;refine d.mono ?_
 rintro e w' ⟨rfl,f,n,os,U,E,rfl⟩;have F:Hid (Sort.PermIn 0 L.length L.toArray f):=U;have H:Hid (Sort.SortedIn (ltOf Pp.cfE) 0 L.length f):=E;clear U E d;go_wp2;go_end0
 have z:f.size=L.length:=by have:=F.out.1;simpa using this
 refine⟨rfl,f.toList,?_,?_,?_,?_⟩
 · have:=F.out.2.2
   rw[←z]at this;simp only[Array.extract_size]at this;rw[z,←List.size_toArray,Array.extract_size]at this;exact this
 · rw[List.pairwise_iff_getElem]
   intro i j hi hj O;have P:j<f.size:=by simpa using hj
   have N:i<f.size:=by simpa using hi
   have:=H.out i j (Nat.zero_le _) O (by omega)
   rw[oe,getElem!_pos f i N,getElem!_pos f j P]at this;simpa using this
 · refine⟨?_,fun g' K=>by cases K;obtain⟨cur,T,Z⟩:=G.out;exact⟨hb,(Pp.heap_sorted _ _ _ _ Z J).imp fun _ h=>⟨T,h⟩⟩⟩
   rw[←z];exact Pp.lies_holds (by rw[sortWorldK];simp[Sort.grow,Sort.size_putRowK,Sort.ahead];omega) (holdsK_sortWorldK_c Pp.cells 4 w g 0 L.toArray f n os X.out J (by rw[z];simp)) (by omega) (by omega)
 · exact AQ (Lib.below_putRow (Below.refl base w) hb) (by simp[Sort.putRow,Sort.mapBlock,Sort.ahead];omega) os
structure Gr where
 fo:ByteArray
 wh:ByteArray
 ri:Int
def fS (w:World) (b o:Nat) (g:Gr):Prop:=w.cell? ⟨b,o,none⟩=some (.string g.fo)∧w.cell? ⟨b,o+1,none⟩=some (.string g.wh)∧w.cell? ⟨b,o+2,none⟩=some (.int .i64 g.ri)
def cD (w:World) (v:Value) (G:List Gr):Prop:= ∃a cap,v= .slice a G.length cap∧G.length≤cap∧G.length≤1000000000000000∧ ∀i (h:i<G.length),∃b o,a=some ⟨b,o,none⟩∧b<w.heap.size∧fS w b (o+i*3) G[i]
theorem fS.below {w w':World} {b o:Nat} {g:Gr} (h:fS w b o g) (hb:b<w.heap.size) (d:Below w.heap.size w w'):fS w' b o g:=
 ⟨(d.cell (p:=⟨b,o,none⟩) hb).trans h.1,(d.cell (p:=⟨b,o+1,none⟩) hb).trans h.2.1,(d.cell (p:=⟨b,o+2,none⟩) hb).trans h.2.2⟩
theorem cD.below {w w':World} {v:Value} {G:List Gr} (h:cD w v G) (f:Below w.heap.size w w'):cD w' v G:=by
 obtain⟨a,d,I,y,z,A⟩:=h
 refine⟨a,d,I,y,z,fun i H=>?_⟩
 obtain⟨b,o,E,hb,F⟩:=A i H
 exact⟨b,o,E,Nat.lt_of_lt_of_le hb f.size,F.below hb f⟩
theorem on (w:World):cD w (.slice none 0 0) []:=⟨none,0,rfl,Nat.le_refl _,by decide,fun i h=>absurd h (by simp)⟩
def jY (G:List Gr):Prop:= ∀g∈G,g.fo.size≤150000000000000∧g.wh.size≤150000000000000
theorem qw {w d:World} {a b c:Value} {T:TypeId} (h:Below (w.alloc (.cells #[a,b,c] T)).heap.size (w.alloc (.cells #[a,b,c] T)) d):
    d.cell? ⟨w.heap.size,0,none⟩=some a∧d.cell? ⟨w.heap.size,1,none⟩=some b∧d.cell? ⟨w.heap.size,2,none⟩=some c∧Below w.heap.size w d∧w.heap.size<d.heap.size:=by
 have f:w.heap.size<(w.alloc (.cells #[a,b,c] T)).heap.size:=by simp
 refine⟨?_,?_,?_,((Below.refl _ _).alloc (Nat.le_refl _) _).trans (h.mono (Nat.le_of_lt f)),Nat.lt_of_lt_of_le f h.size⟩
 · exact(h.cell (p:=⟨w.heap.size,0,none⟩) f).trans (by simp)
 · exact(h.cell (p:=⟨w.heap.size,1,none⟩) f).trans (by simp)
 · exact(h.cell (p:=⟨w.heap.size,2,none⟩) f).trans (by simp)
def lw (g:Gr):Bool:=aM g.fo.data.toList && aM g.wh.data.toList
def cH (g:Gr):Int:=if lw g=true then(if g.ri<1∨3<g.ri then 3 else 0)else 1
theorem AS (g:Gr) (w:World) (K:g.fo.size≤150000000000000) (M:g.wh.size≤150000000000000):
    Calls prog 131 #[.agg #[.string g.fo,.string g.wh,.int .i64 g.ri]] w fun e w'=>e= .returned (.int .i64 (cH g))∧Below w.heap.size w w':=by
 have z:bH [g.fo,g.wh]=if lw g=true then 0 else 1:=by simp[bH,lw]
 have F:(bH [g.fo,g.wh]=1∧cH g=1)∨(bH [g.fo,g.wh]=0∧g.ri<1∧cH g=3)∨(bH [g.fo,g.wh]=0∧1≤g.ri∧3<g.ri∧cH g=3)∨(bH [g.fo,g.wh]=0∧1≤g.ri∧g.ri≤3∧cH g=0):=by
  rw[z,cH];cases lw g with
  |false=>left;simp
  |true=>
   right
   by_cases A:g.ri<1
   · left;simp[A]
   · right
     by_cases J:3<g.ri
     · left;simp[J];omega
     · right;simp;omega
 clear z;rcases F with⟨y,ae⟩|⟨y,A,ae⟩|⟨y,A,I,ae⟩|⟨y,A,I,ae⟩
 all_goals
  have H:=ak y;have G:=ak ae;clear y ae;go_enter func131,ntmps131
  go_wp2_with fail;refine(nt [g.fo,g.wh] (w.heap.size+1) 0 2 _ (by simp) (fun i h=>by match i,h with|0,_=>exact Nat.le_trans K (by decide)|1,_=>exact Nat.le_trans M (by decide)) (by simp) (fun i h=>by match i,h with|0,_=>simp|1,_=>simp)).mono ?_
  rintro e O ⟨rfl,d⟩;rw[H.out];have f:Below (w.alloc (.cells #[.string g.fo,.string g.wh,.int .i64 g.ri] 95)).heap.size (w.alloc (.cells #[.string g.fo,.string g.wh,.int .i64 g.ri] 95)) O:=((Below.refl _ _).alloc (Nat.le_refl _) _).trans (d.mono (by simp));obtain⟨P,Q,S,E,N⟩:=qw f
  clear d f;go_wp2_with fail;go_ret;exact⟨by rw[G.out];rfl,E⟩
def fT (A B:List En):Int:=if aH A=0 then aH B else aH A
end Go.Proofs.YtcmlnelpcjfocaaGreatDoor
