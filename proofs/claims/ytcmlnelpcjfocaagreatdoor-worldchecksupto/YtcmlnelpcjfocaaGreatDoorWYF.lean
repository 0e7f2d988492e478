/- Small things of trees. -/
import Derived.Test.YtcmlnelpcjfocaaGreatDoorWYC
import Derived.Test.YtcmlnelpcjfocaaGreatDoorWYD
set_option linter.unusedSimpArgs false
set_option linter.unusedVariables false
namespace Go.Proofs.YtcmlnelpcjfocaaGreatDoor
open Go.RowKit Go.Proofs.Tryz
set_option maxHeartbeats 1000000
set_option maxRecDepth 100000
theorem hid {p:Prop} (h:p):Hid p:=h
theorem kJ (w:World):an w (.slice none 0 0) []:=⟨none,0,rfl,Nat.le_refl _,by simp,fun i d=>absurd d (by simp)⟩
theorem kK {l:List UInt8} (h:az l=0):l.length≤80:=by
 have d:=zJ h;rw[Pp.big,Bool.or_eq_false_iff]at d;have:=of_decide_eq_false d.2
 omega
theorem gL (L:List En) (v:Value) (w:World) (z:an w v L) (y:da L):
    Calls prog 93 #[v] w fun e w'=>e= .returned (.int .i64 (aH L))∧Below w.heap.size w w':=by
 by_cases F:L.length≤60
 · exact Ax L v w z (by omega) y
 · have A:=hid (show 2=aH L from by rw[aH,if_pos (by omega)])
   obtain⟨a,E,rfl,f,d,G⟩:=z
   have H:60<(L.length:Int):=by omega
   clear G y;go_enter func93,ntmps93
   go_wp2_with fail;go_ret;exact⟨aD A.out,Below.refl _ _⟩
def Pp.cells (e:En):List Value:=[.string e.path,.bool e.folder,.string e.text,.int .i64 e.ver]
def cr (L:List En):List Value:=L.flatMap Pp.cells
theorem iq (L:List En) (e:En):cr L++Pp.cells e=cr (L++[e]):=by simp[cr]
theorem Pp.cells_one (e:En): ∀u∈Pp.cells e,u.oneCell'=true:=by
 intro u d;simp only[Pp.cells,List.mem_cons,List.not_mem_nil,or_false]at d;rcases d with rfl|rfl|rfl|rfl<;>rfl
theorem ia (w:World) (e:En) (T:TypeId): ∀j u,(Pp.cells e)[j]?=some u→(w.alloc (.cells #[.string e.path,.bool e.folder,.string e.text,.int .i64 e.ver] T)).cell? ((⟨w.heap.size,0,none⟩:Addr).add j)=some u:=by
 intro j u d;match j,d with
 |0,d=>simp[Pp.cells]at d;subst d;simp[Addr.add]
 |1,d=>simp[Pp.cells]at d;subst d;simp[Addr.add]
 |2,d=>simp[Pp.cells]at d;subst d;simp[Addr.add]
 |3,d=>simp[Pp.cells]at d;subst d;simp[Addr.add]
 |j+4,d=>simp[Pp.cells]at d
theorem Ay {L:List En} {k:Nat} (h:k<L.length) {d:En→Bool} (f:d L[k]=true):(L.take (k+1)).filter d=(L.take k).filter d++[L[k]]:=by
 rw[List.take_succ_eq_append_getElem h,List.filter_append];simp[f]
theorem Az {L:List En} {k:Nat} (h:k<L.length) {d:En→Bool} (f:d L[k]=false):(L.take (k+1)).filter d=(L.take k).filter d:=by
 rw[List.take_succ_eq_append_getElem h,List.filter_append];simp[f]
theorem Tryz.infoE:(prog.info? 107).map (fun i=>(i.zero,i.size,i.bytes))=some (some (.agg #[.string ⟨#[]⟩,.bool false,.string ⟨#[]⟩,.int .i64 0]),4,48):=by kernel_rfl
theorem uw: ∀(L:List En) (i:Nat) (h:i<L.length) (c:Nat),c<4→(cr L)[i*4+c]?=(Pp.cells L[i])[c]?
 |[],i,h,_,_=>absurd h (by simp)
 |a::r,0,_,c,hc=>by
  show(Pp.cells a++cr r)[0*4+c]?=_
  rw[List.getElem?_append_left (by simp[Pp.cells];omega)];simp
 |a::r,i+1,h,c,hc=>by
  show(Pp.cells a++cr r)[(i+1)*4+c]?=_
  rw[List.getElem?_append_right (by simp[Pp.cells];omega)];have e:(i+1)*4+c-(Pp.cells a).length=i*4+c:=by simp[Pp.cells];omega
  rw[e,uw r i (by simpa using h) c hc];simp
theorem AA {w:World} {base:Nat} {T:TypeId} {v:Value} {L:List En} (h:w.ownsRow base T 4 v L.length (cr L)) (I:L.length≤1000000000000000):an w v L:=by
 have G:=h;obtain⟨_,H⟩:=h
 rcases H with⟨rfl,F⟩|⟨g,d,cur,rfl,J,E,f,K,F,A⟩
 · have:L=[]:=List.length_eq_zero_iff.1 F
   subst this;exact⟨none,0,rfl,Nat.le_refl _,by simp,fun i y=>absurd y (by simp)⟩
 · have z:g<w.heap.size:=by
    rcases Nat.lt_or_ge g w.heap.size with h|h
    · exact h
    · rw[Array.getElem?_eq_none h]at E;cases E
   refine⟨some ⟨g,0,none⟩,d,rfl,f,I,fun i y=>⟨g,0,rfl,z,?_⟩⟩
   have k: ∀c,c<4→w.cell? ⟨g,0+i*4+c,none⟩=(Pp.cells L[i])[c]?:=fun c f=>by
    rw[Nat.zero_add,G.cellAt (i*4+c) (by omega),uw L i y c f]
   exact⟨k 0 (by decide),k 1 (by decide),k 2 (by decide),k 3 (by decide)⟩
theorem cM {W:World} {b:Nat} {o:Obj} (h:W.heap[b]?=some o):b<W.heap.size:=by
 rcases Nat.lt_or_ge b W.heap.size with d|d
 · exact d
 · rw[Array.getElem?_eq_none d]at h;cases h
theorem aw {w f:World} {a b c d e:Value} {T:TypeId} (h:Below (w.alloc (.cells #[a,b,c,d,e] T)).heap.size (w.alloc (.cells #[a,b,c,d,e] T)) f):
    f.cell? ⟨w.heap.size,0,none⟩=some a∧f.cell? ⟨w.heap.size,1,none⟩=some b∧f.cell? ⟨w.heap.size,2,none⟩=some c∧f.cell? ⟨w.heap.size,3,none⟩=some d∧f.cell? ⟨w.heap.size,4,none⟩=some e∧Below w.heap.size w f∧w.heap.size<f.heap.size:=by
 have y:w.heap.size<(w.alloc (.cells #[a,b,c,d,e] T)).heap.size:=by simp
 refine⟨?_,?_,?_,?_,?_,((Below.refl _ _).alloc (Nat.le_refl _) _).trans (h.mono (Nat.le_of_lt y)),Nat.lt_of_lt_of_le y h.size⟩
 · exact(h.cell (p:=⟨w.heap.size,0,none⟩) y).trans (by simp)
 · exact(h.cell (p:=⟨w.heap.size,1,none⟩) y).trans (by simp)
 · exact(h.cell (p:=⟨w.heap.size,2,none⟩) y).trans (by simp)
 · exact(h.cell (p:=⟨w.heap.size,3,none⟩) y).trans (by simp)
 · exact(h.cell (p:=⟨w.heap.size,4,none⟩) y).trans (by simp)
theorem ux {k:Int} (J:k=1∨k=4) (p q t:ByteArray) (b:Int) (I:az p.data.toList=0):
    (q.toList.isEmpty=false∧Hid (1=aQ ⟨k,p,q,t,b⟩))∨(q.toList.isEmpty=true∧t.toList.isEmpty=false∧Hid (1=aQ ⟨k,p,q,t,b⟩))∨
    (q.toList.isEmpty=true∧t.toList.isEmpty=true∧(t.size:Int)≤300∧b< -1∧Hid (3=aQ ⟨k,p,q,t,b⟩))∨
    (q.toList.isEmpty=true∧t.toList.isEmpty=true∧(t.size:Int)≤300∧1000000<b∧Hid (3=aQ ⟨k,p,q,t,b⟩))∨
    (q.toList.isEmpty=true∧t.toList.isEmpty=true∧(t.size:Int)≤300∧ -1≤b∧b≤1000000∧Hid (0=aQ ⟨k,p,q,t,b⟩)):=by
 have H: ¬k=3:=by omega
 have G: ¬k=2:=by omega
 have f: ¬(k<1∨4<k):=by omega
 have ae:aQ ⟨k,p,q,t,b⟩=if(¬q.data.toList=[])∨(¬t.data.toList=[])then 1 else if 300<t.size then 2 else if b< -1∨1000000<b then 3 else 0:=by
  simp only[aQ,f,if_false,I,not_true,H,G,false_and,not_false_iff,true_and]
 cases E:q.toList.isEmpty with
 |false=>exact Or.inl ⟨rfl,(by rw[ae,if_pos (Or.inl (kF E))]:1=aQ ⟨k,p,q,t,b⟩)⟩
 |true=>
  have y:=(iH q).1 E;cases F:t.toList.isEmpty with
  |false=>exact Or.inr (Or.inl ⟨rfl,rfl,(by rw[ae,if_pos (Or.inr (kF F))]:1=aQ ⟨k,p,q,t,b⟩)⟩)
  |true=>
   have d:=(iH t).1 F;have K:t.size=0:=by rw[Lib.size_eq,d];rfl
   rw[if_neg (by simp[y,d]),if_neg (by omega)]at ae;by_cases z:b< -1
   · exact Or.inr (Or.inr (Or.inl ⟨rfl,rfl,by omega,z,(by rw[ae,if_pos (Or.inl z)]:3=aQ ⟨k,p,q,t,b⟩)⟩))
   · by_cases A:1000000<b
     · exact Or.inr (Or.inr (Or.inr (Or.inl ⟨rfl,rfl,by omega,A,(by rw[ae,if_pos (Or.inr A)]:3=aQ ⟨k,p,q,t,b⟩)⟩)))
     · exact Or.inr (Or.inr (Or.inr (Or.inr ⟨rfl,rfl,by omega,by omega,by omega,(by rw[ae,if_neg (by omega)]:0=aQ ⟨k,p,q,t,b⟩)⟩)))
theorem uy (p q t:ByteArray) (b:Int) (E:az p.data.toList=0):
    (q.toList.isEmpty=false∧Hid (1=aQ ⟨2,p,q,t,b⟩))∨(q.toList.isEmpty=true∧300<(t.size:Int)∧Hid (2=aQ ⟨2,p,q,t,b⟩))∨
    (q.toList.isEmpty=true∧(t.size:Int)≤300∧b< -1∧Hid (3=aQ ⟨2,p,q,t,b⟩))∨
    (q.toList.isEmpty=true∧(t.size:Int)≤300∧1000000<b∧Hid (3=aQ ⟨2,p,q,t,b⟩))∨
    (q.toList.isEmpty=true∧(t.size:Int)≤300∧ -1≤b∧b≤1000000∧Hid (0=aQ ⟨2,p,q,t,b⟩)):=by
 have ae:aQ ⟨2,p,q,t,b⟩=if(¬q.data.toList=[])then 1 else if 300<t.size then 2 else if b< -1∨1000000<b then 3 else 0:=by
  simp[aQ,E]
 cases z:q.toList.isEmpty with
 |false=>exact Or.inl ⟨rfl,(by rw[ae,if_pos (kF z)]:1=aQ ⟨2,p,q,t,b⟩)⟩
 |true=>
  have d:=(iH q).1 z;rw[if_neg (by simp[d])]at ae;by_cases A:300<(t.size:Int)
  · exact Or.inr (Or.inl ⟨rfl,A,(by rw[ae,if_pos (by omega)]:2=aQ ⟨2,p,q,t,b⟩)⟩)
  · rw[if_neg (by omega)]at ae
    by_cases f:b< -1
    · exact Or.inr (Or.inr (Or.inl ⟨rfl,by omega,f,(by rw[ae,if_pos (Or.inl f)]:3=aQ ⟨2,p,q,t,b⟩)⟩))
    · by_cases y:1000000<b
      · exact Or.inr (Or.inr (Or.inr (Or.inl ⟨rfl,by omega,y,(by rw[ae,if_pos (Or.inr y)]:3=aQ ⟨2,p,q,t,b⟩)⟩)))
      · exact Or.inr (Or.inr (Or.inr (Or.inr ⟨rfl,by omega,by omega,by omega,(by rw[ae,if_neg (by omega)]:0=aQ ⟨2,p,q,t,b⟩)⟩)))
theorem uz (p q t:ByteArray) (b:Int) (E:az p.data.toList=0) (A:az q.data.toList=0):
    (t.toList.isEmpty=false∧Hid (1=aQ ⟨3,p,q,t,b⟩))∨
    (t.toList.isEmpty=true∧(t.size:Int)≤300∧b< -1∧Hid (3=aQ ⟨3,p,q,t,b⟩))∨
    (t.toList.isEmpty=true∧(t.size:Int)≤300∧1000000<b∧Hid (3=aQ ⟨3,p,q,t,b⟩))∨
    (t.toList.isEmpty=true∧(t.size:Int)≤300∧ -1≤b∧b≤1000000∧Hid (0=aQ ⟨3,p,q,t,b⟩)):=by
 have ae:aQ ⟨3,p,q,t,b⟩=if(¬t.data.toList=[])then 1 else if 300<t.size then 2 else if b< -1∨1000000<b then 3 else 0:=by
  simp[aQ,E,A]
 cases z:t.toList.isEmpty with
 |false=>exact Or.inl ⟨rfl,(by rw[ae,if_pos (kF z)]:1=aQ ⟨3,p,q,t,b⟩)⟩
 |true=>
  have d:=(iH t).1 z;have F:t.size=0:=by rw[Lib.size_eq,d];rfl
  rw[if_neg (by simp[d]),if_neg (by omega)]at ae;by_cases f:b< -1
  · exact Or.inr (Or.inl ⟨rfl,by omega,f,(by rw[ae,if_pos (Or.inl f)]:3=aQ ⟨3,p,q,t,b⟩)⟩)
  · by_cases y:1000000<b
    · exact Or.inr (Or.inr (Or.inl ⟨rfl,by omega,y,(by rw[ae,if_pos (Or.inr y)]:3=aQ ⟨3,p,q,t,b⟩)⟩))
    · exact Or.inr (Or.inr (Or.inr ⟨rfl,by omega,by omega,by omega,(by rw[ae,if_neg (by omega)]:0=aQ ⟨3,p,q,t,b⟩)⟩))
theorem uA (s t:ByteArray) (y:TypeId) (w:World) (d:s.size≤1000000000000000) (f:t.size≤1000000000000000):
    Calls prog 191 #[.slice (some ⟨w.heap.size,0,none⟩) 2 2] (w.alloc (.cells #[.string s,.string t] y)) fun e w'=>e= .returned (.int .i64 (cd [s.data.toList,t.data.toList]))∧Below w.heap.size w w':=by
 refine(pW [s,t] w.heap.size 2 _ (by simp) (by simp) (fun i h=>?_) (fun i h=>?_)).mono ?_
 · match i,h with
   |0,_=>exact d
   |1,_=>exact f
 · match i,h with
   |0,_=>simp
   |1,_=>simp
 · rintro e w' ⟨rfl,hb⟩
   exact⟨rfl,((Below.refl _ _).alloc (Nat.le_refl _) _).trans (hb.mono (by simp))⟩
theorem og (s t u:ByteArray) (z:TypeId) (w:World) (d:s.size≤1000000000000000) (f:t.size≤1000000000000000) (y:u.size≤1000000000000000):
    Calls prog 191 #[.slice (some ⟨w.heap.size,0,none⟩) 3 3] (w.alloc (.cells #[.string s,.string t,.string u] z)) fun e w'=>e= .returned (.int .i64 (cd [s.data.toList,t.data.toList,u.data.toList]))∧Below w.heap.size w w':=by
 refine(pW [s,t,u] w.heap.size 3 _ (by simp) (by simp) (fun i h=>?_) (fun i h=>?_)).mono ?_
 · match i,h with
   |0,_=>exact d
   |1,_=>exact f
   |2,_=>exact y
 · match i,h with
   |0,_=>simp
   |1,_=>simp
   |2,_=>simp
 · rintro e w' ⟨rfl,hb⟩
   exact⟨rfl,((Below.refl _ _).alloc (Nat.le_refl _) _).trans (hb.mono (by simp))⟩
theorem oh (s t:ByteArray) (w:World) (z:s.size≤1000000000000000) (A:t.size≤1000000000000000):
    Calls prog 358 #[.string s,.string t] w fun e w'=>e= .returned (.bool (aU s.data.toList t.data.toList))∧w'=w:=by
 have d:=zL s.data.toList t.data.toList;cases y:(s.toList==t.toList)with
 |true=>
  have f:=hid (show true=aU s.data.toList t.data.toList from by rw[←d,←Lib.toList_data,←Lib.toList_data,y];rfl);clear d;go_enter func358,ntmps358
  go_wp2_with fail;go_ret;exact⟨bt f.out,rfl⟩
 |false=>
  have f:=hid (show Lib.hasPrefix s.data.toList (t++⟨#[47]⟩).data.toList=aU s.data.toList t.data.toList from by
   rw[←d,Joins.data_append];rw[Lib.toList_data,Lib.toList_data]at y;rw[y];simp)
  clear d;go_enter func358,ntmps358
  go_wp2_with fail;refine(Tryz.strings_HasPrefix _ _ _).mono ?_
  rintro e E ⟨rfl,rfl⟩;rw[f.out];go_wp2;go_ret;exact⟨rfl,rfl⟩
theorem qm (s t:ByteArray) (w:World) (f:s.size≤1000000000000000) (y:t.size≤1000000000000000):
    Calls prog 320 #[.string s,.string t] w fun e w'=>e= .returned (.tuple #[.bool (cd [s.data.toList,t.data.toList]==0 && aU s.data.toList t.data.toList),.int .i64 (cd [s.data.toList,t.data.toList])])∧Below w.heap.size w w':=by
 cases A:(cd [s.data.toList,t.data.toList]==0)with
 |true=>
  have z:=hid (show cd [s.data.toList,t.data.toList]=0 from by simpa using A);clear A;go_enter func320,ntmps320
  go_wp2_with fail;refine(uA s t _ _ f y).mono ?_
  rintro e E ⟨rfl,d⟩;rw[z.out];go_wp2_with fail;refine(oh s t _ f y).mono ?_
  rintro e F ⟨rfl,rfl⟩;go_wp2;go_ret2;exact⟨by rw[z.out];rfl,d⟩
 |false=>
  go_enter func320,ntmps320
  go_wp2_with fail;refine(uA s t _ _ f y).mono ?_
  rintro e E ⟨rfl,d⟩;go_wp2;go_ret2;exact⟨rfl,d⟩
theorem AB (p f t:ByteArray) (h:aU p.data.toList f.data.toList=true):f.size≤p.size∧t++p.extract f.size p.size=⟨(bW p.data.toList f.data.toList t.data.toList).toArray⟩:=by
 have d:f.data.toList.length≤p.data.toList.length:=by
  rcases(fy _ _).1 h with e|⟨r,e⟩
  · rw[e];exact Nat.le_refl _
  · rw[e];simp
 refine⟨by rw[Lib.size_eq,Lib.size_eq];exact d,dN ?_⟩
 rw[Joins.data_append,Lib.extract_data,bW,Lib.size_eq f,Lib.size_eq p,List.take_of_length_le (by rw[List.length_drop];exact Nat.le_refl _)]
theorem uB (p f t:List UInt8):(bW p f t).length≤t.length+p.length:=by simp[bW]
theorem AC {p f t:List UInt8} (h: ¬cd [p,f,t]=0):iD p f t=cd [p,f,t]:=by rw[iD,if_neg h]
theorem AD {p f t:List UInt8} (h:cd [p,f,t]=0) (d:aU p f=false):iD p f t=5:=by rw[iD,if_pos h,if_neg (by rw[d];decide)]
theorem uC {p f t:List UInt8} (h:cd [p,f,t]=0) (d:aU p f=true):iD p f t=az (bW p f t):=by rw[iD,if_pos h,if_pos d]
theorem qp (p f t:ByteArray) (w:World) (U:p.size≤200000000000000) (T:f.size≤200000000000000) (V:t.size≤200000000000000):
    Calls prog 323 #[.string p,.string f,.string t] w fun e w'=>e= .returned (.tuple #[.string ⟨(lW (iD p.data.toList f.data.toList t.data.toList) (bW p.data.toList f.data.toList t.data.toList)).toArray⟩,.int .i64 (iD p.data.toList f.data.toList t.data.toList)])∧Below w.heap.size w w':=by
 have I:=uB p.data.toList f.data.toList t.data.toList;rw[←Lib.size_eq,←Lib.size_eq]at I;by_cases y:cd [p.data.toList,f.data.toList,t.data.toList]=0
 · have H:Hid (cd [p.data.toList,f.data.toList,t.data.toList]=0):=y
   cases E:aU p.data.toList f.data.toList with
   |false=>
    have J:Hid (aU p.data.toList f.data.toList=false):=E;have F:Hid (iD p.data.toList f.data.toList t.data.toList=5):=AD y E;clear y E;go_enter func323,ntmps323
    go_wp2_with fail;refine(og p f t _ _ (by omega) (by omega) (by omega)).mono ?_
    rintro e M ⟨rfl,d⟩;rw[H.out];go_wp2_with fail;refine(oh p f _ (by omega) (by omega)).mono ?_
    rintro e O ⟨rfl,rfl⟩;rw[J.out];go_wp2;go_ret2;exact⟨by rw[F.out,m7 (by decide)];rfl,d⟩
   |true=>
    have J:Hid (aU p.data.toList f.data.toList=true):=E;have F:Hid (iD p.data.toList f.data.toList t.data.toList=az (bW p.data.toList f.data.toList t.data.toList)):=uC y E;obtain⟨P,hcut⟩:=AB p f t E
    have z:Hid (t++p.extract f.size p.size=⟨(bW p.data.toList f.data.toList t.data.toList).toArray⟩):=hcut;clear y E hcut;have N:(f.size:Int)≤p.size:=by omega
    by_cases K:az (bW p.data.toList f.data.toList t.data.toList)=0
    · have G:Hid (az (bW p.data.toList f.data.toList t.data.toList)=0):=K
      clear K;go_enter func323,ntmps323
      go_wp2_with fail;refine(og p f t _ _ (by omega) (by omega) (by omega)).mono ?_
      rintro e M ⟨rfl,d⟩;rw[H.out];go_wp2_with fail;refine(oh p f _ (by omega) (by omega)).mono ?_
      rintro e O ⟨rfl,rfl⟩;rw[J.out];go_wp2_with fail;rw[z.out];refine(ud ⟨(bW p.data.toList f.data.toList t.data.toList).toArray⟩ _ (by rw[jQ];omega) G.out).mono ?_
      rintro e S ⟨rfl,A⟩;go_wp2;go_ret2;exact⟨by rw[F.out,G.out,gu rfl];rfl,bn d A⟩
    · have G:Hid (¬az (bW p.data.toList f.data.toList t.data.toList)=0):=K
      clear K;go_enter func323,ntmps323
      go_wp2_with fail;refine(og p f t _ _ (by omega) (by omega) (by omega)).mono ?_
      rintro e M ⟨rfl,d⟩;rw[H.out];go_wp2_with fail;refine(oh p f _ (by omega) (by omega)).mono ?_
      rintro e O ⟨rfl,rfl⟩;rw[J.out];go_wp2_with fail;rw[z.out];refine(Ac ⟨(bW p.data.toList f.data.toList t.data.toList).toArray⟩ _ (by rw[jQ];omega) G.out).mono ?_
      rintro e S ⟨rfl,A⟩;go_wp2;go_ret2;exact⟨by rw[F.out,m7 G.out];rfl,bn d A⟩
 · have F:Hid (iD p.data.toList f.data.toList t.data.toList=cd [p.data.toList,f.data.toList,t.data.toList]):=AC y
   have H:Hid (¬cd [p.data.toList,f.data.toList,t.data.toList]=0):=y;have Q:(cd [p.data.toList,f.data.toList,t.data.toList]==0)=false:=by simpa using y
   clear y;go_enter func323,ntmps323
   go_wp2_with fail;refine(og p f t _ _ (by omega) (by omega) (by omega)).mono ?_
   rintro e M ⟨rfl,d⟩;go_wp2;go_ret2;exact⟨by rw[F.out,m7 H.out];rfl,d⟩
theorem AE (e:En) (g:Nat) (y:Array Value) (A:En→Bool) (b:Nat) (w:World) (hb:b<w.heap.size) (H:w.cell? ⟨b,0,none⟩=some (.func (.func g) #[] y)) (z:dk w g y A) (J:e.path.size≤1000000000000000):
    Calls prog 324 #[.agg #[.string e.path,.bool e.folder,.string e.text,.int .i64 e.ver],.pointer (some ⟨b,0,none⟩)] w fun r w'=>r= .returned (.bool (!A e))∧Below w.heap.size w w':=by
 have I: ∀o,(w.alloc o).cell? ⟨b,0,none⟩=some (.func (.func g) #[] y):=fun o=>(((Below.refl w.heap.size w).alloc (Nat.le_refl _) o).cell (p:=⟨b,0,none⟩) hb).trans H
 have F:Hid (dk w g y A):=z;have G:=z.1;clear z;go_enter func324,ntmps324
 go_wp2_with fail;refine(F.out.2 _ ((Below.refl _ _).alloc (Nat.le_refl _) _) e J).mono ?_
 rintro r P ⟨rfl,d⟩;obtain⟨K,M,N,O,f,E⟩:=dO d
 clear d G;go_wp2;go_ret;exact⟨rfl,f⟩
theorem qq (g:Nat) (d:Array Value) (f:En→Bool) (w:World) (z:dk w g d f):
    Calls prog 280 #[.func (.func g) #[] d] w fun e w'=>e= .returned (.func (.func 324) #[] #[.pointer (some ⟨w.heap.size,0,none⟩)])∧dk w' 324 #[.pointer (some ⟨w.heap.size,0,none⟩)] (fun e=> !f e)∧Below w.heap.size w w':=by
 have A:Hid (dk w g d f):=z;clear z;go_enter func280,ntmps280
 go_wp2;go_ret;refine⟨rfl,⟨enters_of func324 (by kernel_rfl) rfl,fun W y e E=>?_⟩,(Below.refl _ _).alloc (Nat.le_refl _) _⟩
 exact AE e g d f w.heap.size W (Nat.lt_of_lt_of_le (by simp) y.size) ((y.cell (p:=⟨w.heap.size,0,none⟩) (by simp)).trans (by simp)) (A.out.below (((Below.refl _ _).alloc (Nat.le_refl _) _).trans (y.mono (by simp)))) E
def eE (q:List UInt8) (e:En):Bool:=cd [e.path.data.toList,q]==0 && aU e.path.data.toList q
theorem AF (e:En) (q:ByteArray) (b:Nat) (w:World) (hb:b<w.heap.size) (A:w.cell? ⟨b,0,none⟩=some (.string q)) (G:e.path.size≤1000000000000000) (F:q.size≤1000000000000000):
    Calls prog 321 #[.agg #[.string e.path,.bool e.folder,.string e.text,.int .i64 e.ver],.pointer (some ⟨b,0,none⟩)] w fun r w'=>r= .returned (.bool (eE q.data.toList e))∧Below w.heap.size w w':=by
 have E: ∀o,(w.alloc o).cell? ⟨b,0,none⟩=some (.string q):=fun o=>(((Below.refl w.heap.size w).alloc (Nat.le_refl _) o).cell (p:=⟨b,0,none⟩) hb).trans A
 have z:Hid ((cd [e.path.data.toList,q.data.toList]==0 && aU e.path.data.toList q.data.toList)=eE q.data.toList e):=rfl;go_enter func321,ntmps321
 go_wp2_with fail;refine(qm e.path q _ G F).mono ?_
 rintro r M ⟨rfl,d⟩;rw[z.out];obtain⟨H,I,J,K,f,y⟩:=dO d
 clear d;go_wp2;go_ret;exact⟨rfl,f⟩
theorem nk (q:ByteArray) (w:World) (y:q.size≤1000000000000000):
    Calls prog 276 #[.string q] w fun e w'=>e= .returned (.func (.func 321) #[] #[.pointer (some ⟨w.heap.size,0,none⟩)])∧dk w' 321 #[.pointer (some ⟨w.heap.size,0,none⟩)] (eE q.data.toList)∧Below w.heap.size w w':=by
 go_enter func276,ntmps276
 go_wp2;go_ret;refine⟨rfl,⟨enters_of func321 (by kernel_rfl) rfl,fun W d e f=>?_⟩,(Below.refl _ _).alloc (Nat.le_refl _) _⟩
 exact AF e q w.heap.size W (Nat.lt_of_lt_of_le (by simp) d.size) ((d.cell (p:=⟨w.heap.size,0,none⟩) (by simp)).trans (by simp)) f y
theorem nl (L:List En) (v:Value) (g:Nat) (cb:Array Value) (E:En→Bool) (w:World) (hv:an w v L) (hg:dk w g cb E) (hn:L.length≤1000000000) (hs:da L):
    Calls prog 223 #[v,.func (.func g) #[] cb] w fun e w'=> ∃u,e= .returned u∧w'.ownsRow w.heap.size 107 4 u (L.filter E).length (cr (L.filter E))∧u≠ .slice none 0 0∧Below w.heap.size w w':=by
 obtain⟨aZ,P,V,X,Y⟩:=info_parts Tryz.infoE
 obtain⟨a,I7,rfl,I6,I0,hL⟩:=hv
 have HL:Hid (∀i (h:i<L.length),∃b o,a=some ⟨b,o,none⟩∧b<w.heap.size∧dp w b (o+i*4) L[i]):=hL;have HG:Hid (dk w g cb E):=hg;have HS:Hid (da L):=hs;have eg:=hg.1;clear hL hg hs;go_enter func223,ntmps223
 go_wp2_with (at_make;refine wpList_make_own _ rfl _ _ 44 rfl w.heap.size 107 aZ (.agg #[.string ⟨#[]⟩,.bool false,.string ⟨#[]⟩,.int .i64 0]) 4 underlying44 P V X .i64 .i64 (L.length:Int) L.length rfl rfl rfl ?m2 ?m3 ?m4 ?_)
 case m2=>rw[Y];omega
 case m3=>unfold maxLen;omega
 case m4=>exact Nat.le_refl _
 intro w0 T H;have O:Below w.heap.size w w0:=(Below.refl _ _).grown H (Nat.le_refl _) (fun k hk=>by cases hk);clear H;go_wp2_with fail;go_loopw [5,13] (fun u i wr=> ∃k:Nat,k≤L.length∧i= .int .i64 k∧wr.ownsRow w.heap.size 107 4 u ((L.take k).filter E).length (cr ((L.take k).filter E))∧u≠ .slice none 0 0∧Below w.heap.size w wr) (fun _ i _=>L.length-(intOf i).toNat)
 case atStart=>exact⟨0,Nat.zero_le _,rfl,T,by simp,O⟩
 case round=>
  obtain⟨k,hk,rfl,A,M,d⟩:=hrel
  clear T O
  have I5:((L.take k).filter E).length≤k:=by
   have h1:=List.length_filter_le E (L.take k);have h2:=List.length_take_le k L;omega
  by_cases G:k<L.length
  · obtain⟨b,o,rfl,hb,he⟩:=HL.out k G
    obtain⟨c0,c1,c2,c3⟩:=he.below hb d
    have U:=HS.out L[k] (List.getElem_mem G);cases Z:E L[k]with
    |true=>
     have HF:Hid ((L.take (k+1)).filter E=(L.take k).filter E++[L[k]]):=Ay G Z;go_wp2_with fail;refine(HG.out.2 _ (d.alloc d.size _) L[k] U.1).mono ?_
     rintro e w1 ⟨rfl,F⟩;obtain⟨d0,d1,d2,d3,y,Q⟩:=dO F
     have f:=bn d y;have z:=gK A y;rw[Z];clear F c0 c1 c2 c3 eg A d y;go_wp2_with (at_builtin;refine wpList_append_own _ rfl _ _ 44 rfl w.heap.size 107 aZ (.agg #[.string ⟨#[]⟩,.bool false,.string ⟨#[]⟩,.int .i64 0]) 4 48 underlying44 P V X Y rfl (by decide) _ _ _ rfl (z.alloc _) ⟨w1.heap.size,0,none⟩ 1 1 (Pp.cells L[k]) rfl rfl ?c1 ?c2 ?c3 ?c4 ?c5 ?_)
     case c1=>exact ia w1 L[k] _
     case c2=>exact Pp.cells_one _
     case c3=>unfold maxLen;omega
     case c4=>omega
     case c5=>have:=f.size;simp;omega
     intro v2 w2 N I J;have K:Below w.heap.size w w2:=(f.alloc f.size _).grown I (by have:=f.size;simp;omega) (fun q hq=>(z.lt q hq).1);rw[iq]at N;have HO:Hid (w2.ownsRow w.heap.size 107 4 v2 (((L.take k).filter E).length+1) (cr ((L.take k).filter E++[L[k]]))):=N;have S:v2≠ .slice none 0 0:=by simpa using J
     clear N I J z f d0 d1 d2 d3 M;go_wp2_with fail;go_roundw
     case rel=>exact⟨k+1,by omega,by simp,by rw[HF.out,List.length_append];exact HO.out,S,K⟩
     case measure=>simp[intOf];omega
    |false=>
     have HF:Hid ((L.take (k+1)).filter E=(L.take k).filter E):=Az G Z;go_wp2_with fail;refine(HG.out.2 _ (d.alloc d.size _) L[k] U.1).mono ?_
     rintro e w1 ⟨rfl,F⟩;obtain⟨d0,d1,d2,d3,y,Q⟩:=dO F
     have f:=bn d y;have z:=gK A y;rw[Z];clear F c0 c1 c2 c3 eg A d y;go_wp2_with fail;go_roundw
     case rel=>exact⟨k+1,by omega,by simp,by rw[HF.out];exact z,M,f⟩
     case measure=>simp[intOf];omega
  · go_wp2_with fail
    go_ret;exact⟨_,rfl,by have e:L.take k=L:=List.take_of_length_le (by omega);rw[e]at A;exact A,M,d⟩
def db (L:List En) (q:List UInt8):Int:=match L.findIdx? (aO q)with
 |some i=>(i:Int)
 |none=> -1
theorem AG {L:List En} {q:List UInt8} {k:Nat} (d:k<L.length) (h: ∀j (h:j<L.length),j<k→aO q L[j]=false) (y:aO q L[k]=true):(k:Int)=db L q:=by
 have:L.findIdx? (aO q)=some k:=List.findIdx?_eq_some_iff_getElem.2 ⟨d,y,fun j f=>by rw[h j (by omega) f];simp⟩
 rw[db,this]
theorem AH {L:List En} {q:List UInt8} (h: ∀j (h:j<L.length),aO q L[j]=false): -1=db L q:=by
 have:L.findIdx? (aO q)=none:=List.findIdx?_eq_none_iff.2 fun x f=>by
  obtain⟨j,d,rfl⟩:=List.getElem_of_mem f
  exact h j d
 rw[db,this]
theorem np (L:List En) (q:List UInt8):(db L q= -1∧L.find? (aO q)=none)∨ ∃k,∃h:k<L.length,db L q=(k:Int)∧L.find? (aO q)=some L[k]:=by
 cases y:L.findIdx? (aO q)with
 |none=>
  refine Or.inl ⟨by rw[db,y],?_⟩
  rw[List.find?_eq_none];intro x E;have:=List.findIdx?_eq_none_iff.1 y x E
  simp[this]
 |some k=>
  obtain⟨d,A,f⟩:=List.findIdx?_eq_some_iff_getElem.1 y
  refine Or.inr ⟨k,d,by rw[db,y],um d (fun j h z=>?_) A⟩
  have:=f j z
  simpa using this
theorem fR (L:List En) (v:Value) (q:ByteArray) (w:World) (N:an w v L):
    Calls prog 113 #[v,.string q] w fun e w'=>e= .returned (.int .i64 (db L q.data.toList))∧Below w.heap.size w w':=by
 obtain⟨a,J,rfl,H,E,G⟩:=N
 have I:Hid (∀i (h:i<L.length),∃b o,a=some ⟨b,o,none⟩∧b<w.heap.size∧dp w b (o+i*4) L[i]):=G;clear G;go_enter func113,ntmps113
 go_wp2_with fail;go_loopw [5] (fun i wr=> ∃k:Nat,k≤L.length∧i= .int .i64 k∧Hid (∀j (h:j<L.length),j<k→aO q.data.toList L[j]=false)∧Below w.heap.size w wr) (fun i _=>L.length-(intOf i).toNat)
 case atStart=>exact⟨0,Nat.zero_le _,rfl,(fun j _ h=>absurd h (Nat.not_lt_zero _): ∀j (h:j<L.length),j<0→aO q.data.toList L[j]=false),Below.refl _ _⟩
 case round=>
  obtain⟨k,U,rfl,A,d⟩:=hrel
  by_cases f:k<L.length
  · obtain⟨b,o,rfl,hb,M⟩:=I.out k f
    obtain⟨O,P,Q,S⟩:=M.below hb d
    cases y:aO q.data.toList L[k]with
    |true=>
     have F:((L[k]).path.toList==q.toList)=true:=by rw[←y,aO,Lib.toList_data,Lib.toList_data]
     have z:=hid (show(k:Int)=db L q.data.toList from AG f A.out y);go_wp2_with fail;go_ret;exact⟨aD z.out,d⟩
    |false=>
     have F:((L[k]).path.toList==q.toList)=false:=by rw[←y,aO,Lib.toList_data,Lib.toList_data]
     go_wp2_with fail;go_roundw
     case rel=>exact⟨k+1,by omega,by simp,(fun j K T=>by
      by_cases e:j=k
      · subst e;exact y
      · exact A.out j K (by omega): ∀j (h:j<L.length),j<k+1→aO q.data.toList L[j]=false),d⟩
     case measure=>simp[intOf];omega
  · have z:=hid (show-1=db L q.data.toList from AH (fun j h=>A.out j h (by omega)))
    go_wp2_with fail;go_ret;exact⟨aD z.out,d⟩
end Go.Proofs.YtcmlnelpcjfocaaGreatDoor
