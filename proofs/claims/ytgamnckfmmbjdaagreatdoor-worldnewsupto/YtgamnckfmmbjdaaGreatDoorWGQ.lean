/- Pages in memory. -/
import Derived.Test.YtgamnckfmmbjdaaGreatDoorWGO
set_option linter.unusedSimpArgs false
set_option linter.unusedVariables false
namespace Go.Proofs.YtgamnckfmmbjdaaGreatDoor
open Go.RowKit Go.Proofs.Tryz
set_option maxHeartbeats 1000000
set_option maxRecDepth 100000
structure Pg where
 reset:Bool
 tree:List En
 cos:List Co
 cur:Int
 more:Bool
def lD (w:World) (v:Value) (P:Pg):Prop:= ∃vt vc,v= .agg #[.bool P.reset,vt,vc,.int .i64 P.cur,.bool P.more]∧aj w vt P.tree∧dd w vc P.cos
theorem lD.below {w w':World} {v:Value} {P:Pg} (h:lD w v P) (a:Below w.heap.size w w'):lD w' v P:=by
 obtain⟨o,j,d,e,f⟩:=h
 exact⟨o,j,d,e.below a,f.below a⟩
theorem wV {L:List Gr} {k:Nat} (h:k<L.length) {a:Gr→Bool} (d:a L[k]=true):(L.take (k+1)).filter a=(L.take k).filter a++[L[k]]:=by
 rw[List.take_succ_eq_append_getElem h,List.filter_append];simp[d]
theorem wW {L:List Gr} {k:Nat} (h:k<L.length) {a:Gr→Bool} (d:a L[k]=false):(L.take (k+1)).filter a=(L.take k).filter a:=by
 rw[List.take_succ_eq_append_getElem h,List.filter_append];simp[d]
theorem wX (e:Gr) (f h:ByteArray) (b b2:Nat) (w:World) (hb:b<w.heap.size) (d:b2<w.heap.size) (y:w.cell? ⟨b,0,none⟩=some (.string f)) (j:w.cell? ⟨b2,0,none⟩=some (.string h)):
    Calls prog 154 #[.agg #[.string e.fo,.string e.wh,.int .i64 e.ri],.pointer (some ⟨b,0,none⟩),.pointer (some ⟨b2,0,none⟩)] w fun r w'=>r= .returned (.bool (gE f h e))∧Below w.heap.size w w':=by
 have z: ∀o,(w.alloc o).cell? ⟨b,0,none⟩=some (.string f):=fun o=>(((Below.refl w.heap.size w).alloc (Nat.le_refl _) o).cell (p:=⟨b,0,none⟩) hb).trans y
 have A: ∀o,(w.alloc o).cell? ⟨b2,0,none⟩=some (.string h):=fun o=>(((Below.refl w.heap.size w).alloc (Nat.le_refl _) o).cell (p:=⟨b2,0,none⟩) d).trans j
 cases u:(e.fo.toList==f.toList)with
 |true=>
  have a:=hid (show(e.wh.toList==h.toList)=gE f h e from by rw[gE,u];rfl);go_enter func154,ntmps154
  go_wp2;go_ret;exact⟨aV a.out,(Below.refl _ _).alloc (Nat.le_refl _) _⟩
 |false=>
  have a:=hid (show false=gE f h e from by rw[gE,u];rfl);go_enter func154,ntmps154
  go_wp2;go_ret;exact⟨aV a.out,(Below.refl _ _).alloc (Nat.le_refl _) _⟩
def iX (G:List Gr) (f h:ByteArray):Int:=match G.find? (gE f h)with
 |some e=>e.ri
 |none=>0
theorem wY (G:List Gr) (v:Value) (f h:ByteArray) (w:World) (J:bt w v G):
    Calls prog 119 #[v,.string f,.string h] w fun e w'=>e= .returned (.int .i64 (iX G f h))∧Below w.heap.size w w':=by
 have M:=ai J
 have N:iz ((w.alloc (.cells #[.string f] 9)).alloc (.cells #[.string h] 9)) 154 #[.pointer (some ⟨w.heap.size,0,none⟩),.pointer (some ⟨w.heap.size+1,0,none⟩)] (gE f h):=by
  refine⟨enters_of func154 (by kernel_rfl) rfl,fun W E e=>?_⟩
  exact wX e f h w.heap.size (w.heap.size+1) W (Nat.lt_of_lt_of_le (by simp;omega) E.size) (Nat.lt_of_lt_of_le (by simp) E.size) ((E.cell (p:=⟨w.heap.size,0,none⟩) (by simp;omega)).trans (by simp[go_sem])) ((E.cell (p:=⟨w.heap.size+1,0,none⟩) (by simp)).trans (by simp[go_sem]))
 have K:=ai N;clear N;have d:Below w.heap.size w ((w.alloc (.cells #[.string f] 9)).alloc (.cells #[.string h] 9)):=((Below.refl _ _).alloc (Nat.le_refl _) _).alloc (by simp) _;rcases qQ G (gE f h)with⟨A,z,_⟩|⟨k,S,A,z,_⟩
 · have H:=ai A
   have F:=hid (show 0=iX G f h from by rw[iX,z]);clear A z J;go_enter func119,ntmps119
   go_wp2_with fail;refine(lA G _ _ _ (gE f h) _ (M.out.below d) K.out).mono ?_
   rintro e U ⟨rfl,u⟩;rw[H.out];have j:=d.trans (u.mono d.size);go_wp2;go_ret;exact⟨an F.out,j⟩
 · have H:=ai A
   have F:=hid (show(G[k]).ri=iX G f h from by rw[iX,z]);obtain⟨a,P,rfl,O,I,y⟩:=J
   obtain⟨b,o,rfl,hb,Q⟩:=y k S
   have T:(k:Int)<G.length:=by omega
   clear A z y;go_enter func119,ntmps119
   go_wp2_with fail;refine(lA G _ _ _ (gE f h) _ (M.out.below d) K.out).mono ?_
   rintro e U ⟨rfl,u⟩;rw[H.out];have j:=d.trans (u.mono d.size);obtain⟨V,X,Y⟩:=Q.below hb j
   go_wp2;go_ret;exact⟨an F.out,j⟩
def Fr (B:Nat) (v:Value):Prop:= ∀g,v.ownBlock=some g→B≤g
theorem Fr.mono {B a:Nat} {v:Value} (h:Fr B v) (d:a≤B):Fr a v:=fun g e=>Nat.le_trans d (h g e)
def iY (G:List Gr) (ns:List ByteArray):Int:=if aY G=0 then bf ns else aY G
theorem rc (G:List Gr) (v:Value) (a:List ByteArray) (g cap:Nat) (w:World) (I:bt w v G) (H:gZ G) (F:g<w.heap.size) (j: ∀i (h:i<a.length),(a[i]).size≤1000000000000000) (N:a.length≤1000) (E: ∀i (h:i<a.length),w.cell? ⟨g,0+i,none⟩=some (.string a[i])):
    Calls prog 118 #[v,.slice (some ⟨g,0,none⟩) a.length cap] w fun e w'=>e= .returned (.int .i64 (iY G a))∧Below w.heap.size w w':=by
 have A:=ai I;have z:=ai H;have M:=ai j;have K:=ai E;clear I H j E;by_cases f:aY G=0
 · have J:=ai f
   have o:=hid (show bf a=iY G a from(if_pos f).symm);clear f;go_enter func118,ntmps118
   go_wp2_with fail;refine(nT G _ _ A.out z.out).mono ?_
   rintro e O ⟨rfl,d⟩;rw[J.out];go_wp2_with fail;refine(kj a g 0 cap _ (Nat.lt_of_lt_of_le F d.size) M.out N (fun i h=>(d.cell (p:=⟨g,0+i,none⟩) F).trans (K.out i h))).mono ?_
   rintro e Q ⟨rfl,u⟩;generalize bf a=y at*;go_wp2;go_ret;exact⟨an o.out,bj d u⟩
 · have o:=hid (show aY G=iY G a from(if_neg f).symm)
   have P:(aY G==0)=false:=by simpa using f
   go_enter func118,ntmps118
   go_wp2_with fail;refine(nT G _ _ A.out z.out).mono ?_
   rintro e O ⟨rfl,d⟩;generalize aY G=y at*;go_wp2;go_ret;exact⟨an o.out,d⟩
def kp (G:List Gr) (f h:ByteArray):Int:=if iY G [f,h]=0 then iX G f h else 0
theorem wZ (G:List Gr) (v:Value) (f h:ByteArray) (w:World) (J:bt w v G) (I:gZ G) (M:f.size≤150000000000000) (N:h.size≤150000000000000):
    Calls prog 66 #[v,.string f,.string h] w fun e w'=>e= .returned (.tuple #[.int .i64 (kp G f h),.int .i64 (iY G [f,h])])∧Below w.heap.size w w':=by
 have A:=ai J;have H:=ai I;clear J I;have y: ∀i (o:i<[f,h].length),([f,h][i]).size≤1000000000000000:=fun i o=>by match i,o with|0,_=>exact Nat.le_trans M (by decide)|1,_=>exact Nat.le_trans N (by decide)
 by_cases j:iY G [f,h]=0
 · have z:=hid (show iX G f h=kp G f h from(if_pos j).symm)
   have K:=ai j;rw[j];clear j;go_enter func66,ntmps66
   go_wp2_with fail;refine(rc G _ [f,h] w.heap.size 2 _ (A.out.below ((Below.refl _ _).alloc (Nat.le_refl _) _)) H.out (by simp) y (by simp) (fun i o=>by match i,o with|0,_=>simp|1,_=>simp)).mono ?_
   rintro e F ⟨rfl,d⟩;rw[K.out];have a:Below w.heap.size w F:=((Below.refl _ _).alloc (Nat.le_refl _) _).trans (d.mono (by simp));clear d;go_wp2_with fail;refine(wY G _ f h _ (A.out.below a)).mono ?_
   rintro e P ⟨rfl,E⟩;rw[z.out];have u:=bj a E;go_wp2;go_ret2;exact⟨rfl,u⟩
 · have z:=hid (show 0=kp G f h from(if_neg j).symm)
   have O:(iY G [f,h]==0)=false:=by simpa using j
   go_enter func66,ntmps66
   go_wp2_with fail;refine(rc G _ [f,h] w.heap.size 2 _ (A.out.below ((Below.refl _ _).alloc (Nat.le_refl _) _)) H.out (by simp) y (by simp) (fun i o=>by match i,o with|0,_=>simp|1,_=>simp)).mono ?_
   rintro e F ⟨rfl,d⟩;have a:Below w.heap.size w F:=((Below.refl _ _).alloc (Nat.le_refl _) _).trans (d.mono (by simp));go_wp2;go_ret2;exact⟨by rw[←z.out];rfl,a⟩
structure Rq where
 kind:Int
 who:ByteArray
 fo:ByteArray
 name:ByteArray
 key:ByteArray
 text:ByteArray
 num:Int
 off:Int
 base:Int
 ch:List ar
def iZ (w:World) (v:Value) (q:Rq):Prop:= ∃va,v= .agg #[.int .i64 q.kind,.string q.who,.string q.fo,.string q.name,.string q.key,.string q.text,.int .i64 q.num,.int .i64 q.off,.int .i64 q.base,va]∧bk w va q.ch
theorem iZ.below {w w':World} {v:Value} {q:Rq} (h:iZ w v q) (d:Below w.heap.size w w'):iZ w' v q:=by
 obtain⟨f,e,a⟩:=h
 exact⟨f,e,a.below d⟩
def nY:Rq:=⟨0,⟨#[]⟩,⟨#[]⟩,⟨#[]⟩,⟨#[]⟩,⟨#[]⟩,0,0,0,[]⟩
theorem re (w:World):bk w (.slice none 0 0) []:=⟨none,0,rfl,Nat.le_refl _,Nat.zero_le _,fun i h=>absurd h (by simp)⟩
theorem xe (w:World):iZ w (.agg #[.int .i64 0,.string ⟨#[]⟩,.string ⟨#[]⟩,.string ⟨#[]⟩,.string ⟨#[]⟩,.string ⟨#[]⟩,.int .i64 0,.int .i64 0,.int .i64 0,.slice none 0 0]) nY:=⟨_,rfl,re _⟩
abbrev zq:List Value:=[.int .i64 0,.string ⟨#[]⟩,.string ⟨#[]⟩,.string ⟨#[]⟩,.string ⟨#[]⟩,.string ⟨#[]⟩,.int .i64 0,.int .i64 0,.int .i64 0,.slice none 0 0]
theorem ez (L:List En) (v:Value) (q:ByteArray) (w:World) (E:aj w v L):
    Calls prog 80 #[v,.string q] w fun e w'=>e= .returned (.int .i64 (aB L q.data.toList))∧Below w.heap.size w w':=by
 have F:Hid (aj w v L):=E;cases J:q.toList.isEmpty with
 |true=>
  have j:=hid (show 0=aB L q.data.toList from by rw[aB,if_pos ((fL q).1 J)]);clear E;go_enter func80,ntmps80
  go_wp2;go_ret;exact⟨an j.out,Below.refl _ _⟩
 |false=>
  have f:=is J;rcases ko L q.data.toList with⟨z,y⟩|⟨k,T,z,y⟩
  · have A:Hid (bX L q.data.toList= -1):=z
    have j:=hid (show 5=aB L q.data.toList from by rw[aB,if_neg f,y]);clear y f z E;go_enter func80,ntmps80
    go_wp2_with fail;refine(ed L v q _ F.out).mono ?_
    rintro e N ⟨rfl,d⟩;rw[A.out];go_wp2_with fail;go_ret;exact⟨an j.out,d⟩
  · have A:Hid (bX L q.data.toList=(k:Int)):=z
    have ae:aB L q.data.toList=if(L[k]).folder=true then 0 else 4:=by rw[aB,if_neg f,y]
    obtain⟨a,S,rfl,K,H,I⟩:=E
    obtain⟨b,o,rfl,hb,M⟩:=I k T
    have U:(k:Int)<L.length:=by omega
    clear y f z I;cases u:(L[k]).folder with
    |true=>
     have j:=hid (show 0=aB L q.data.toList from by rw[ae,u];rfl);clear ae;go_enter func80,ntmps80
     go_wp2_with fail;refine(ed L _ q _ F.out).mono ?_
     rintro e N ⟨rfl,d⟩;rw[A.out];obtain⟨O,G,P,Q⟩:=M.below hb d
     rw[u]at G;clear u;go_wp2_with fail;go_ret;exact⟨an j.out,d⟩
    |false=>
     have j:=hid (show 4=aB L q.data.toList from by rw[ae,u];rfl);clear ae;go_enter func80,ntmps80
     go_wp2_with fail;refine(ed L _ q _ F.out).mono ?_
     rintro e N ⟨rfl,d⟩;rw[A.out];obtain⟨O,G,P,Q⟩:=M.below hb d
     rw[u]at G;clear u;go_wp2_with fail;go_ret;exact⟨an j.out,d⟩
theorem xf {A B:List (List UInt8)} (h:A.length<B.length):false=B.isPrefixOf A:=by
 symm
 cases e:B.isPrefixOf A with
 |false=>rfl
 |true=>have:=(List.isPrefixOf_iff_prefix.1 e).length_le;omega
theorem xg {A B:List (List UInt8)} {k:Nat} (f:k<A.length) (a:k<B.length) (h: ¬A[k]=B[k]):false=B.isPrefixOf A:=by
 symm
 cases e:B.isPrefixOf A with
 |false=>rfl
 |true=>
  obtain⟨t,d⟩:=List.isPrefixOf_iff_prefix.1 e
  subst d;exact absurd (by simp[List.getElem_append_left a]) h
theorem xh {A B:List (List UInt8)} (h:A.take B.length=B):true=B.isPrefixOf A:=by
 symm
 rw[List.isPrefixOf_iff_prefix];have:=List.take_prefix B.length A
 rwa [h]at this
theorem ee (s t:ByteArray) (w:World) (hs:s.size≤1000000000) (ht:t.size≤1000000000):
    Calls prog 210 #[.string s,.string t] w fun e w'=>e= .returned (.bool (aI s.data.toList t.data.toList))∧Below w.heap.size w w':=by
 have V:(ah s.data.toList).length≤s.size+1:=by have:=gQ s.data.toList;rwa [←Lib.size_eq]at this
 have X:(ah t.data.toList).length≤t.size+1:=by have:=gQ t.data.toList;rwa [←Lib.size_eq]at this
 obtain⟨A,J⟩: ∃L,L=ah s.data.toList:=⟨_,rfl⟩
 obtain⟨B,K⟩: ∃L,L=ah t.data.toList:=⟨_,rfl⟩
 have HA:Hid (A=ah s.data.toList):=J;have HB:Hid (B=ah t.data.toList):=K;have O:=hid (show aI s.data.toList t.data.toList=B.isPrefixOf A from by rw[aI,J,K]);rw[←J]at V;rw[←K]at X;clear J K;go_enter func210,ntmps210
 go_wp2_with fail;refine(eM s _ hs).mono ?_
 rintro e w1 ⟨z,c1,rfl,S,Z,C6,G,a,E⟩;rw[←HA.out]at S a⊢;go_wp2_with fail;refine(eM t _ ht).mono ?_
 rintro e y ⟨Q,c2,rfl,T,C3,C7,H,d,o⟩;rw[←HB.out]at T d⊢;have M:=hid (show∀i (h:i<A.length),y.cell? ⟨z,i,none⟩=some (.string ⟨(A[i]).toArray⟩)from fun i h=>(o.cell (p:=⟨z,i,none⟩) G).trans (a i h));have N:Hid (∀i (h:i<B.length),y.cell? ⟨Q,i,none⟩=some (.string ⟨(B[i]).toArray⟩)):=d;have hb:Below w.heap.size w y:=bj E o;clear a d E o;by_cases I:A.length<B.length
 · have U:(A.length:Int)<B.length:=by omega
   go_wp2;go_ret;exact⟨aV (by rw[O.out];exact xf I),hb⟩
 · have U:(B.length:Int)≤A.length:=by omega
   go_wp2_with fail;go_loopw [7] (fun i wr=> ∃k:Nat,k≤B.length∧i= .int .i64 k∧Hid (A.take k=B.take k)∧Below y.heap.size y wr) (fun i _=>B.length-(intOf i).toNat)
   case atStart=>exact⟨0,Nat.zero_le _,rfl,rfl,Below.refl _ _⟩
   case round=>
    obtain⟨k,hk,rfl,Y,f⟩:=hrel
    by_cases u:k<B.length
    · have j:k<A.length:=by omega
      have C4:wr.cell? ⟨z,k,none⟩=some (.string ⟨(A[k]).toArray⟩):=(f.cell (p:=⟨z,k,none⟩) (show z<y.heap.size by omega)).trans (M.out k j);have C5:wr.cell? ⟨Q,k,none⟩=some (.string ⟨(B[k]).toArray⟩):=(f.cell (p:=⟨Q,k,none⟩) H).trans (N.out k u);cases F:(A[k]==B[k])with
      |true=>
       have P:=hid (show A[k]=B[k]from by simpa using F);go_wp2_with fail;go_region
       go_wp2;go_roundw
       case rel=>exact⟨k+1,by omega,by simp,(by rw[List.take_succ_eq_append_getElem j,List.take_succ_eq_append_getElem u,Y.out,P.out]:A.take (k+1)=B.take (k+1)),f.drew⟩
       case measure=>simp[intOf];omega
      |false=>
       have P:=hid (show¬A[k]=B[k]from by simpa using F);go_wp2_with fail;go_region
       go_wp2;go_ret;exact⟨aV (by rw[O.out];exact xg j u P.out),(bj hb f).drew⟩
    · go_wp2_with fail
      go_ret;exact⟨aV (by rw[O.out];obtain rfl:k=B.length:=(by omega);exact xh (by have:=Y.out;rwa [List.take_length]at this)),bj hb f⟩
end Go.Proofs.YtgamnckfmmbjdaaGreatDoor
