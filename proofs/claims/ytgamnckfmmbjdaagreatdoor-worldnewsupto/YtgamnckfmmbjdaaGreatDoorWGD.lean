/- What path.checked answers. -/
import Derived.Test.YtgamnckfmmbjdaaGreatDoorWGC
import Derived.Test.YtgamnckfmmbjdaaGreatDoorWGB
set_option linter.unusedSimpArgs false
set_option linter.unusedVariables false
namespace Go.Proofs.YtgamnckfmmbjdaaGreatDoor
open Go.RowKit Go.Proofs.Tryz
set_option maxHeartbeats 1000000
theorem pB (s:ByteArray) (w:World) (f:s.size≤1000000000000000) (h:al s.data.toList=0):
    Calls prog 188 #[.string s] w fun e w'=>e= .returned (.tuple #[.string s,.int .i64 0])∧Below w.heap.size w w':=by
 have d:Hid (al s.data.toList=0):=h;clear h;go_enter func188,ntmps188
 go_wp2_with fail;refine(d9 _ _ f).mono ?_
 rintro e j ⟨rfl,a⟩;rw[d.out];go_wp2;go_ret2;exact⟨rfl,a⟩
theorem t9 (s:ByteArray) (w:World) (d:s.size≤1000000000000000) (h: ¬al s.data.toList=0):
    Calls prog 188 #[.string s] w fun e w'=>e= .returned (.tuple #[.string ⟨#[]⟩,.int .i64 (al s.data.toList)])∧Below w.heap.size w w':=by
 have f:(al s.data.toList==0)=false:=by simpa using h
 clear h;go_enter func188,ntmps188
 go_wp2_with fail;refine(d9 _ _ d).mono ?_
 rintro e j ⟨rfl,a⟩;go_wp2;go_ret2;exact⟨rfl,a⟩
theorem ud (s t:ByteArray) (w:World) (f:s.size≤1000000000000000) (j:t.size≤1000000000000000):
    Calls prog 189 #[.string s,.string t] w fun e w'=>e= .returned (.string ⟨(ip s.data.toList t.data.toList).toArray⟩)∧w'=w:=by
 cases a:s.toList.isEmpty with
 |true=>
  have d:=hid (show⟨(ip s.data.toList t.data.toList).toArray⟩=t from by rw[Lib.toList_data,List.isEmpty_iff]at a;rw[ip,if_pos a]);go_enter func189,ntmps189
  go_wp2;go_ret;exact⟨by rw[d.out];rfl,rfl⟩
 |false=>
  have d:=hid (show s++⟨#[47]⟩++t=⟨(ip s.data.toList t.data.toList).toArray⟩from dZ (by
   rw[Lib.toList_data]at a;rw[Joins.data_append,Joins.data_append,ip,if_neg (by intro h;rw[h]at a;cases a)];simp))
  go_enter func189,ntmps189
  go_wp2;go_ret;exact⟨by rw[←d.out];rfl,rfl⟩
def eJ (w:World) (b o:Nat) (c:ar):Prop:=w.cell? ⟨b,o,none⟩=some (.int .i64 c.k)∧w.cell? ⟨b,o+1,none⟩=some (.string c.p)∧w.cell? ⟨b,o+2,none⟩=some (.string c.q)∧w.cell? ⟨b,o+3,none⟩=some (.string c.t)∧w.cell? ⟨b,o+4,none⟩=some (.int .i64 c.b)
def bk (w:World) (v:Value) (cs:List ar):Prop:= ∃a cap,v= .slice a cs.length cap∧cs.length≤cap∧cs.length≤1000000000000000∧ ∀i (h:i<cs.length),∃b o,a=some ⟨b,o,none⟩∧b<w.heap.size∧eJ w b (o+i*5) cs[i]
theorem eJ.below {w w':World} {b o:Nat} {c:ar} (h:eJ w b o c) (hb:b<w.heap.size) (a:Below w.heap.size w w'):eJ w' b o c:=
 ⟨(a.cell (p:=⟨b,o,none⟩) hb).trans h.1,(a.cell (p:=⟨b,o+1,none⟩) hb).trans h.2.1,(a.cell (p:=⟨b,o+2,none⟩) hb).trans h.2.2.1,(a.cell (p:=⟨b,o+3,none⟩) hb).trans h.2.2.2.1,(a.cell (p:=⟨b,o+4,none⟩) hb).trans h.2.2.2.2⟩
theorem bk.below {w w':World} {v:Value} {cs:List ar} (h:bk w v cs) (e:Below w.heap.size w w'):bk w' v cs:=by
 obtain⟨a,d,E,f,j,u⟩:=h
 refine⟨a,d,E,f,j,fun i A=>?_⟩
 obtain⟨b,o,y,hb,z⟩:=u i A
 exact⟨b,o,y,Nat.lt_of_lt_of_le hb e.size,z.below hb e⟩
def iQ (B:Nat) (cs:List ar):Prop:= ∀c∈cs,c.p.size≤B∧c.q.size≤B∧c.t.size≤B
theorem mF: ∀(L:List En),cW L=true↔ ∀i (h:i+1<L.length),Pp.lt L[i] L[i+1]=true
 |[]=>by simp[cW]
 |[_]=>by simp[cW]
 |a::b::r=>by
  rw[cW,Bool.and_eq_true,mF (b::r)];constructor
  · rintro ⟨e,f⟩ i d
    cases i with
    |zero=>exact e
    |succ i=>exact f i (by simpa using d)
  · intro h
    exact⟨h 0 (by simp),fun i d=>h (i+1) (by simpa using d)⟩
theorem pC {L:List En} {m:Nat} (h:m+1<L.length) (a:Pp.lt L[m] L[m+1]=false):false=cW L:=by
 cases e:cW L with
 |false=>rfl
 |true=>have:=(mF L).1 e m h;rw[a]at this;cases this
theorem pD {L:List En} (h: ∀i (h:i+1<L.length),Pp.lt L[i] L[i+1]=true):true=cW L:=((mF L).2 h).symm
theorem pE (L:List En) (v:Value) (w:World) (X:aj w v L) (hn:L.length≤1000000000):
    Calls prog 135 #[v] w fun e w'=>e= .returned (.bool (cW L))∧Below w.heap.size w w':=by
 obtain⟨a,O,rfl,H,y,G⟩:=X
 have E:Hid (∀i (h:i<L.length),∃b o,a=some ⟨b,o,none⟩∧b<w.heap.size∧cM w b (o+i*4) L[i]):=G;clear G;go_enter func135,ntmps135
 go_wp2_with fail;go_loopw [3] (fun i wr=> ∃m:Nat,m≤L.length∧i= .int .i64 ((m:Int)+1)∧Hid (∀i (h:i+1<L.length),i<m→Pp.lt L[i] L[i+1]=true)∧Below w.heap.size w wr) (fun i _=>L.length+2-(intOf i).toNat)
 case atStart=>exact⟨0,Nat.zero_le _,rfl,(fun i _ h=>absurd h (Nat.not_lt_zero _): ∀i (h:i+1<L.length),i<0→Pp.lt L[i] L[i+1]=true),Below.refl _ _⟩
 case round=>
  obtain⟨m,hm,rfl,F,d⟩:=hrel
  by_cases j:m+1<L.length
  · obtain⟨b,o,rfl,hb,V⟩:=E.out m (by omega)
    obtain⟨Z,K,M,N⟩:=V.below hb d
    obtain⟨J,Y,f,U,z⟩:=E.out (m+1) j
    obtain⟨rfl,rfl⟩:b=J∧o=Y:=by simpa using f
    obtain⟨d0,P,Q,S⟩:=z.below hb d
    have I:(m:Int)+1<L.length:=by omega
    clear K M N P Q S f;cases u:Pp.lt L[m] L[m+1]with
    |true=>
     have A:Op.bytesLess (L[m]).path.toList (L[m+1]).path.toList=true:=u;go_wp2_with fail;go_region
     go_wp2;go_roundw
     case rel=>exact⟨m+1,by omega,by simp,(fun i T h2=>by
      by_cases e:i=m
      · subst e;exact u
      · exact F.out i T (by omega): ∀i (h:i+1<L.length),i<m+1→Pp.lt L[i] L[i+1]=true),d.drew⟩
     case measure=>simp[intOf];omega
    |false=>
     have A:Op.bytesLess (L[m]).path.toList (L[m+1]).path.toList=false:=u;go_wp2_with fail;go_region
     go_wp2;go_ret;exact⟨aV (pC j u),d.drew⟩
  · go_wp2_with fail
    go_ret;exact⟨aV (pD fun i h=>F.out i h (by omega)),d⟩
def cP (L:List En):Prop:= ∀e∈L,e.path.size≤1000000000000000∧e.text.size≤1000000000000000
theorem ue (L:List En) (v:Value) (w:World) (hv:aj w v L) (hn:L.length≤1000000000) (hs:cP L):
    Calls prog 92 #[v] w fun e w'=>e= .returned (.int .i64 (aA L))∧Below w.heap.size w w':=by
 have M:Hid (aj w v L):=hv;have Z:Hid (cP L):=hs;obtain⟨a,C4,rfl,C3,V,hL⟩:=hv
 have HL:Hid (∀i (h:i<L.length),∃b o,a=some ⟨b,o,none⟩∧b<w.heap.size∧cM w b (o+i*4) L[i]):=hL;clear hL hs;by_cases C5:60<(L.length:Int)
 · have A:=hid (show 2=aA L from by rw[aA,if_pos (by omega)])
   go_enter func92,ntmps92
   go_wp2_with fail;go_ret;exact⟨an A.out,Below.refl _ _⟩
 have HT:=hid (show aA L=if bH L=0 then(if cW L=true then dC L L else 4)else bH L from by rw[aA,if_neg (by omega)]);go_enter func92,ntmps92
 go_wp2_with fail;go_loopw [11] (fun i wr=> ∃k:Nat,k≤L.length∧i= .int .i64 k∧Hid (bH L=bH (L.drop k))∧Below w.heap.size w wr) (fun i _=>L.length-(intOf i).toNat)
 case atStart=>exact⟨0,Nat.zero_le _,rfl,(rfl:bH L=bH (L.drop 0)),Below.refl _ _⟩
 case round=>
  obtain⟨k,hk,rfl,J,f⟩:=hrel
  by_cases E:k<L.length
  · obtain⟨b,o,rfl,hb,H⟩:=HL.out k E
    obtain⟨c0,c1,c2,c3⟩:=H.below hb f
    have Y:Hid (L.drop k=L[k]::L.drop (k+1)):=List.drop_eq_getElem_cons E;have z:=Z.out L[k] (List.getElem_mem E);by_cases G:bi L[k]=0
    · have N:Hid (bi L[k]=0):=G
      clear G;go_wp2_with fail;refine(px (L[k]).path (L[k]).folder (L[k]).text (L[k]).ver _ z.1 z.2).mono ?_
      rintro e X ⟨rfl,j⟩;rw[show bi _=0 from N.out];obtain⟨O,P,Q,S,u,I⟩:=cN j
      have d:=bj f u;clear j c0 c1 c2 c3 O P Q S;go_wp2_with fail;go_roundw
      case rel=>exact⟨k+1,by omega,by simp,(by rw[J.out,Y.out,bH,if_pos N.out]:bH L=bH (L.drop (k+1))),d⟩
      case measure=>simp[intOf];omega
    · have N:Hid (¬bi L[k]=0):=G
      have C6:(bi L[k]==0)=false:=by simpa using G
      have A:=hid (show bi L[k]=aA L from by
       have ay:bH L=bi L[k]:=by rw[J.out,Y.out,bH,if_neg G]
       rw[HT.out,if_neg (by rw[ay];exact G),ay])
      go_wp2_with fail;refine(px (L[k]).path (L[k]).folder (L[k]).text (L[k]).ver _ z.1 z.2).mono ?_
      rintro e X ⟨rfl,j⟩;rw[show bi _=bi L[k]from rfl];obtain⟨O,P,Q,S,u,I⟩:=cN j
      have d:=bj f u;clear j c0 c1 c2 c3 O P Q S;go_wp2_with fail;go_ret;exact⟨an A.out,d⟩
  · have T:bH L=0:=by rw[J.out,List.drop_of_length_le (by omega)];rfl
    have y:aA L=if cW L=true then dC L L else 4:=by rw[HT.out,if_pos T]
    have HC:=hid (show∀e∈L,al e.path.data.toList=0 from fun e H=>fJ (pf T e H));clear T;cases F:cW L with
    |true=>
     have K:Hid (cW L=true):=F;have A:=hid (show dC L L=aA L from by rw[y,if_pos F]);clear F y;go_wp2_with fail;refine(pE L _ _ (M.out.below f) hn).mono ?_
     rintro e X ⟨rfl,j⟩;rw[K.out];have d:=bj f j;clear f j;go_wp2_with fail;refine(t8 L _ _ (M.out.below d) (by omega) (fun e H=>(Z.out e H).1) HC.out).mono ?_
     rintro e w2 ⟨rfl,U⟩;go_wp2_with fail;go_ret;exact⟨an A.out,bj d U⟩
    |false=>
     have K:Hid (cW L=false):=F;have A:=hid (show 4=aA L from by rw[y,if_neg (by rw[F];decide)]);clear F y;go_wp2_with fail;refine(pE L _ _ (M.out.below f) hn).mono ?_
     rintro e X ⟨rfl,j⟩;rw[K.out];go_wp2_with fail;go_ret;exact⟨an A.out,bj f j⟩
theorem hid {p:Prop} (h:p):Hid p:=h
theorem iR (w:World):aj w (.slice none 0 0) []:=⟨none,0,rfl,Nat.le_refl _,by simp,fun i a=>absurd a (by simp)⟩
theorem js {l:List UInt8} (h:al l=0):l.length≤80:=by
 have a:=tF h;rw[Pp.big,Bool.or_eq_false_iff]at a;have:=of_decide_eq_false a.2
 omega
theorem gT (L:List En) (v:Value) (w:World) (o:aj w v L) (j:cP L):
    Calls prog 92 #[v] w fun e w'=>e= .returned (.int .i64 (aA L))∧Below w.heap.size w w':=by
 by_cases z:L.length≤60
 · exact ue L v w o (by omega) j
 · have u:=hid (show 2=aA L from by rw[aA,if_pos (by omega)])
   obtain⟨a,y,rfl,f,d,A⟩:=o
   have E:60<(L.length:Int):=by omega
   clear A j;go_enter func92,ntmps92
   go_wp2_with fail;go_ret;exact⟨an u.out,Below.refl _ _⟩
def Pp.cells (e:En):List Value:=[.string e.path,.bool e.folder,.string e.text,.int .i64 e.ver]
def bw (L:List En):List Value:=L.flatMap Pp.cells
theorem fv (L:List En) (e:En):bw L++Pp.cells e=bw (L++[e]):=by simp[bw]
theorem Pp.cells_one (e:En): ∀u∈Pp.cells e,u.oneCell'=true:=by
 intro u a;simp only[Pp.cells,List.mem_cons,List.not_mem_nil,or_false]at a;rcases a with rfl|rfl|rfl|rfl<;>rfl
theorem eW (w:World) (e:En) (T:TypeId): ∀j u,(Pp.cells e)[j]?=some u→(w.alloc (.cells #[.string e.path,.bool e.folder,.string e.text,.int .i64 e.ver] T)).cell? ((⟨w.heap.size,0,none⟩:Addr).add j)=some u:=by
 intro j u a;match j,a with
 |0,a=>simp[Pp.cells]at a;subst a;simp[Addr.add]
 |1,a=>simp[Pp.cells]at a;subst a;simp[Addr.add]
 |2,a=>simp[Pp.cells]at a;subst a;simp[Addr.add]
 |3,a=>simp[Pp.cells]at a;subst a;simp[Addr.add]
 |j+4,a=>simp[Pp.cells]at a
theorem uh {L:List En} {k:Nat} (h:k<L.length) {a:En→Bool} (d:a L[k]=true):(L.take (k+1)).filter a=(L.take k).filter a++[L[k]]:=by
 rw[List.take_succ_eq_append_getElem h,List.filter_append];simp[d]
theorem ui {L:List En} {k:Nat} (h:k<L.length) {a:En→Bool} (d:a L[k]=false):(L.take (k+1)).filter a=(L.take k).filter a:=by
 rw[List.take_succ_eq_append_getElem h,List.filter_append];simp[d]
theorem Tryz.infoE:(prog.info? 108).map (fun i=>(i.zero,i.size,i.bytes))=some (some (.agg #[.string ⟨#[]⟩,.bool false,.string ⟨#[]⟩,.int .i64 0]),4,48):=by kernel_rfl
theorem pF: ∀(L:List En) (i:Nat) (h:i<L.length) (c:Nat),c<4→(bw L)[i*4+c]?=(Pp.cells L[i])[c]?
 |[],i,h,_,_=>absurd h (by simp)
 |a::r,0,_,c,hc=>by
  show(Pp.cells a++bw r)[0*4+c]?=_
  rw[List.getElem?_append_left (by simp[Pp.cells];omega)];simp
 |a::r,i+1,h,c,hc=>by
  show(Pp.cells a++bw r)[(i+1)*4+c]?=_
  rw[List.getElem?_append_right (by simp[Pp.cells];omega)];have e:(i+1)*4+c-(Pp.cells a).length=i*4+c:=by simp[Pp.cells];omega
  rw[e,pF r i (by simpa using h) c hc];simp
theorem uj {w:World} {base:Nat} {T:TypeId} {v:Value} {L:List En} (h:w.ownsRow base T 4 v L.length (bw L)) (A:L.length≤1000000000000000):aj w v L:=by
 have y:=h;obtain⟨_,z⟩:=h
 rcases z with⟨rfl,u⟩|⟨g,a,cur,rfl,E,o,d,F,u,j⟩
 · have:L=[]:=List.length_eq_zero_iff.1 u
   subst this;exact⟨none,0,rfl,Nat.le_refl _,by simp,fun i e=>absurd e (by simp)⟩
 · have f:g<w.heap.size:=by
    rcases Nat.lt_or_ge g w.heap.size with h|h
    · exact h
    · rw[Array.getElem?_eq_none h]at o;cases o
   refine⟨some ⟨g,0,none⟩,a,rfl,d,A,fun i e=>⟨g,0,rfl,f,?_⟩⟩
   have k: ∀c,c<4→w.cell? ⟨g,0+i*4+c,none⟩=(Pp.cells L[i])[c]?:=fun c d=>by
    rw[Nat.zero_add,y.cellAt (i*4+c) (by omega),pF L i e c d]
   exact⟨k 0 (by decide),k 1 (by decide),k 2 (by decide),k 3 (by decide)⟩
theorem cn {W:World} {b:Nat} {o:Obj} (h:W.heap[b]?=some o):b<W.heap.size:=by
 rcases Nat.lt_or_ge b W.heap.size with a|a
 · exact a
 · rw[Array.getElem?_eq_none a]at h;cases h
def cJ (n:Int):List En→List ar→Nat×Int×List En
 |T,[]=>(0,0,T)
 |T,c::r=>if bn T c n=0 then((cJ n (bN T c n) r).1+1,(cJ n (bN T c n) r).2)else(0,bn T c n,[])
def Pp.Left (n:Int) (L:List En) (cs:List ar) (S:List En) (k:Nat):Prop:=cJ n L cs=((cJ n S (cs.drop k)).1+k,(cJ n S (cs.drop k)).2)
theorem Pp.left_zero (n:Int) (L:List En) (cs:List ar):Pp.Left n L cs L 0:=rfl
theorem Pp.left_next {n:Int} {L:List En} {cs:List ar} {S:List En} {k:Nat} (h:Pp.Left n L cs S k) (d:k<cs.length) (a:bn S cs[k] n=0):Pp.Left n L cs (bN S cs[k] n) (k+1):=by
 rw[Pp.Left]at h⊢;rw[List.drop_eq_getElem_cons d,cJ,if_pos a]at h;rw[h];simp only[Prod.mk.injEq,and_true];omega
theorem pG {n:Int} {L:List En} {cs:List ar} {S:List En} {k:Nat} (h:Pp.Left n L cs S k) (d:k<cs.length) (a: ¬bn S cs[k] n=0):cJ n L cs=(k,bn S cs[k] n,[]):=by
 rw[Pp.Left,List.drop_eq_getElem_cons d,cJ,if_neg a]at h;rw[h];simp
theorem Pp.left_end {n:Int} {L:List En} {cs:List ar} {S:List En} (h:Pp.Left n L cs S cs.length):cJ n L cs=(cs.length,0,S):=by
 rw[Pp.Left,List.drop_length,cJ]at h;rw[h];simp
theorem jY {R:List En} (e:R.Pairwise (fun x y=>Pp.lt x y=true)) {x:En} (f:x∈R) {p:List UInt8} (d:x.path.data.toList=p) (a:x.folder=true):aB R p=0:=by
 subst d;rw[aB];split
 · rfl
 · rw[pu e f];simp[a]
theorem mG (L:List En):aB L []=0:=by rw[aB,if_pos rfl]
theorem pH {l p:List UInt8} (h:aI (ax l) p=true) (f:ax l≠[]):aI l p=true:=by
 by_cases d:47∈l
 · obtain⟨a,b,hb,e⟩:=jW d
   rw[e,eG a hb]at h;rw[dN,e];rcases(dN a p).1 h with h|⟨r,h⟩
   · exact Or.inr ⟨b,by rw[h]⟩
   · exact Or.inr ⟨r++47::b,by rw[h];simp⟩
 · exact absurd (mv d) f
theorem uk {p r:List UInt8}: ∃a b,47∉b∧p++47::r=a++47::b∧aI a p=true∧ax (p++47::r)=a:=by
 obtain⟨a,b,hb,d⟩:=jW (l:=p++47::r) (by simp)
 refine⟨a,b,hb,d,?_,by rw[d];exact eG a hb⟩
 rw[dN];by_cases f:47∈r
 · obtain⟨j,u,e,o⟩:=jW f
   have:ax (a++47::b)=ax ((p++47::j)++47::u):=by rw[←d,o];simp
   rw[eG a hb,eG _ e]at this;exact Or.inr ⟨j,this⟩
 · have:ax (a++47::b)=ax (p++47::r):=by rw[←d]
   rw[eG a hb,eG _ f]at this;exact Or.inl this
theorem gU {c:ar} (h:aC c=0):1≤c.k∧c.k≤4:=by
 by_cases a:c.k<1∨4<c.k
 · rw[aC,if_pos a]at h;cases h
 · omega
theorem fN {c:ar} (h:aC c=0):al c.p.data.toList=0:=by
 have d:=gU h;by_cases a:al c.p.data.toList=0
 · exact a
 · rw[aC,if_neg (by omega),if_pos a]at h;exact h
theorem jt {c:ar} (h:aC c=0) (d:c.k=3):al c.q.data.toList=0:=by
 have f:=gU h;have e:=fN h;by_cases a:al c.q.data.toList=0
 · exact a
 · rw[aC,if_neg (by omega),if_neg (fun x=>x e),if_pos ⟨d,a⟩]at h;exact h
theorem iu {c:ar} (h:aC c=0):(c.k=3∨c.q.data.toList=[])∧(c.k=2∨c.t.data.toList=[])∧c.t.size≤300∧ -1≤c.b∧c.b≤1000000:=by
 have y:=gU h;have j:=fN h;have o:=fun f=>jt h f
 rw[aC,if_neg (by omega),if_neg (fun x=>x j),if_neg (fun x=>x.2 (o x.1))]at h;split at h
 · cases h
 · rename_i e
   split at h
   · cases h
   · rename_i u
     split at h
     · cases h
     · rename_i f
       refine⟨?_,?_,by omega,by omega,by omega⟩
       · by_cases a:c.k=3
         · exact Or.inl a
         · exact Or.inr (Classical.byContradiction fun d=>e (Or.inl ⟨a,d⟩))
       · by_cases a:c.k=2
         · exact Or.inl a
         · exact Or.inr (Classical.byContradiction fun d=>e (Or.inr ⟨a,d⟩))
theorem kR {L:List En} {c:ar} (h:be L c=0):aB L (ax (Pp.goal c))=0:=by
 by_cases a:aB L (ax (Pp.goal c))=0
 · exact a
 · rw[be,if_pos a]at h;exact h
theorem mH {L:List En} {c:ar} (h:be L c=0) (o:1≤c.k∧c.k≤4):
    (c.k=1∧L.find? (aE c.p.data.toList)=none)∨(c.k=2∧ ∀x,L.find? (aE c.p.data.toList)=some x→x.folder=false)∨
    (c.k=3∧(∃x,L.find? (aE c.p.data.toList)=some x)∧aI c.q.data.toList c.p.data.toList=false∧L.find? (aE c.q.data.toList)=none)∨
    (c.k=4∧ ∃x,L.find? (aE c.p.data.toList)=some x):=by
 have f:=kR h;rw[be,if_neg (fun x=>x f)]at h;have d:c.k=1∨c.k=2∨c.k=3∨c.k=4:=by omega
 cases a:L.find? (aE c.p.data.toList)with
 |none=>
  rw[a]at h;rcases d with e|e|e|e
  · exact Or.inl ⟨e,rfl⟩
  · exact Or.inr (Or.inl ⟨e,fun x a=>by cases a⟩)
  · simp[e]at h
  · simp[e]at h
 |some x=>
  rw[a]at h;rcases d with e|e|e|e
  · simp[e]at h
  · refine Or.inr (Or.inl ⟨e,fun y j=>?_⟩)
    cases j
    cases hb:x.folder with
    |false=>rfl
    |true=>simp[e,hb]at h
  · refine Or.inr (Or.inr (Or.inl ⟨e,⟨x,rfl⟩,?_,?_⟩))
    · cases hb:aI c.q.data.toList c.p.data.toList with
      |false=>rfl
      |true=>simp[e,hb]at h
    · cases hb:L.find? (aE c.q.data.toList)with
      |none=>rfl
      |some y=>simp only[e,hb]at h;simp at h;split at h<;>cases h
  · exact Or.inr (Or.inr (Or.inr ⟨e,x,rfl⟩))
theorem kS {x y:En} {L:List En}:y∈bI x L↔y∈L∧y.path.data.toList≠x.path.data.toList:=by
 rw[bI,List.mem_filter];simp[aE]
theorem uo {L:List En} (A:Pp.Good L) {c:ar} {n:Int} (E:aC c=0) (H:be L c=0) (P:aM n=0) (S:c.k=1∨c.k=2) (T: ¬60<(bI (Pp.newE c n) L).length+1):Pp.Good (br (Pp.newE c n) (bI (Pp.newE c n) L)):=by
 have j:(br (Pp.newE c n) (bI (Pp.newE c n) L)).Pairwise (fun x y=>Pp.lt x y=true):=kO _ (List.Pairwise.filter _ A.rise) fun y o=>(kS.1 o).2
 have d: ∀y,y∈br (Pp.newE c n) (bI (Pp.newE c n) L)↔y=Pp.newE c n∨y∈bI (Pp.newE c n) L:=fun y=>by rw[(ir _ _).mem_iff,List.mem_cons]
 have f:=iu E;refine⟨?_,fun y o=>?_,j,fun y o=>?_⟩
 · rw[(ir _ _).length_eq,List.length_cons];omega
 · rcases(d y).1 o with rfl|o
   · have K:al (Pp.newE c n).path.data.toList=0:=fN E
     have M:(Pp.newE c n).text.size=c.t.size:=rfl;rw[bi,if_pos K,if_neg,if_neg]
     · exact P
     · rw[M];have:=f.2.2.1;omega
     · rintro ⟨N,hb⟩
       have O:c.k=1:=by simpa[Pp.newE]using N
       rcases f.2.1 with h|h
       · omega
       · exact hb h
   · exact A.ents y (kS.1 o).1
 · by_cases G:ax y.path.data.toList=[]
   · rw[G];exact mG _
   have hF:aB L (ax y.path.data.toList)=0:=by
    rcases(d y).1 o with rfl|o
    · have:=kR H
      rw[Pp.goal,if_neg (by omega)]at this;exact this
    · exact A.pars y (kS.1 o).1
   obtain⟨z,I,F,u,Q⟩:=jX hF G
   refine jY j (x:=z) ((d z).2 (Or.inr (kS.2 ⟨I,fun e=>?_⟩))) F u
   have J:z.path.data.toList=c.p.data.toList:=e;have a:=pu A.rise I;rw[J]at a;rcases mH H (gU E)with h|h|h|h
   · rw[h.2]at a;cases a
   · have:=h.2 z a;rw[u]at this;cases this
   · omega
   · omega
theorem ju {L:List En} {c:ar} {y:En}:y∈bQ L c↔y∈L∧aI y.path.data.toList c.p.data.toList=false:=by
 rw[bQ,List.mem_filter];simp[aK]
theorem gV {L:List En} {c:ar} {y:En}:y∈ct L c↔y∈L∧aI y.path.data.toList c.p.data.toList=true:=by
 rw[ct,List.mem_filter];simp[aK]
theorem pI {L:List En} (o:Pp.Good L) {c:ar} {y:En} (u:y∈bQ L c) (j:ax y.path.data.toList≠[]): ∃z∈bQ L c,z.path.data.toList=ax y.path.data.toList∧z.folder=true:=by
 obtain⟨e,a⟩:=ju.1 u
 obtain⟨z,A,d,f,_⟩:=jX (o.pars y e) j
 refine⟨z,ju.2 ⟨A,?_⟩,d,f⟩
 cases hb:aI z.path.data.toList c.p.data.toList with
 |false=>rfl
 |true=>rw[d]at hb;rw[pH hb j]at a;cases a
theorem uq {L:List En} (d:Pp.Good L) (c:ar):Pp.Good (bQ L c):=by
 have a:(bQ L c).Pairwise (fun x y=>Pp.lt x y=true):=List.Pairwise.filter _ d.rise;refine⟨Nat.le_trans (List.length_filter_le _ _) d.len,fun y e=>d.ents y (ju.1 e).1,a,fun y e=>?_⟩
 by_cases o:ax y.path.data.toList=[]
 · rw[o];exact mG _
 · obtain⟨z,u,j,f⟩:=pI d e o
   exact jY a u j f
theorem kT (c:ar) (n:Int) (e:En):(aX c n e).path.data.toList=bv c e:=rfl
theorem ur {L:List En} (d:Pp.Good L) {q:List UInt8} (o:q≠[]) (j:L.find? (aE q)=none) {e:En} (f:e∈L):aI e.path.data.toList q=false:=by
 cases hb:aI e.path.data.toList q with
 |false=>rfl
 |true=>
  obtain⟨x,u,a⟩:=tR d.pars o f hb
  have:=List.find?_eq_none.1 j x u
  simp[aE,a]at this
theorem mI {L:List En} (j:Pp.Good L) {c:ar} (n:Int) (z:c.q.data.toList≠[]) (y:L.find? (aE c.q.data.toList)=none):(bQ L c++dO L c n).Pairwise eV:=by
 have o:L.Pairwise eV:=j.rise.imp fun h=>jV h
 rw[List.pairwise_append];refine⟨List.Pairwise.filter _ o,?_,fun a u b hb e=>?_⟩
 · rw[dO,List.pairwise_map]
   have d:(ct L c).Pairwise eV:=List.Pairwise.filter _ o;refine(List.Pairwise.and_mem.1 d).imp fun {a b} h e=>?_
   exact h.2.2 (tU (gV.1 h.1).2 (gV.1 h.2.1).2 e)
 · obtain⟨x,A,rfl⟩:=List.mem_map.1 hb
   have d:=tT (t:=c.q.data.toList) (gV.1 A).2;have f:=ur j z y (ju.1 u).1;rw[e,kT]at f;rw[bv,d]at f;cases f
theorem uu {L:List En} (o:Pp.Good L) {c:ar} (a:aC c=0) (j:c.k=3) {e:En} (z:e∈ct L c):al (bv c e)=if Pp.big (bv c e)=true then 2 else 0:=by
 obtain⟨d,f⟩:=gV.1 z
 refine pe ?_ f
 have u:=fJ (o.ents e d);have hb:=fN a;have y:=jt a j;simp[bq,u,hb,y]
theorem uv {L:List En} (E:Pp.Good L) {c:ar} {n:Int} (Q:aC c=0) (hp:be L c=0) (hv:aM n=0) (S:c.k=3) (hb:(ct L c).any (fun e=>Pp.big (bv c e))=false):Pp.Good (dP (dO L c n) (bQ L c)):=by
 obtain⟨_,⟨x0,C3⟩,O,Y⟩:c.k=3∧(∃x,L.find? (aE c.p.data.toList)=some x)∧aI c.q.data.toList c.p.data.toList=false∧L.find? (aE c.q.data.toList)=none:=by
  rcases mH hp (gU Q)with h|h|h|h
  · omega
  · omega
  · exact h
  · omega
 have X:=kQ (jt Q S);have d:(dP (dO L c n) (bQ L c)).Pairwise (fun x y=>Pp.lt x y=true):=kP _ (List.Pairwise.filter _ E.rise) (mI E n X Y)
 have f: ∀y,y∈dP (dO L c n) (bQ L c)↔y∈bQ L c∨ ∃e∈ct L c,aX c n e=y:=fun y=>by
  rw[(jr _ _).mem_iff,List.mem_append,dO,List.mem_map]
 refine⟨?_,fun y G=>?_,d,fun y G=>?_⟩
 · rw[(jr _ _).length_eq,List.length_append,dO,List.length_map]
   have h1:(bQ L c).length+(ct L c).length=L.length:=by
    rw[bQ,ct];have:=(List.filter_append_perm (fun e=> !aK c.p.data.toList e) L).length_eq
    rw[List.length_append]at this;have ay:(List.filter (fun x=> !(fun e=> !aK c.p.data.toList e) x) L)=List.filter (aK c.p.data.toList) L:=by congr 1;funext x;simp
    rw[ay]at this;exact this
   have:=E.len
   omega
 · rcases(f y).1 G with G|⟨e,K,rfl⟩
   · exact E.ents y (ju.1 G).1
   · have F:=E.ents e (gV.1 K).1
     have h1:al (aX c n e).path.data.toList=0:=by
      rw[kT,uu E Q S K,if_neg];have:=List.any_eq_false.1 hb e K
      exact this
     have h2:=fJ F;rw[bi,if_pos h2]at F;rw[bi,if_pos h1];have h5:(aX c n e).folder=e.folder:=rfl;have h6:(aX c n e).text=e.text:=rfl;rw[h5,h6];split at F
     · cases F
     · rename_i ha
       rw[if_neg ha];split at F
       · cases F
       · rename_i U
         rw[if_neg U];by_cases N:e.path.data.toList=c.p.data.toList
         · have:(aX c n e).ver=n:=by simp[aX,N]
           rw[this];exact hv
         · have:(aX c n e).ver=e.ver:=by simp[aX,N]
           rw[this];exact F
 · by_cases H:ax y.path.data.toList=[]
   · rw[H];exact mG _
   rcases(f y).1 G with G|⟨e,K,rfl⟩
   · obtain⟨z,P,j,u⟩:=pI E G H
     exact jY d ((f z).2 (Or.inl P)) j u
   · rw[kT]at H⊢
     obtain⟨mi,fG⟩:=gV.1 K
     rcases(dN _ _).1 fG with aP|⟨r,aP⟩
     · have V:bv c e=c.q.data.toList:=by rw[bv,bm,aP];simp
       rw[V]at H⊢;have o:=kR hp;rw[Pp.goal,if_pos S]at o;obtain⟨z,P,j,u,_⟩:=jX o H
       refine jY d ((f z).2 (Or.inl (ju.2 ⟨P,?_⟩))) j u
       cases J:aI z.path.data.toList c.p.data.toList with
       |false=>rfl
       |true=>rw[j]at J;rw[pH J H]at O;cases O
     · obtain⟨a,b,I,e2,A,M⟩:=uk (p:=c.p.data.toList) (r:=r)
       have T:a≠[]:=by
        intro ea;rw[ea]at A;rcases(dN _ _).1 A with h|⟨s,h⟩
        · exact kQ (fN Q) h.symm
        · have h:=congrArg List.length h
          simp at h
       have o:=E.pars e mi;rw[aP,M]at o;obtain⟨z,P,j,u,_⟩:=jX o T
       have Z:z∈ct L c:=gV.2 ⟨P,by rw[j];exact A⟩;refine jY d (x:=aX c n z) ((f _).2 (Or.inr ⟨z,Z,rfl⟩)) ?_ u
       rw[kT,bv,j,bv,aP,e2];obtain⟨s,hs⟩:=mD A
       have:bm (a++47::b) c.p.data.toList c.q.data.toList=bm a c.p.data.toList c.q.data.toList++47::b:=by
        rw[bm,bm,hs];simp
       rw[this,eG _ I]
theorem mJ {L:List En} (f:Pp.Good L) {c:ar} {n:Int} (h:bn L c n=0):Pp.Good (bN L c n):=by
 have y:aM n=0:=by
  by_cases a:aM n=0
  · exact a
  · rw[bn,if_pos a]at h;exact h
 rw[bn,if_neg (fun x=>x y)]at h
 have j:aC c=0:=by
  by_cases a:aC c=0
  · exact a
  · rw[if_pos a]at h;exact h
 rw[if_neg (fun x=>x j)]at h
 have u:be L c=0:=by
  by_cases a:be L c=0
  · exact a
  · rw[if_pos a]at h;exact h
 rw[if_neg (fun x=>x u)]at h;split at h
 · cases h
 · rw[et]at h
   rw[bN];by_cases o:c.k=1∨c.k=2
   · rw[if_pos o]at h⊢
     refine uo f j u y o fun z=>?_
     rw[if_pos z]at h;cases h
   · rw[if_neg o]at h⊢
     by_cases d:c.k=3
     · rw[if_pos d]at h⊢
       refine uv f j u y d ?_
       cases hb:(ct L c).any (fun e=>Pp.big (bv c e))with
       |false=>rfl
       |true=>rw[if_pos hb]at h;cases h
     · rw[if_neg d]
       exact uq f c
end Go.Proofs.YtgamnckfmmbjdaaGreatDoor
