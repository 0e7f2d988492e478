/- What the server's take, give and makeFolder do. -/
import Derived.Test.YtgamnckfmmbjdaaGreatDoorWGZH
set_option linter.unusedSimpArgs false
set_option linter.unusedVariables false
namespace Go.Proofs.YtgamnckfmmbjdaaGreatDoor
open Go.RowKit Go.ChangeShapes Go.WideShapes Go.ChangeAt Go.Proofs.Tryz
set_option maxHeartbeats 4000000
set_option maxRecDepth 100000
theorem gm.shape {w:World} {g A:Nat} {H:Hb} (h:gm w g A H): ∃a d e f j o,Cs w g [.slice a H.fos.length d,.slice e H.gs.length f,.slice j H.ss.length o,.int .i64 H.nx,.int .i64 H.la,.int .i64 H.ro,.int .i64 H.now,.map (some A)]∧dt w (.slice a H.fos.length d) H.fos∧bt w (.slice e H.gs.length f) H.gs∧bR w (.slice j H.ss.length o) H.ss:=by
 obtain⟨J,K,ag,E,u,y,z⟩:=h
 have F:=u;have G:=y;have I:=z;obtain⟨a,d,rfl,_⟩:=u
 obtain⟨e,f,rfl,_⟩:=y
 obtain⟨j,o,rfl,_⟩:=z
 exact⟨a,d,e,f,j,o,E,F,G,I⟩
def kM:Hb:=⟨[],[],[],0,0,0,0⟩
theorem AJ (w:World):cp w (.agg #[.slice none 0 0,.slice none 0 0,.slice none 0 0,.int .i64 0,.int .i64 0,.int .i64 0,.int .i64 0]) kM:=⟨_,_,_,rfl,lE _,lk _,⟨none,0,rfl,Nat.le_refl _,by decide,fun i h=>absurd h (by simp[kM])⟩⟩
theorem cp.shape {w:World} {v:Value} {H:Hb} (h:cp w v H): ∃a d e f j o,v= .agg #[.slice a H.fos.length d,.slice e H.gs.length f,.slice j H.ss.length o,.int .i64 H.nx,.int .i64 H.la,.int .i64 H.ro,.int .i64 H.now]:=by
 obtain⟨A,E,ag,rfl,u,y,z⟩:=h
 obtain⟨a,d,rfl,_⟩:=u
 obtain⟨e,f,rfl,_⟩:=y
 obtain⟨j,o,rfl,_⟩:=z
 exact⟨a,d,e,f,j,o,rfl⟩
theorem cp.nb {W e:World} {v:Value} {H:Hb} {g:Nat} (h:cp W v H) (d:W.grownBy e (some g)) (a:cy W g):cp e v H:=by
 obtain⟨u,y,ag,rfl,f,j,o⟩:=h
 exact⟨u,y,ag,rfl,f.nb d a,j.nb d a,o.nb d a⟩
theorem iB.nb {W a:World} {v:Value} {A:An} {g:Nat} (h:iB W v A) (e:W.grownBy a (some g)) (d:cy W g):iB a v A:=by
 obtain⟨u,o,rfl,f,j⟩:=h
 exact⟨u,o,rfl,f.nb e d,j.nb e d⟩
theorem iB.shape {w:World} {v:Value} {A:An} (h:iB w v A): ∃e f a d,v= .agg #[.int .i64 A.err,.int .i64 A.num,.bool A.pg.reset,.slice e A.pg.tree.length f,.slice a A.pg.cos.length d,.int .i64 A.pg.cur,.bool A.pg.more]:=by
 obtain⟨y,u,rfl,j,o⟩:=h
 obtain⟨e,f,rfl,_⟩:=j
 obtain⟨a,d,rfl,_⟩:=o
 exact⟨e,f,a,d,rfl⟩
theorem gm.hub {w:World} {g u:Nat} {H:Hb} (h:gm w g u H): ∃a d e f j o,Cs w g [.slice a H.fos.length d,.slice e H.gs.length f,.slice j H.ss.length o,.int .i64 H.nx,.int .i64 H.la,.int .i64 H.ro,.int .i64 H.now,.map (some u)]∧cp w (.agg #[.slice a H.fos.length d,.slice e H.gs.length f,.slice j H.ss.length o,.int .i64 H.nx,.int .i64 H.la,.int .i64 H.ro,.int .i64 H.now]) H:=by
 obtain⟨a,d,e,f,j,o,y,z,A,E⟩:=h.shape
 exact⟨a,d,e,f,j,o,y,_,_,_,rfl,z,A,E⟩
def iI (l r:Int):Hb:=if aZ [] 1 l r=0 then⟨[],[],[],1,l,r,0⟩else kM
theorem AK (H:Hb) (v:Value) (w:World) (o:cp w v H) (y:hU H):
    Calls prog 18 #[v] w fun e w'=>e= .returned (.int .i64 (ae H))∧Below w.heap.size w w':=by
 have A:=hid o;have z:=hid y;obtain⟨E,F,G,I,J,K,rfl⟩:=o.shape
 clear o y;obtain⟨u,a⟩: ∃u,u=w.alloc (.cells #[.slice E H.fos.length F,.slice G H.gs.length I,.slice J H.ss.length K,.int .i64 H.nx,.int .i64 H.la,.int .i64 H.ro,.int .i64 H.now] 28):=⟨_,rfl⟩
 have f:Below w.heap.size w u:=by rw[a];exact(Below.refl _ _).alloc (Nat.le_refl _) _
 go_enter func18,ntmps18
 go_wp2_with fail;rw[←a];clear a;refine(yW H _ _ (A.out.below f) z.out).mono ?_
 rintro e M ⟨p,rfl,_,_,j⟩;have d:=af f j;go_wp2_with fail;go_ret;exact⟨rfl,d⟩
theorem AL (l r:Int) (w:World):
    Calls prog 9 #[.int .i64 l,.int .i64 r] w fun e w'=> ∃u,e= .returned (.tuple #[u,.int .i64 (aZ [] 1 l r)])∧cp w' u (iI l r)∧Below w.heap.size w w':=by
 obtain⟨J,o⟩: ∃J,J=aZ [] 1 l r:=⟨_,rfl⟩
 rw[←o];have Q:=hid o;have f:=hid (show iI l r=if J=0 then⟨[],[],[],1,l,r,0⟩else kM from by rw[iI,←o]);clear o;obtain⟨z,d⟩: ∃z,z=w.alloc (.cells #[.slice none 0 0,.slice none 0 0,.slice none 0 0,.int .i64 0,.int .i64 0,.int .i64 0,.int .i64 0] 28):=⟨_,rfl⟩
 obtain⟨A,y⟩: ∃A,A=z.alloc (.cells #[.slice none 0 0,.int .i64 1,.int .i64 l,.int .i64 r] 26):=⟨_,rfl⟩
 have P:z.heap.size=w.heap.size+1:=by rw[d];simp
 have N:Below w.heap.size w z:=by rw[d];exact(Below.refl _ _).alloc (Nat.le_refl _) _
 have H:Below z.heap.size z A:=by rw[y];exact(Below.refl _ _).alloc (Nat.le_refl _) _
 have S:Below w.heap.size w A:=af N H;have HX:Hid (Cs A w.heap.size [.slice none 0 0,.slice none 0 0,.slice none 0 0,.int .i64 0,.int .i64 0,.int .i64 0,.int .i64 0]):=((by rw[d];exact Cs.new w [.slice none 0 0,.slice none 0 0,.slice none 0 0,.int .i64 0,.int .i64 0,.int .i64 0,.int .i64 0] _:Cs z w.heap.size [.slice none 0 0,.slice none 0 0,.slice none 0 0,.int .i64 0,.int .i64 0,.int .i64 0,.int .i64 0]).below H:Cs A w.heap.size _)
 have M:Hid (Cs A (w.heap.size+1) [.slice none 0 0,.int .i64 1,.int .i64 l,.int .i64 r]):=(by rw[←P,y];exact Cs.new z [.slice none 0 0,.int .i64 1,.int .i64 l,.int .i64 r] _:Cs A (w.heap.size+1) _)
 have F:(w.alloc (.cells #[.slice none 0 0,.slice none 0 0,.slice none 0 0,.int .i64 0,.int .i64 0,.int .i64 0,.int .i64 0] 28)).alloc (.cells #[.slice none 0 0,.int .i64 1,.int .i64 l,.int .i64 r] 26)=A:=by rw[y,d]
 have K:=hid F;clear d y N H P F;go_enter func9,ntmps9
 go_upto_region 2 with fail;try simp only[World.setCell_alloc_new]
 rw[K.out];clear K;have y0:=M.out.cell 0 rfl;have y1:=M.out.cell 1 rfl;have y2:=M.out.cell 2 rfl;have y3:=M.out.cell 3 rfl;go_wp2_with fail;refine(qf [] _ 1 l r _ ⟨none,0,rfl,Nat.le_refl _,by decide,fun i h=>absurd h (by simp)⟩ (fun s hs=>by cases hs)).mono ?_
 rintro e w1 ⟨rfl,I⟩;rw[←Q.out];have E:=af S I;have a:=hid (HX.out.below I);have j:=hid (M.out.below I);clear y0 y1 y2 y3;by_cases O:J=0
 · subst O
   have G:=hid (show iI l r=⟨[],[],[],1,l,r,0⟩from by rw[f.out,if_pos rfl]);clear f;have y0:=j.out.cell 0 rfl;have y1:=j.out.cell 1 rfl;have y2:=j.out.cell 2 rfl;have y3:=j.out.cell 3 rfl;have T:=a.out.cell 0 rfl;have f0:=a.out.fr 0;have U:=a.out.cell 1 rfl;have f1:=a.out.fr 1;have V:=a.out.cell 2 rfl;have f2:=a.out.fr 2;have X:=a.out.cell 3 rfl;have f3:=a.out.fr 3;have Y:=a.out.cell 4 rfl;have f4:=a.out.fr 4;have Z:=a.out.cell 5 rfl;have f5:=a.out.fr 5;have p6:=a.out.cell 6 rfl;have f6:=a.out.fr 6;go_wp2_with fail;refine bodyPost_ret (v:= .tuple #[.agg #[.slice none 0 0,.slice none 0 0,.slice none 0 0,.int .i64 1,.int .i64 l,.int .i64 r,.int .i64 0],.int .i64 0]) (by simp[results,results9,go_sem,T,U,V,X,Y,Z,p6]) rfl ⟨_,rfl,?_,?_⟩
   · rw[G.out];exact⟨_,_,_,rfl,lE _,lk _,⟨none,0,rfl,Nat.le_refl _,Nat.zero_le _,fun i h=>absurd h (by simp)⟩⟩
   · exact(kU (b:=w.heap.size) E (Nat.le_refl _))
 · have hz:(J==0)=false:=by simpa using O
   have C3:(J !=0)=true:=by simpa using O
   have G:=hid (show iI l r=kM from by rw[f.out,if_neg O]);clear f;clear O;have T:=a.out.cell 0 rfl;have f0:=a.out.fr 0;have U:=a.out.cell 1 rfl;have f1:=a.out.fr 1;have V:=a.out.cell 2 rfl;have f2:=a.out.fr 2;have X:=a.out.cell 3 rfl;have f3:=a.out.fr 3;have Y:=a.out.cell 4 rfl;have f4:=a.out.fr 4;have Z:=a.out.cell 5 rfl;have f5:=a.out.fr 5;have p6:=a.out.cell 6 rfl;have f6:=a.out.fr 6;go_wp2_with fail;refine bodyPost_ret (v:= .tuple #[.agg #[.slice none 0 0,.slice none 0 0,.slice none 0 0,.int .i64 0,.int .i64 0,.int .i64 0,.int .i64 0],.int .i64 J]) (by simp[results,results9,go_sem,T,U,V,X,Y,Z,p6]) rfl ⟨_,rfl,?_,?_⟩
   · rw[G.out];exact AJ _
   · exact(kU (b:=w.heap.size) E (Nat.le_refl _))
def AM (H:Hb) (x:ByteArray):Int:=if¬ae H=0 then ae H else if bT H.gs x=true then 0 else 5
def sC (H:Hb) (x:ByteArray):List En:=if AM H x=0 then Jn.tree (zW H (zH H.fos H.gs x))else[]
def aH:Cn:=ey ⟨#[97]⟩ ⟨#[102]⟩
def Cy.b1:Cn:=⟨⟨#[97]⟩,⟨#[102]⟩,[],0,[⟨⟨#[120]⟩,false,⟨#[49]⟩,1⟩],⟨#[]⟩,[],0⟩
def Cy.b2:Cn:=⟨⟨#[97]⟩,⟨#[102]⟩,[],0,[⟨⟨#[120]⟩,false,⟨#[49]⟩,1⟩],⟨#[97,45,49]⟩,[⟨2,⟨#[120]⟩,⟨#[]⟩,⟨#[49]⟩,0⟩],1⟩
theorem jN:aU aH=0:=by decide
theorem oF:fR aH:=qF (by decide) (by decide)
theorem oG (L:List Sh) (x:ByteArray):bS L x=true↔ ∃s∈L,s.na.data.toList=x.data.toList:=by
 rw[bS,List.any_eq_true];constructor
 · rintro ⟨s,a,h⟩
   exact⟨s,a,iM _ _ (of_decide_eq_true h)⟩
 · rintro ⟨s,a,h⟩
   refine⟨s,a,decide_eq_true ?_⟩
   rw[aO,h];exact jS _
theorem AN {L:List Sh} (u:dz L=true):L.Pairwise (fun a b=>a.na.data.toList≠b.na.data.toList):=by
 rw[List.pairwise_iff_getElem];intro i j y o f e;obtain⟨d,rfl⟩: ∃d,j=i+d+1:=⟨j-i-1,by omega⟩
 have h:=lL u d i o;rw[e,jS]at h;omega
theorem Hu.cnt_none {L:List Sh} {x:List UInt8} (h: ∀s∈L,s.na.data.toList≠x):L.filter (fun s=>s.na.data.toList==x)=[]:=by
 rw[List.filter_eq_nil_iff];intro s d a;exact h s d (by simpa using a)
theorem sD: ∀{L:List Sh} {x:List UInt8},L.Pairwise (fun a b=>a.na.data.toList≠b.na.data.toList)→(∃s∈L,s.na.data.toList=x)→(L.filter (fun s=>s.na.data.toList==x)).length=1
 |[],x,_,h=>by obtain⟨s,o,_⟩:=h;cases o
 |s::r,x,hp,h=>by
  rw[List.pairwise_cons]at hp;by_cases e:s.na.data.toList=x
  · rw[List.filter_cons_of_pos (by simpa using e),Hu.cnt_none (fun t d j=>hp.1 t d (by rw[e,j]))]
    rfl
  · rw[List.filter_cons_of_neg (by simpa using e)]
    refine sD hp.2 ?_
    obtain⟨t,d,f⟩:=h
    rcases List.mem_cons.1 d with rfl|d
    · exact absurd f e
    · exact⟨t,d,f⟩
theorem sE {a:Type} (p q:a→Bool): ∀(L:List a),(∀s∈L,q s=true→p s=false)→(L.filter (fun s=>p s||q s)).length=(L.filter p).length+(L.filter q).length
 |[],_=>rfl
 |s::r,h=>by
  have ih:=sE p q r (fun t f=>h t (List.mem_cons_of_mem _ f));cases e:q s with
  |true=>
   have d:=h s (List.mem_cons_self ..) e;rw[List.filter_cons_of_pos (by simp[e]),List.filter_cons_of_neg (by simp[d]),List.filter_cons_of_pos e,List.length_cons,List.length_cons,ih];omega
  |false=>
   cases d:p s with
   |true=>rw[List.filter_cons_of_pos (by simp[d]),List.filter_cons_of_pos d,List.filter_cons_of_neg (by simp[e]),List.length_cons,List.length_cons,ih];omega
   |false=>rw[List.filter_cons_of_neg (by simp[d,e]),List.filter_cons_of_neg (by simp[d]),List.filter_cons_of_neg (by simp[e]),ih]
theorem AO (G:List Gr) (g:Gr) (x:ByteArray):bT (G++[g]) x=(bT G x||(x.data.toList==g.fo.data.toList)):=by
 rw[jJ,jJ,List.any_append];simp only[List.any_cons,List.any_nil,Bool.or_false];congr 1
 exact Bool.eq_iff_iff.2 ⟨fun h=>by rw[beq_iff_eq]at h⊢;exact h.symm,fun h=>by rw[beq_iff_eq]at h⊢;exact h.symm⟩
theorem sF {L:List Sh} (j:dz L=true): ∀G:List Gr,(∀g∈G,bS L g.fo=true)→Maps.size (Jn.D (Hu.told L G))=(L.filter (fun s=>bT G s.na)).length:=by
 intro G;refine nI (P:=fun G=>(∀g∈G,bS L g.fo=true)→Maps.size (Jn.D (Hu.told L G))=(L.filter (fun s=>bT G s.na)).length) ?_ ?_ G
 · intro _
   have:L.filter (fun s=>bT [] s.na)=[]:=List.filter_eq_nil_iff.2 (fun s _ h=>by rw[jJ]at h;cases h)
   rw[this];rfl
 · intro G g ih ha
   have ih:=ih (fun x o=>ha x (List.mem_append_left _ o));have e:Hu.told L (G++[g])=Hu.told L G++[⟨f9 L g.fo,g.fo,[]⟩]:=by unfold Hu.told;simp
   rw[e,lr,Maps.size_put (nH _),qy];have f:(fun s:Sh=>bT (G++[g]) s.na)=(fun s:Sh=>bT G s.na||(s.na.data.toList==g.fo.data.toList)):=funext fun s=>AO G g s.na
   rw[f,zG];have a: ∀s:Sh,s.na.data.toList=g.fo.data.toList→bT G s.na=bT G g.fo:=fun s d=>by rw[jJ,jJ,d]
   cases hb:bT G g.fo with
   |true=>
    rw[if_pos rfl,ih]
    have:(fun s:Sh=>bT G s.na||(s.na.data.toList==g.fo.data.toList))=(fun s:Sh=>bT G s.na):=funext fun s=>by
     by_cases d:s.na.data.toList=g.fo.data.toList
     · rw[a s d,hb];rfl
     · rw[show(s.na.data.toList==g.fo.data.toList)=false from by simpa using d,Bool.or_false]
    rw[this]
   |false=>
    rw[if_neg (by simp),ih,sE (fun s:Sh=>bT G s.na) (fun s:Sh=>s.na.data.toList==g.fo.data.toList) L (fun s _ d=>by rw[a s (by simpa using d)];exact hb),sD (AN j) ((oG L g.fo).1 (ha g (by simp)))]
theorem AP {L:List Sh} {G:List Gr} (d:dz L=true) (a: ∀g∈G,bS L g.fo=true) (h: ∀s∈L,bT G s.na=true):cA L G=0:=by
 rw[cA,if_pos (List.all_eq_true.2 a),sF d G a,List.filter_eq_self.2 h,if_neg (Nat.lt_irrefl _)]
theorem AQ {L:List Sh} {G:List Gr} (j:dz L=true) (f: ∀g∈G,bS L g.fo=true) {s:Sh} (o:s∈L) (h:bT G s.na=false):cA L G=5:=by
 have d:(L.filter (fun s=>bT G s.na)).length<L.length:=by
  rcases Nat.lt_or_ge (L.filter (fun s=>bT G s.na)).length L.length with a|a
  · exact a
  · have e:L.filter (fun s=>bT G s.na)=L:=(List.filter_sublist).eq_of_length_le a
    have:=List.filter_eq_self.1 e s o
    rw[h]at this;cases this
 rw[cA,if_pos (List.all_eq_true.2 f),sF j G f,if_pos d]
def fm (L:List Sh) (x:ByteArray):Int:=match L.findIdx? (fun s=>s.na.toList==x.toList)with
 |some i=>i
 |none=> -1
theorem AR {L:List Sh} {x:ByteArray} {k:Nat} (d:k<L.length) (h: ∀m (h:m<L.length),m<k→(L[m].na.toList==x.toList)=false) (a:(L[k].na.toList==x.toList)=true):fm L x=k:=by
 have:L.findIdx? (fun s=>s.na.toList==x.toList)=some k:=List.findIdx?_eq_some_iff_getElem.2 ⟨d,a,fun m e=>by rw[h m (by omega) e];decide⟩
 rw[fm,this]
theorem AS {L:List Sh} {x:ByteArray} (h: ∀m (h:m<L.length),(L[m].na.toList==x.toList)=false):fm L x= -1:=by
 have:L.findIdx? (fun s=>s.na.toList==x.toList)=none:=List.findIdx?_eq_none_iff.2 fun s d=>by
  obtain⟨m,a,rfl⟩:=List.getElem_of_mem d
  exact h m a
 rw[fm,this]
theorem AT (L:List Sh) (x:ByteArray):fm L x<0↔bS L x=false:=by
 rw[fm];cases h:L.findIdx? (fun s=>s.na.toList==x.toList)with
 |some i=>
  obtain⟨e,a,_⟩:=List.findIdx?_eq_some_iff_getElem.1 h
  have:bS L x=true:=(oG L x).2 ⟨L[i],List.getElem_mem e,by rw[Lib.toList_data,Lib.toList_data]at a;simpa using a⟩
  rw[this];simp
 |none=>
  have:bS L x=false:=by
   cases hb:bS L x with
   |false=>rfl
   |true=>
    obtain⟨s,f,d⟩:=(oG L x).1 hb
    have:=List.findIdx?_eq_none_iff.1 h s f
    rw[Lib.toList_data,Lib.toList_data,d]at this;simp at this
  rw[this];simp
theorem AU (H:Hb) (v:Value) (x:ByteArray) (w:World) (X:cp w v H):
    Calls prog 31 #[v,.string x] w fun e w'=>e= .returned (.int .i64 (fm H.fos x))∧Below w.heap.size w w':=by
 obtain⟨fos,gs,ss,nx,la,ro,now⟩:=H
 obtain⟨vf,vg,ag,rfl,Y,Z,aG⟩:=X
 simp only at*;obtain⟨z,G,rfl,Q,_,P⟩:=Y
 have T:Hid (∀i (h:i<fos.length),∃b o,z=some ⟨b,o,none⟩∧b<w.heap.size∧fD w b (o+i*4) fos[i]):=P;obtain⟨I,J,rfl,_⟩:=Z
 obtain⟨M,N,rfl,_⟩:=aG
 clear P;obtain⟨u,a⟩: ∃u,u=w.alloc (.cells #[.slice z fos.length G,.slice I gs.length J,.slice M ss.length N,.int .i64 nx,.int .i64 la,.int .i64 ro,.int .i64 now] 28):=⟨_,rfl⟩
 have j:Below w.heap.size w u:=by rw[a];exact(Below.refl _ _).alloc (Nat.le_refl _) _
 have U:Hid (Cs u w.heap.size [.slice z fos.length G,.slice I gs.length J,.slice M ss.length N,.int .i64 nx,.int .i64 la,.int .i64 ro,.int .i64 now]):=(by rw[a];exact Cs.new w [.slice z fos.length G,.slice I gs.length J,.slice M ss.length N,.int .i64 nx,.int .i64 la,.int .i64 ro,.int .i64 now] _:Cs u w.heap.size _)
 go_enter func31,ntmps31
 go_upto_region 1 with fail;rw[←a];clear a;have x0:=U.out.cell 0 rfl;go_wp2_with fail;go_loopw [5] (fun i wr=> ∃k:Nat,k≤fos.length∧i= .int .i64 k∧Hid (∀m (h:m<fos.length),m<k→(fos[m].na.toList==x.toList)=false)∧wr=u) (fun i _=>fos.length-(intOf i).toNat)
 case atStart=>exact⟨0,Nat.zero_le _,rfl,(fun m _ h=>absurd h (Nat.not_lt_zero _): ∀m (h:m<fos.length),m<0→(fos[m].na.toList==x.toList)=false),rfl⟩
 case round=>
  obtain⟨k,hk,rfl,E,rfl⟩:=hrel
  by_cases y:k<fos.length
  · obtain⟨b,o,rfl,hb,S⟩:=T.out k y
    obtain⟨c0,_⟩:=S.below hb j
    have K:(k:Int)<fos.length:=by omega
    have d:=hid (show(fos[k].na.toList==x.toList)=true→fm fos x=k from fun h=>AR y E.out h)
    have f:=hid (show(fos[k].na.toList==x.toList)=false→ ∀m (h:m<fos.length),m<k+1→(fos[m].na.toList==x.toList)=false from fun h m V h2=>by
     by_cases e:m=k
     · subst e;exact h
     · exact E.out m V (by omega))
    clear S;cases O:(fos[k].na.toList==x.toList)with
    |true=>
     have A:=hid (d.out O);clear d f;go_wp2_with fail;go_ret;exact⟨by rw[A.out];rfl,j⟩
    |false=>
     have F:=hid (f.out O);clear d f;go_wp2_with fail;go_roundw
     case rel=>exact⟨k+1,by omega,by simp,F,by simp⟩
     case measure=>simp[intOf];omega
  · have K: ¬(k:Int)<fos.length:=by omega
    have A:=hid (show fm fos x= -1 from AS fun m h=>E.out m h (by omega));go_wp2_with fail;go_ret;exact⟨by rw[A.out];rfl,j⟩
theorem AV (J:Jo) (v:Value) (w:World) (F:fV w v J) (E: ∀e∈J.base,e.path.size≤1000000000) (o:dR 1000000000 J.cos):
    Calls prog 29 #[v] w fun e w'=>e= .returned (.int .i64 (bo J))∧Below w.heap.size w w':=by
 have H:=hid F;have G:=hid E;have u:=hid o;obtain⟨M,N,rfl,z,A⟩:=F
 obtain⟨I,a,rfl,_⟩:=z
 obtain⟨K,d,rfl,_⟩:=A
 clear E o;have j:Below w.heap.size w (w.alloc (.cells #[.slice I J.base.length a,.int .i64 J.first,.slice K J.cos.length d] 90)):=(Below.refl _ _).alloc (Nat.le_refl _) _;go_enter func29,ntmps29
 go_wp2_with fail;refine(Ab J _ _ (H.out.below j) G.out u.out).mono ?_
 rintro e O ⟨p,rfl,_,y⟩;have f:=af j y;go_wp2_with fail;go_ret;exact⟨rfl,f⟩
theorem BkG.mem {H:Type} {d:DataW H}: ∀{l:List (DataW H)},d∈l→Rows.uptoBulk d≤Rows.uptoBulkAll l
 |[],h=>by cases h
 |x::r,h=>by
  rw[Rows.uptoBulkAll];rcases List.mem_cons.1 h with rfl|h
  · omega
  · have:=BkG.mem h;omega
theorem BkG.len {H:Type}: ∀{l:List (DataW H)},(∀d∈l,1≤Rows.uptoBulk d)→l.length≤Rows.uptoBulkAll l
 |[],_=>Nat.zero_le _
 |x::r,h=>by
  rw[Rows.uptoBulkAll,List.length_cons];have e:=h x (by simp);have f:=BkG.len (l:=r) fun d a=>h d (by simp[a])
  omega
theorem Tryz.cellsG:prog.cellsOf 97=3:=by kernel_rfl
theorem Tryz.cellsG9:prog.cellsOf 9=1:=by kernel_rfl
theorem Tryz.cellsG3:prog.cellsOf 3=1:=by kernel_rfl
def lX {H:Type} (e:Gr):DataW H:= .agg [.lit (.string e.fo.data.toList),.lit (.string e.wh.data.toList),.lit (.int .i64 e.ri)]
theorem sG {d:Type} {l:List d} (h:l.length=3): ∃a b c,l=[a,b,c]:=by
 rcases l with _|⟨a,_|⟨b,_|⟨c,_|⟨e,r⟩⟩⟩⟩
 all_goals first|exact⟨a,b,c,rfl⟩|(simp at h)
theorem AW {W:World} {a:Addr} {v:Value} (k:W.cell? a=some v):a.spot=none:=by
 unfold World.cell? at k;cases d:a.spot with
 |none=>rfl
 |some z=>rw[d]at k;simp at k;split at k<;>cases k
theorem AX {H:Type} {enc:TypeId×Value→H} {P:Program} {w:World} {base:Nat} {a:Nat→Bool} {d:Bool} {t:TypeId} {e f j:Field} {fuel:Nat} {cs:List Value} {x:DataW H×List MemPlace} (F:P.underlying t=some (.struct #[e,f,j])) (h:DataW.trod enc P w base a d fuel t cs=some x):
    ∃u y z n,x=(.agg [u.1,y.1,z.1],u.2++(y.2++z.2))∧cs.length=P.cellsOf t∧DataW.trod enc P w base a d n e.type ((cs.drop e.offset).take (P.cellsOf e.type))=some u∧
     DataW.trod enc P w base a d n f.type ((cs.drop f.offset).take (P.cellsOf f.type))=some y∧DataW.trod enc P w base a d n j.type ((cs.drop j.offset).take (P.cellsOf j.type))=some z:=by
 obtain⟨xs,n,_,rfl,E,o,A⟩:=DataW.trod_struct F h
 match xs,o with
 |[u,y,z],_=>exact⟨u,y,z,n,by simp,E,by simpa using A 0 e rfl,by simpa using A 1 f rfl,by simpa using A 2 j rfl⟩
theorem AY {H:Type} {enc:TypeId×Value→H} {W:World} {n i:Nat} {a:Addr} {x:DataW H} {pl:List MemPlace} {j:List Value} (ha:a.spot=none)
    (M:W.cells? 0 (a.add (i*prog.cellsOf 97)) (prog.cellsOf 97)=some j) (Z:DataW.trod enc prog W 0 (fun _=>true) true n 97 j=some (x,pl)):
    ∃e:Gr,x=lX e∧a.spot=none∧dQ W a.block (a.off+i*3) e:=by
 rw[Tryz.cellsG]at M;obtain⟨_,o,z⟩:=World.cells?_some M
 obtain⟨y0,y1,y2,A,u,_,cI,t1,t2⟩:=AX underlying97 Z
 obtain⟨I,J,K,rfl⟩:=sG o
 have E:DataW.trod enc prog W 0 (fun _=>true) true A 9 [I]=some y0:=by simpa[Tryz.cellsG9]using cI
 have F:DataW.trod enc prog W 0 (fun _=>true) true A 9 [J]=some y1:=by simpa[Tryz.cellsG9]using t1
 have G:DataW.trod enc prog W 0 (fun _=>true) true A 3 [K]=some y2:=by simpa[Tryz.cellsG3]using t2
 obtain⟨Q,aP,V,_⟩:=DataW.trod_string underlying9 E
 obtain⟨S,ay,X,_⟩:=DataW.trod_string underlying9 F
 obtain⟨T,U,Y,_⟩:=DataW.trod_int underlying3 G
 obtain rfl:I= .string Q:=by simpa using aP
 obtain rfl:J= .string S:=by simpa using ay
 obtain rfl:K= .int .i64 T:=by simpa using U
 subst V;subst X;subst Y;simp only[Prod.mk.injEq]at u;have N:=z 0 (by omega);have O:=z 1 (by omega);have P:=z 2 (by omega);obtain⟨ab,ao,y⟩:=a
 obtain rfl:y=none:=ha;refine⟨⟨Q,S,T⟩,u.1,rfl,?_,?_,?_⟩
 · by_cases d:i=0
   · subst d;simpa[Addr.add]using N
   · have f:i*3≠0:=by omega
     simpa[Addr.add,f]using N
 · by_cases d:i=0
   · subst d;simpa[Addr.add]using O
   · have f:i*3≠0:=by omega
     simpa[Addr.add,f,Nat.add_assoc]using O
 · by_cases d:i=0
   · subst d;simpa[Addr.add]using P
   · have f:i*3≠0:=by omega
     simpa[Addr.add,f,Nat.add_assoc]using P
theorem Tryz.bytesG:prog.bytesOf 97=40:=by kernel_rfl
theorem sH {H:Type} {P:Program} {e:TypeId}: ∀{l:List (DataW H)} {d:DataW H},d∈l→ ∀n∈d.weights P e,n∈DataW.weightsAll P e l
 |[],_,h=>by cases h
 |x::r,d,h=>by
  intro n a;rw[DataW.weightsAll];rcases List.mem_cons.1 h with rfl|h
  · exact List.mem_append_left _ a
  · exact List.mem_append_right _ (sH h n a)
theorem AZ {H:Type} {enc:TypeId×Value→H} {W:World} {v:Value} {d:DataW H} {p:List MemPlace} {fuel:Nat} (hf:DataW.trod enc prog W 0 (fun _=>true) true fuel 23 [v]=some (d,p)) (Y: ∀n∈d.weights prog 23,n≤reachBytes):
    ∃L:List Gr,bt W v L∧gZ L:=by
 haveI:Inhabited Gr:=⟨⟨⟨#[]⟩,⟨#[]⟩,0⟩⟩
 rcases Go.Deep.open_slice underlying23 hf with⟨o,V⟩|⟨a,len,y,m,n,D,Pl,o,hb,hl,hm,J,V,F⟩
 · obtain rfl:v= .slice none 0 0:=by simpa using o
   exact⟨[],lk _,fun e P=>by cases P⟩
 obtain rfl:v= .slice (some a) len y:=by simpa using o
 have T:m=y:=J.trans (if_pos rfl);clear J;have hd:=(Prod.mk.inj V).1;clear V;subst T
 have U:0<len→a.spot=none:=fun h=>by
  obtain⟨N,f,_⟩:=F 0 (by omega)
  rw[Tryz.cellsG]at f;obtain⟨_,I,hc⟩:=World.cells?_some f
  obtain⟨Z,c1,c2,rfl⟩:=sG I
  have k0:=hc 0 (by omega);exact AW (v:=Z) (by simpa[Addr.add]using k0)
 have z: ∀i,i<len→ ∃e:Gr,D i=lX e∧a.spot=none∧dQ W a.block (a.off+i*3) e:=fun i u=>by
  obtain⟨N,f,O⟩:=F i (by omega)
  exact AY (U (by omega)) f O
 obtain⟨E,ae⟩:=Go.Deep.choose_lt z
 obtain⟨M,A⟩: ∃M,d= .slice ((List.range len).map D) M:=⟨_,hd⟩
 have j:(len+M.length)*40≤reachBytes:=by
  have:=Y ((len+M.length)*40) (by
   rw[A,DataW.weights];simp only[underlying23,Tryz.bytesG,List.length_map,List.length_range];exact List.mem_cons_self ..)
  exact this
 have G: ∀i,i<len→ ∀n∈(D i).weights prog 97,n≤reachBytes:=fun i u n hn=>Y n (by
  rw[A,DataW.weights];simp only[underlying23];refine List.mem_cons_of_mem _ (List.mem_append_left _ (sH (List.mem_map.2 ⟨i,List.mem_range.2 u,rfl⟩) n hn)))
 have K:reachBytes=140737488351232:=by decide
 refine⟨(List.range len).map E,⟨some a,_,by simp;rfl,by simpa using hl,?_,fun i u=>?_⟩,fun e P=>?_⟩
 · rw[K]at j
   simp only[List.length_map,List.length_range];omega
 · have Q:i<len:=by simpa using u
   obtain⟨f,O,X⟩:=ae i Q
   have S:a.block<W.heap.size:=by
    have k:=X.1;rcases Nat.lt_or_ge a.block W.heap.size with h|h
    · exact h
    · unfold World.cell? at k;rw[Array.getElem?_eq_none h]at k;cases k
   refine⟨a.block,a.off,?_,S,by simpa using X⟩
   rw[←O]
 · obtain⟨i,u,rfl⟩:=List.mem_map.1 P
   have f:=G i (List.mem_range.1 u);rw[(ae i (List.mem_range.1 u)).1]at f
   have hw:DataW.weights prog 97 (lX (H:=H) (E i))=[(E i).fo.data.toList.length,(E i).wh.data.toList.length]:=by
    rw[lX,DataW.weights];simp only[underlying97];simp[DataW.weightsEach,DataW.weights]
   rw[hw,K]at f;rw[Lib.size_eq,Lib.size_eq];have a1:=f _ (List.mem_cons_self ..);have a2:=f _ (List.mem_cons_of_mem _ (List.mem_cons_self ..));exact⟨by omega,by omega⟩
end Go.Proofs.YtgamnckfmmbjdaaGreatDoor
