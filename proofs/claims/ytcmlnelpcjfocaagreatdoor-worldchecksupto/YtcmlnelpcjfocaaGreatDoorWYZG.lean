/- What hub.New, Check, Tree and Serve answer. -/
import Derived.Test.YtcmlnelpcjfocaaGreatDoorWYZE
set_option linter.unusedSimpArgs false
set_option linter.unusedVariables false
namespace Go.Proofs.YtcmlnelpcjfocaaGreatDoor
open Go.RowKit Go.Proofs.Tryz
set_option maxHeartbeats 4000000
set_option maxRecDepth 100000
theorem dC.shape {w:World} {v:Value} {H:Hb} (h:dC w v H): ∃d f y z A sc,v= .agg #[.slice d H.fos.length f,.slice y H.gs.length z,.slice A H.ss.length sc,.int .i64 H.nx,.int .i64 H.la,.int .i64 H.ro,.int .i64 H.now]:=by
 obtain⟨I,J,ai,rfl,E,F,G⟩:=h
 obtain⟨d,f,rfl,_⟩:=E
 obtain⟨y,z,rfl,_⟩:=F
 obtain⟨A,sc,rfl,_⟩:=G
 exact⟨d,f,y,z,A,sc,rfl⟩
theorem dC.nb {W y:World} {v:Value} {H:Hb} {g:Nat} (h:dC W v H) (f:W.grownBy y (some g)) (d:dx W g):dC y v H:=by
 obtain⟨F,G,ai,rfl,z,A,E⟩:=h
 exact⟨F,G,ai,rfl,z.nb f d,A.nb f d,E.nb f d⟩
theorem jJ.nb {W d:World} {v:Value} {A:An} {g:Nat} (h:jJ W v A) (y:W.grownBy d (some g)) (f:dx W g):jJ d v A:=by
 obtain⟨G,F,rfl,z,E⟩:=h
 exact⟨G,F,rfl,z.nb y f,E.nb y f⟩
theorem jJ.shape {w:World} {v:Value} {A:An} (h:jJ w v A): ∃y z d f,v= .agg #[.int .i64 A.err,.int .i64 A.num,.bool A.pg.reset,.slice y A.pg.tree.length z,.slice d A.pg.cos.length f,.int .i64 A.pg.cur,.bool A.pg.more]:=by
 obtain⟨H,G,rfl,E,F⟩:=h
 obtain⟨y,z,rfl,_⟩:=E
 obtain⟨d,f,rfl,_⟩:=F
 exact⟨y,z,d,f,rfl⟩
theorem ji.hub {w:World} {g E:Nat} {H:Hb} (h:ji w g E H): ∃d f y z A sc,Cs w g [.slice d H.fos.length f,.slice y H.gs.length z,.slice A H.ss.length sc,.int .i64 H.nx,.int .i64 H.la,.int .i64 H.ro,.int .i64 H.now,.map (some E)]∧dC w (.agg #[.slice d H.fos.length f,.slice y H.gs.length z,.slice A H.ss.length sc,.int .i64 H.nx,.int .i64 H.la,.int .i64 H.ro,.int .i64 H.now]) H:=by
 obtain⟨d,f,y,z,A,sc,F,G,I,J⟩:=h.shape
 exact⟨d,f,y,z,A,sc,F,_,_,_,rfl,G,I,J⟩
def ld (l r:Int):Hb:=if bJ [] 1 l r=0 then⟨[],[],[],1,l,r,0⟩else nT
theorem Fo (H:Hb) (v:Value) (w:World) (A:dC w v H) (F:kd H):
    Calls prog 23 #[v] w fun e w'=>e= .returned (.int .i64 (ae H))∧Below w.heap.size w w':=by
 have I:=hid A;have G:=hid F;obtain⟨J,K,M,N,O,sc,rfl⟩:=A.shape
 clear A F;obtain⟨E,d⟩: ∃E,E=w.alloc (.cells #[.slice J H.fos.length K,.slice M H.gs.length N,.slice O H.ss.length sc,.int .i64 H.nx,.int .i64 H.la,.int .i64 H.ro,.int .i64 H.now] 28):=⟨_,rfl⟩
 have y:Below w.heap.size w E:=by rw[d];exact(Below.refl _ _).alloc (Nat.le_refl _) _
 go_enter func23,ntmps23
 go_wp2_with fail;rw[←d];clear d;refine(xo H _ _ (I.out.below y) G.out).mono ?_
 rintro e P ⟨p,rfl,_,_,z⟩;have f:=ag y z;go_wp2_with fail;go_ret;exact⟨rfl,f⟩
theorem Fp (l r:Int) (w:World):
    Calls prog 15 #[.int .i64 l,.int .i64 r] w fun e w'=> ∃u,e= .returned (.tuple #[u,.int .i64 (bJ [] 1 l r)])∧dC w' u (ld l r)∧Below w.heap.size w w':=by
 obtain⟨N,A⟩: ∃N,N=bJ [] 1 l r:=⟨_,rfl⟩
 rw[←A];have U:=hid A;have y:=hid (show ld l r=if N=0 then⟨[],[],[],1,l,r,0⟩else nT from by rw[ld,←A]);clear A;obtain⟨F,f⟩: ∃F,F=w.alloc (.cells #[.slice none 0 0,.slice none 0 0,.slice none 0 0,.int .i64 0,.int .i64 0,.int .i64 0,.int .i64 0] 28):=⟨_,rfl⟩
 obtain⟨G,E⟩: ∃G,G=F.alloc (.cells #[.slice none 0 0,.int .i64 1,.int .i64 l,.int .i64 r] 26):=⟨_,rfl⟩
 have T:F.heap.size=w.heap.size+1:=by rw[f];simp
 have Q:Below w.heap.size w F:=by rw[f];exact(Below.refl _ _).alloc (Nat.le_refl _) _
 have K:Below F.heap.size F G:=by rw[E];exact(Below.refl _ _).alloc (Nat.le_refl _) _
 have V:Below w.heap.size w G:=ag Q K;have HX:Hid (Cs G w.heap.size [.slice none 0 0,.slice none 0 0,.slice none 0 0,.int .i64 0,.int .i64 0,.int .i64 0,.int .i64 0]):=((by rw[f];exact Cs.new w [.slice none 0 0,.slice none 0 0,.slice none 0 0,.int .i64 0,.int .i64 0,.int .i64 0,.int .i64 0] _:Cs F w.heap.size [.slice none 0 0,.slice none 0 0,.slice none 0 0,.int .i64 0,.int .i64 0,.int .i64 0,.int .i64 0]).below K:Cs G w.heap.size _)
 have P:Hid (Cs G (w.heap.size+1) [.slice none 0 0,.int .i64 1,.int .i64 l,.int .i64 r]):=(by rw[←T,E];exact Cs.new F [.slice none 0 0,.int .i64 1,.int .i64 l,.int .i64 r] _:Cs G (w.heap.size+1) _)
 have I:(w.alloc (.cells #[.slice none 0 0,.slice none 0 0,.slice none 0 0,.int .i64 0,.int .i64 0,.int .i64 0,.int .i64 0] 28)).alloc (.cells #[.slice none 0 0,.int .i64 1,.int .i64 l,.int .i64 r] 26)=G:=by rw[E,f]
 have O:=hid I;clear f E Q K T I;go_enter func15,ntmps15
 go_upto_region 2 with fail;try simp only[World.setCell_alloc_new]
 rw[O.out];clear O;have y0:=P.out.cell 0 rfl;have y1:=P.out.cell 1 rfl;have al:=P.out.cell 2 rfl;have y3:=P.out.cell 3 rfl;go_wp2_with fail;refine(vV [] _ 1 l r _ ⟨none,0,rfl,Nat.le_refl _,by decide,fun i h=>absurd h (by simp)⟩ (fun s hs=>by cases hs)).mono ?_
 rintro e w1 ⟨rfl,M⟩;rw[←U.out];have H:=ag V M;have d:=hid (HX.out.below M);have z:=hid (P.out.below M);clear y0 y1 al y3;by_cases S:N=0
 · subst S
   have J:=hid (show ld l r=⟨[],[],[],1,l,r,0⟩from by rw[y.out,if_pos rfl]);clear y;have y0:=z.out.cell 0 rfl;have y1:=z.out.cell 1 rfl;have al:=z.out.cell 2 rfl;have y3:=z.out.cell 3 rfl;have X:=d.out.cell 0 rfl;have f0:=d.out.fr 0;have Y:=d.out.cell 1 rfl;have f1:=d.out.fr 1;have Z:=d.out.cell 2 rfl;have f2:=d.out.fr 2;have p3:=d.out.cell 3 rfl;have f3:=d.out.fr 3;have p4:=d.out.cell 4 rfl;have f4:=d.out.fr 4;have p5:=d.out.cell 5 rfl;have f5:=d.out.fr 5;have p6:=d.out.cell 6 rfl;have f6:=d.out.fr 6;go_wp2_with fail;refine bodyPost_ret (v:= .tuple #[.agg #[.slice none 0 0,.slice none 0 0,.slice none 0 0,.int .i64 1,.int .i64 l,.int .i64 r,.int .i64 0],.int .i64 0]) (by simp[results,results15,go_sem,X,Y,Z,p3,p4,p5,p6]) rfl ⟨_,rfl,?_,?_⟩
   · rw[J.out];exact⟨_,_,_,rfl,oL _,on _,⟨none,0,rfl,Nat.le_refl _,Nat.zero_le _,fun i h=>absurd h (by simp)⟩⟩
   · exact(oj (b:=w.heap.size) H (Nat.le_refl _))
 · have hz:(N==0)=false:=by simpa using S
   have I0:(N !=0)=true:=by simpa using S
   have J:=hid (show ld l r=nT from by rw[y.out,if_neg S]);clear y;clear S;have X:=d.out.cell 0 rfl;have f0:=d.out.fr 0;have Y:=d.out.cell 1 rfl;have f1:=d.out.fr 1;have Z:=d.out.cell 2 rfl;have f2:=d.out.fr 2;have p3:=d.out.cell 3 rfl;have f3:=d.out.fr 3;have p4:=d.out.cell 4 rfl;have f4:=d.out.fr 4;have p5:=d.out.cell 5 rfl;have f5:=d.out.fr 5;have p6:=d.out.cell 6 rfl;have f6:=d.out.fr 6;go_wp2_with fail;refine bodyPost_ret (v:= .tuple #[.agg #[.slice none 0 0,.slice none 0 0,.slice none 0 0,.int .i64 0,.int .i64 0,.int .i64 0,.int .i64 0],.int .i64 N]) (by simp[results,results15,go_sem,X,Y,Z,p3,p4,p5,p6]) rfl ⟨_,rfl,?_,?_⟩
   · rw[J.out];exact EX _
   · exact(oj (b:=w.heap.size) H (Nat.le_refl _))
def gI (H:Hb) (x:ByteArray):Int:=if¬ae H=0 then ae H else if bT H.gs x=true then 0 else 5
def fu (H:Hb) (x:ByteArray):List En:=if gI H x=0 then Jn.tree (sE H (eZ H.fos H.gs x))else[]
theorem Fq (H:Hb) (v:Value) (x:ByteArray) (w:World) (hv:dC w v H) (hs:kd H) (hx:x.size≤150000000000000):
    Calls prog 28 #[v,.string x] w fun e w'=> ∃u,e= .returned (.tuple #[u,.int .i64 (gI H x)])∧an w' u (fu H x)∧Below w.heap.size w w':=by
 have HV:=hid hv;have HS:=hid hs;have Y:=hid hx;obtain⟨fa,fc,ga,gc,sa,sc,rfl⟩:=hv.shape
 clear hv hs hx;obtain⟨wz,K⟩: ∃wz,wz=w.alloc (.cells #[.slice fa H.fos.length fc,.slice ga H.gs.length gc,.slice sa H.ss.length sc,.int .i64 H.nx,.int .i64 H.la,.int .i64 H.ro,.int .i64 H.now] 28):=⟨_,rfl⟩
 have O:Below w.heap.size w wz:=by rw[K];exact(Below.refl _ _).alloc (Nat.le_refl _) _
 go_enter func28,ntmps28
 go_wp2_with fail;rw[←K];clear K;refine(xo H _ _ (HV.out.below O) HS.out).mono ?_
 rintro e w1 ⟨p,rfl,F,A,I0⟩;have z:=ag O I0;by_cases d: ¬(ae H=0)
 · have hz:(ae H==0)=false:=by simpa using d
   have Ix:(ae H !=0)=true:=by simpa using d
   have I:=hid (show gI H x=ae H∧fu H x=[]from by
    have e:gI H x=ae H:=by rw[gI,if_pos d]
    exact⟨e,by rw[fu,e,if_neg d]⟩)
   clear d F A;generalize ae H=r at*;go_wp2_with fail;go_ret2;exact⟨_,by rw[I.out.1];rfl,by rw[I.out.2];exact xL _,z⟩
 replace d:=Decidable.not_not.1 d;obtain⟨rfl,B,vf,vg,ai,I8,I9,S,U⟩:=F d
 have H0:=hid d;have I7:=hid S;have HM:=hid U;obtain⟨Z,E,_⟩:=S
 have HC:=hid Z;have I6:=hid E.lies;obtain⟨af,cf,rfl,_,_,J⟩:=E.lies
 have Q:=U.look2 x Y.out;have p7:=HC.out.cell 7 rfl;have p0:=HC.out.cell 0 rfl;rw[d];cases f:bT H.gs x with
 |false=>
  have I:=hid (show gI H x=5∧fu H x=[]from by
   have e:gI H x=5:=by rw[gI,if_neg (fun y=>y d),if_neg (by rw[f];decide)]
   exact⟨e,by rw[fu,e,if_neg (by decide)]⟩)
  rw[f]at Q;clear d F A f Z E J U;go_wp2_with fail;go_ret2;exact⟨_,by rw[I.out.1];rfl,by rw[I.out.2];exact xL _,z⟩
 |true=>
  have P:eZ H.fos H.gs x<H.fos.length:=(sD d f).elim (fun h _=>h);have aL:gI H x=0:=by rw[gI,if_neg (fun y=>y d),if_pos f]
  have I:Hid (gI H x=0):=aL;obtain⟨i,G⟩: ∃i,i=eZ H.fos H.gs x:=⟨_,rfl⟩
  have T:i<H.fos.length:=by rw[G];exact P
  have X:=hid (show fu H x=Jn.tree (H.fos[i].jo)from by rw[fu,if_pos aL,←G,xK T]);have V:Hid (bq (H.fos[i].jo)=0):=(oX (mw d).2.1 (List.getElem_mem T)).2;have M:=hid (HS.out.fos _ (List.getElem_mem T)).2;obtain⟨b,o,rfl,Iv,he⟩:=J i T
  rw[f,←G]at Q;have Iw:(i:Int)<H.fos.length:=by omega
  clear d F A f Z E J U G aL P;obtain⟨c0,u,y,c1,c2,c3,hu,hy⟩:=he
  generalize H.fos[i]=s at*;obtain⟨na,⟨jb,jf,jc⟩⟩:=s
  simp only at c0 c1 c2 c3 hu hy;have HU:=hid hu;have HY:=hid hy;obtain⟨ua,uc,rfl,_⟩:=hu
  obtain⟨ya,yc,rfl,_⟩:=hy
  go_wp2_with fail;refine(CI ⟨jb,jf,jc⟩ _ _ ⟨_,_,rfl,HU.out,HY.out⟩ M.out.1 M.out.2).mono ?_
  rintro e w2 ⟨r,rfl,hl,_,I5⟩;rw[V.out]at hl⊢;have HL:=hid hl;clear hl;have N:=ag z I5;obtain⟨ra,rc,rfl,_⟩:=id HL.out
  go_wp2_with fail;go_ret2;exact⟨_,by rw[I.out];rfl,by rw[X.out];exact HL.out,N⟩
theorem sL (L:List Sh) (x:ByteArray):cy L x=true↔ ∃s∈L,s.na.data.toList=x.data.toList:=by
 rw[cy,List.any_eq_true];constructor
 · rintro ⟨s,d,h⟩
   exact⟨s,d,jR _ _ (of_decide_eq_true h)⟩
 · rintro ⟨s,d,h⟩
   refine⟨s,d,decide_eq_true ?_⟩
   rw[bh,h];exact m8 _
theorem yf {L:List Sh} (A:eQ L=true):L.Pairwise (fun a b=>a.na.data.toList≠b.na.data.toList):=by
 rw[List.pairwise_iff_getElem];intro i j E z y f;obtain⟨d,rfl⟩: ∃d,j=i+d+1:=⟨j-i-1,by omega⟩
 have h:=nF A d i z;rw[f,m8]at h;omega
theorem Hu.cnt_none {L:List Sh} {x:List UInt8} (h: ∀s∈L,s.na.data.toList≠x):L.filter (fun s=>s.na.data.toList==x)=[]:=by
 rw[List.filter_eq_nil_iff];intro s f d;exact h s f (by simpa using d)
theorem yg: ∀{L:List Sh} {x:List UInt8},L.Pairwise (fun a b=>a.na.data.toList≠b.na.data.toList)→(∃s∈L,s.na.data.toList=x)→(L.filter (fun s=>s.na.data.toList==x)).length=1
 |[],x,_,h=>by obtain⟨s,z,_⟩:=h;cases z
 |s::r,x,hp,h=>by
  rw[List.pairwise_cons]at hp;by_cases e:s.na.data.toList=x
  · rw[List.filter_cons_of_pos (by simpa using e),Hu.cnt_none (fun t d y=>hp.1 t d (by rw[e,y]))]
    rfl
  · rw[List.filter_cons_of_neg (by simpa using e)]
    refine yg hp.2 ?_
    obtain⟨t,d,f⟩:=h
    rcases List.mem_cons.1 d with rfl|d
    · exact absurd f e
    · exact⟨t,d,f⟩
theorem yh {d:Type} (p q:d→Bool): ∀(L:List d),(∀s∈L,q s=true→p s=false)→(L.filter (fun s=>p s||q s)).length=(L.filter p).length+(L.filter q).length
 |[],_=>rfl
 |s::r,h=>by
  have ih:=yh p q r (fun t z=>h t (List.mem_cons_of_mem _ z));cases y:q s with
  |true=>
   have f:=h s (List.mem_cons_self ..) y;rw[List.filter_cons_of_pos (by simp[y]),List.filter_cons_of_neg (by simp[f]),List.filter_cons_of_pos y,List.length_cons,List.length_cons,ih];omega
  |false=>
   cases f:p s with
   |true=>rw[List.filter_cons_of_pos (by simp[f]),List.filter_cons_of_pos f,List.filter_cons_of_neg (by simp[y]),List.length_cons,List.length_cons,ih];omega
   |false=>rw[List.filter_cons_of_neg (by simp[f,y]),List.filter_cons_of_neg (by simp[f]),List.filter_cons_of_neg (by simp[y]),ih]
theorem Fs (G:List Gr) (g:Gr) (x:ByteArray):bT (G++[g]) x=(bT G x||(x.data.toList==g.fo.data.toList)):=by
 rw[jh,jh,List.any_append];simp only[List.any_cons,List.any_nil,Bool.or_false];congr 1
 exact Bool.eq_iff_iff.2 ⟨fun h=>by rw[beq_iff_eq]at h⊢;exact h.symm,fun h=>by rw[beq_iff_eq]at h⊢;exact h.symm⟩
theorem yi {L:List Sh} (z:eQ L=true): ∀G:List Gr,(∀g∈G,cy L g.fo=true)→Maps.size (Jn.D (Hu.told L G))=(L.filter (fun s=>bT G s.na)).length:=by
 intro G;refine Jn.snoc_ind (P:=fun G=>(∀g∈G,cy L g.fo=true)→Maps.size (Jn.D (Hu.told L G))=(L.filter (fun s=>bT G s.na)).length) ?_ ?_ G
 · intro _
   have:L.filter (fun s=>bT [] s.na)=[]:=List.filter_eq_nil_iff.2 (fun s _ h=>by rw[jh]at h;cases h)
   rw[this];rfl
 · intro G g ih ha
   have ih:=ih (fun x A=>ha x (List.mem_append_left _ A));have e:Hu.told L (G++[g])=Hu.told L G++[⟨dy L g.fo,g.fo,[]⟩]:=by unfold Hu.told;simp
   rw[e,Jn.D_snoc,Maps.size_put (nw _),qN];have y:(fun s:Sh=>bT (G++[g]) s.na)=(fun s:Sh=>bT G s.na||(s.na.data.toList==g.fo.data.toList)):=funext fun s=>Fs G g s.na
   rw[y,xI];have d: ∀s:Sh,s.na.data.toList=g.fo.data.toList→bT G s.na=bT G g.fo:=fun s f=>by rw[jh,jh,f]
   cases hb:bT G g.fo with
   |true=>
    rw[if_pos rfl,ih]
    have:(fun s:Sh=>bT G s.na||(s.na.data.toList==g.fo.data.toList))=(fun s:Sh=>bT G s.na):=funext fun s=>by
     by_cases f:s.na.data.toList=g.fo.data.toList
     · rw[d s f,hb];rfl
     · rw[show(s.na.data.toList==g.fo.data.toList)=false from by simpa using f,Bool.or_false]
    rw[this]
   |false=>
    rw[if_neg (by simp),ih,yh (fun s:Sh=>bT G s.na) (fun s:Sh=>s.na.data.toList==g.fo.data.toList) L (fun s _ f=>by rw[d s (by simpa using f)];exact hb),yg (yf z) ((sL L g.fo).1 (ha g (by simp)))]
theorem Fu {L:List Sh} {G:List Gr} (f:eQ L=true) (d: ∀g∈G,cy L g.fo=true) (h: ∀s∈L,bT G s.na=true):dm L G=0:=by
 rw[dm,if_pos (List.all_eq_true.2 d),yi f G d,List.filter_eq_self.2 h,if_neg (Nat.lt_irrefl _)]
theorem Fv {L:List Sh} {G:List Gr} (z:eQ L=true) (y: ∀g∈G,cy L g.fo=true) {s:Sh} (A:s∈L) (h:bT G s.na=false):dm L G=5:=by
 have f:(L.filter (fun s=>bT G s.na)).length<L.length:=by
  rcases Nat.lt_or_ge (L.filter (fun s=>bT G s.na)).length L.length with d|d
  · exact d
  · have e:L.filter (fun s=>bT G s.na)=L:=(List.filter_sublist).eq_of_length_le d
    have:=List.filter_eq_self.1 e s A
    rw[h]at this;cases this
 rw[dm,if_pos (List.all_eq_true.2 y),yi z G y,if_pos f]
def fv (L:List Sh) (x:ByteArray):Int:=match L.findIdx? (fun s=>s.na.toList==x.toList)with
 |some i=>i
 |none=> -1
theorem yj {L:List Sh} {x:ByteArray} {k:Nat} (f:k<L.length) (h: ∀m (h:m<L.length),m<k→(L[m].na.toList==x.toList)=false) (d:(L[k].na.toList==x.toList)=true):fv L x=k:=by
 have:L.findIdx? (fun s=>s.na.toList==x.toList)=some k:=List.findIdx?_eq_some_iff_getElem.2 ⟨f,d,fun m y=>by rw[h m (by omega) y];decide⟩
 rw[fv,this]
theorem Fw {L:List Sh} {x:ByteArray} (h: ∀m (h:m<L.length),(L[m].na.toList==x.toList)=false):fv L x= -1:=by
 have:L.findIdx? (fun s=>s.na.toList==x.toList)=none:=List.findIdx?_eq_none_iff.2 fun s f=>by
  obtain⟨m,d,rfl⟩:=List.getElem_of_mem f
  exact h m d
 rw[fv,this]
theorem Fx (L:List Sh) (x:ByteArray):fv L x<0↔cy L x=false:=by
 rw[fv];cases h:L.findIdx? (fun s=>s.na.toList==x.toList)with
 |some i=>
  obtain⟨y,d,_⟩:=List.findIdx?_eq_some_iff_getElem.1 h
  have:cy L x=true:=(sL L x).2 ⟨L[i],List.getElem_mem y,by rw[Lib.toList_data,Lib.toList_data]at d;simpa using d⟩
  rw[this];simp
 |none=>
  have:cy L x=false:=by
   cases hb:cy L x with
   |false=>rfl
   |true=>
    obtain⟨s,z,f⟩:=(sL L x).1 hb
    have:=List.findIdx?_eq_none_iff.1 h s z
    rw[Lib.toList_data,Lib.toList_data,f]at this;simp at this
  rw[this];simp
theorem yk {H:Hb} (h:ae H=0) {x:ByteArray} (F:bT H.gs x=true):fv H.fos x=eZ H.fos H.gs x:=by
 obtain⟨z,y⟩:=sD h F
 refine yj z (fun m E f=>?_) (by rw[Lib.toList_data,Lib.toList_data,y];simp)
 obtain⟨_,A,_⟩:=mw h
 have d:=List.pairwise_iff_getElem.1 (yf (lH A).2.2) m _ E z f;rw[y]at d;rw[Lib.toList_data,Lib.toList_data];simpa using d
theorem yl (H:Hb) (v:Value) (x:ByteArray) (w:World) (Z:dC w v H):
    Calls prog 19 #[v,.string x] w fun e w'=>e= .returned (.int .i64 (fv H.fos x))∧Below w.heap.size w w':=by
 obtain⟨fos,gs,ss,nx,la,ro,now⟩:=H
 obtain⟨vf,vg,ai,rfl,lf,lg,aT⟩:=Z
 simp only at*;obtain⟨F,K,rfl,T,_,S⟩:=lf
 have V:Hid (∀i (h:i<fos.length),∃b o,F=some ⟨b,o,none⟩∧b<w.heap.size∧i7 w b (o+i*4) fos[i]):=S;obtain⟨M,N,rfl,_⟩:=lg
 obtain⟨P,sc,rfl,_⟩:=aT
 clear S;obtain⟨A,d⟩: ∃A,A=w.alloc (.cells #[.slice F fos.length K,.slice M gs.length N,.slice P ss.length sc,.int .i64 nx,.int .i64 la,.int .i64 ro,.int .i64 now] 28):=⟨_,rfl⟩
 have z:Below w.heap.size w A:=by rw[d];exact(Below.refl _ _).alloc (Nat.le_refl _) _
 have X:Hid (Cs A w.heap.size [.slice F fos.length K,.slice M gs.length N,.slice P ss.length sc,.int .i64 nx,.int .i64 la,.int .i64 ro,.int .i64 now]):=(by rw[d];exact Cs.new w [.slice F fos.length K,.slice M gs.length N,.slice P ss.length sc,.int .i64 nx,.int .i64 la,.int .i64 ro,.int .i64 now] _:Cs A w.heap.size _)
 go_enter func19,ntmps19
 go_upto_region 1 with fail;rw[←d];clear d;have x0:=X.out.cell 0 rfl;go_wp2_with fail;go_loopw [5] (fun i wr=> ∃k:Nat,k≤fos.length∧i= .int .i64 k∧Hid (∀m (h:m<fos.length),m<k→(fos[m].na.toList==x.toList)=false)∧wr=A) (fun i _=>fos.length-(intOf i).toNat)
 case atStart=>exact⟨0,Nat.zero_le _,rfl,(fun m _ h=>absurd h (Nat.not_lt_zero _): ∀m (h:m<fos.length),m<0→(fos[m].na.toList==x.toList)=false),rfl⟩
 case round=>
  obtain⟨k,hk,rfl,I,rfl⟩:=hrel
  by_cases E:k<fos.length
  · obtain⟨b,o,rfl,hb,U⟩:=V.out k E
    obtain⟨c0,_⟩:=U.below hb z
    have O:(k:Int)<fos.length:=by omega
    have f:=hid (show(fos[k].na.toList==x.toList)=true→fv fos x=k from fun h=>yj E I.out h)
    have y:=hid (show(fos[k].na.toList==x.toList)=false→ ∀m (h:m<fos.length),m<k+1→(fos[m].na.toList==x.toList)=false from fun h m Y h2=>by
     by_cases e:m=k
     · subst e;exact h
     · exact I.out m Y (by omega))
    clear U;cases Q:(fos[k].na.toList==x.toList)with
    |true=>
     have G:=hid (f.out Q);clear f y;go_wp2_with fail;go_ret;exact⟨by rw[G.out];rfl,z⟩
    |false=>
     have J:=hid (y.out Q);clear f y;go_wp2_with fail;go_roundw
     case rel=>exact⟨k+1,by omega,by simp,J,by simp⟩
     case measure=>simp[intOf];omega
  · have O: ¬(k:Int)<fos.length:=by omega
    have G:=hid (show fv fos x= -1 from Fw fun m h=>I.out m h (by omega));go_wp2_with fail;go_ret;exact⟨by rw[G.out];rfl,z⟩
def bv (s:Ws) (n:Int):Ws:=if eW n=true then⟨s.l++(Lib.itoa n++[59]),s.mn,s.fr⟩else⟨s.l,s.mn,true⟩
def eM (s:Ws) (x:ByteArray):Ws:=if 1000<x.size then fY s else⟨(bv s x.size).l++x.data.toList,s.mn,s.fr⟩
def Wr.putR (s:Ws):aN→Ws
 | .n n=>bv s n
 | .t x=>eM s x
 | .big=>fY s
def cA (s:Ws) (l:List aN):Ws:=l.foldl Wr.putR s
theorem mS (s:Ws) (a b:List aN):cA s (a++b)=cA (cA s a) b:=by simp[cA]
theorem lT (s:Ws) (x:aN) (a:List aN):cA s (x::a)=cA (Wr.putR s x) a:=rfl
theorem yo {x:ByteArray} (h: ¬1000<x.size):eW x.size=true:=by rw[i9];omega
def Wr.Alike (s r:Ws):Prop:=s.mn=r.mn∧s.fr=r.fr∧(s.fr=false→s.l=r.l)
theorem Fy {s r:Ws} (h:Wr.Alike s r): ∀x:aN,Wr.Alike (Wr.put s x) (Wr.putR r x)
 | .n n=>by
  obtain⟨y,d,f⟩:=h
  cases z:eW n with
  |true=>simp only[Wr.put,Wr.putR,Wr.num,bv,z,if_true,Wr.Alike];exact⟨y,by simp[d],fun A=>by rw[f (by simpa using A)]⟩
  |false=>simp only[Wr.put,Wr.putR,Wr.num,bv,z,Wr.Alike];exact⟨by simpa using y,by simp,by simp⟩
 | .t x=>by
  obtain⟨y,d,f⟩:=h
  by_cases E:1000<x.size
  · simp only[Wr.put,Wr.putR,iy,eM,if_pos E,fY,Wr.Alike];exact⟨trivial,d,f⟩
  · have z:=yo E
    simp only[Wr.put,Wr.putR,iy,eM,if_neg E,Wr.num,bv,z,if_true,Wr.Alike];exact⟨y,by simp[d],fun A=>by rw[f (by simpa using A)]⟩
 | .big=>by
  obtain⟨y,d,f⟩:=h
  simp only[Wr.put,Wr.putR,fY,Wr.Alike];exact⟨trivial,d,f⟩
theorem sM: ∀(l:List aN) {s r:Ws},Wr.Alike s r→Wr.Alike (Wr.run s l) (cA r l)
 |[],_,_,h=>h
 |x::l,_,_,h=>sM l (Fy h x)
theorem yr {s r:Ws} (h:Wr.Alike s r):cI s=cI r:=by
 obtain⟨f,d,y⟩:=h
 unfold cI;rw[f,d];split
 · rfl
 · split
   · rfl
   · rename_i z;rw[y (by rw[d];simpa using z)]
theorem ks {s:Ws} {n:Int} (h:dz n):(bv s n).l.length≤s.l.length+21:=by
 unfold bv;have:=oR h
 split
 · simp;omega
 · simp
theorem eD {s:Ws} {x:aN} (h:x.wf):(Wr.putR s x).l.length≤s.l.length+1021:=by
 cases x with
 |n n=>have:=ks (s:=s) (n:=n) h;simp only[Wr.putR];omega
 |t x=>
  simp only[Wr.putR,eM];split
  · simp[fY]
  · rename_i f
    have:=ks (s:=s) (n:=x.size) ⟨by omega,by omega⟩
    have d:x.data.toList.length=x.size:=(Lib.size_eq x).symm;simp only[List.length_append,d];omega
 |big=>simp[Wr.putR,fY]
theorem yt: ∀(l:List aN) (s:Ws),(∀x∈l,x.wf)→(cA s l).l.length≤s.l.length+1021*l.length
 |[],s,_=>by simp[cA]
 |x::l,s,h=>by
  have f:=yt l (Wr.putR s x) (fun y d=>h y (List.mem_cons_of_mem _ d));have z:=eD (s:=s) (h x (by simp));rw[lT,List.length_cons];omega
def RW (b:Nat) (s:Ws) (w:World):Prop:=w.heap[b]?=some (.cells #[.string ⟨s.l.toArray⟩,.bool s.mn,.bool s.fr] 150 (0,0))
theorem RW.cs {b:Nat} {s:Ws} {w:World} (h:RW b s w):Cs w b [.string ⟨s.l.toArray⟩,.bool s.mn,.bool s.fr]:=⟨_,h⟩
theorem RW.lt {b:Nat} {s:Ws} {w:World} (h:RW b s w):b<w.heap.size:=cM h
theorem RW.below {b:Nat} {s:Ws} {w w':World} (h:RW b s w) (hb:Below w.heap.size w w'):RW b s w':=(hb.block b h.lt).trans h
theorem RW.set {b:Nat} {s:Ws} {w:World} (h:RW b s w) (i:Nat) (u:Value) (cs:List Value) (d:[.string ⟨s.l.toArray⟩,.bool s.mn,.bool s.fr].set i u=cs):(w.setCell ⟨b,i,none⟩ u).heap[b]?=some (.cells cs.toArray 150 (0,0)):=by
 unfold World.setCell;unfold RW at h;simp only[Array.getElem?_modify,h,if_true,Option.map_some];rw[←d];simp
theorem RW.put {b:Nat} {s:Ws} {w:World} (h:RW b s w) (l:List UInt8):RW b ⟨l,s.mn,s.fr⟩ (w.setCell ⟨b,0,none⟩ (.string ⟨l.toArray⟩)):=h.set 0 _ _ rfl
theorem RW.great {b:Nat} {s:Ws} {w:World} (h:RW b s w):RW b (fY s) (w.setCell ⟨b,1,none⟩ (.bool true)):=h.set 1 _ _ rfl
theorem RW.far {b:Nat} {s:Ws} {w:World} (h:RW b s w):RW b ⟨s.l,s.mn,true⟩ (w.setCell ⟨b,2,none⟩ (.bool true)):=h.set 2 _ _ rfl
theorem fM (b:Nat) (s:Ws) (n:Int) (w:World) (h:RW b s w) (hn:dz n) (N:s.l.length≤1000000000):
    Calls prog 70 #[.pointer (some ⟨b,0,none⟩),.int .i64 n] w fun e w'=>e= .returned (.tuple #[])∧RW b (bv s n) w'∧w.grownBy w' (some b):=by
 have U:=h.cs.cell 0 rfl;have V:=h.cs.fr 0;have c2:=h.cs.cell 2 rfl;have f2:=h.cs.fr 2;have y:=hid h;have E:=h.lt;cases f:eW n with
 |false=>
  have F:=hid (show bv s n=⟨s.l,s.mn,true⟩from by rw[bv,f];rfl);by_cases X:n< -1099511627776
  · go_enter func70,ntmps70
    go_wp2_with fail;refine bodyPost_ret (results_none rfl _ _ _) rfl ⟨rfl,?_,ar _ b 2 _⟩
    rw[F.out];exact y.out.far
  · have z:1099511627776<n:=by
     rcases Int.lt_or_le 1099511627776 n with z|z
     · exact z
     · rw[i9.2 ⟨by omega,z⟩]at f;cases f
    go_enter func70,ntmps70
    go_wp2_with fail;refine bodyPost_ret (results_none rfl _ _ _) rfl ⟨rfl,?_,ar _ b 2 _⟩
    rw[F.out];exact y.out.far
 |true=>
  have F:=hid (show bv s n=⟨s.l++(Lib.itoa n++[59]),s.mn,s.fr⟩from by rw[bv,f];rfl);obtain⟨X,z⟩:=i9.1 f
  have n1: ¬n< -1099511627776:=by omega
  have n2: ¬1099511627776<n:=by omega
  have S:=hid (fun W=>xO n W (by omega));have K:=oR hn;have O:(⟨(Lib.itoa n).toArray⟩:ByteArray).size=(Lib.itoa n).length:=by rw[Lib.size_eq]
  have P:(⟨s.l.toArray⟩:ByteArray).size=s.l.length:=by rw[Lib.size_eq]
  have Y:Op.stringOp BinOp.add ⟨(Lib.itoa n).toArray⟩ ⟨#[59]⟩=pure (.string (⟨(Lib.itoa n).toArray⟩++⟨#[59]⟩)):=by
   unfold Op.stringOp;exact if_neg (by rw[O];show¬(((Lib.itoa n).length+1:Nat):Int)>9223372036854775807;omega)
  have T:=hid (show(⟨(Lib.itoa n).toArray⟩:ByteArray)++⟨#[59]⟩=(⟨(Lib.itoa n++[59]).toArray⟩:ByteArray)from dN (by rw[Joins.data_append]));rw[T.out]at Y;have Q:(⟨(Lib.itoa n++[59]).toArray⟩:ByteArray).size=(Lib.itoa n).length+1:=by rw[Lib.size_eq];simp
  have I:Op.stringOp BinOp.add ⟨s.l.toArray⟩ ⟨(Lib.itoa n++[59]).toArray⟩=pure (.string (⟨s.l.toArray⟩++⟨(Lib.itoa n++[59]).toArray⟩)):=by
   unfold Op.stringOp;exact if_neg (by rw[P,Q];show¬((s.l.length+((Lib.itoa n).length+1):Nat):Int)>9223372036854775807;omega)
  have G:=hid (show(⟨s.l.toArray⟩:ByteArray)++⟨(Lib.itoa n++[59]).toArray⟩=(⟨(s.l++(Lib.itoa n++[59])).toArray⟩:ByteArray)from dN (by rw[Joins.data_append]));rw[G.out]at I;generalize s.l++(Lib.itoa n++[59])=l2 at*;generalize (Lib.itoa n++[59])=l1 at*;generalize Z:Lib.itoa n=l0 at*;clear f h O P Q K Z;have H:=hid (show∀W:World,Below w.heap.size w W→W.cell? ⟨b,0,none⟩=some (.string ⟨s.l.toArray⟩)∧W.frozen? ⟨b,0,none⟩=false from fun W M=>⟨(y.out.cs.belowAt M E).cell 0 rfl,(y.out.cs.belowAt M E).fr 0⟩);have J: ∀W:World,Below W.heap.size W W.drew:=fun W=>(Below.refl _ _).drew
  have d0:w.drew.cell? ⟨b,0,none⟩=some (.string ⟨s.l.toArray⟩):=U;have d1:w.drew.frozen? ⟨b,0,none⟩=false:=V;go_enter func70,ntmps70
  go_wp2_with fail;go_region_with (go_at_call 69;refine(S.out _).mono ?_;rintro e w1 ⟨rfl,A⟩;have d:=(J w).trans A;obtain⟨k0,k1⟩:=H.out w1 d)
  all_goals (go_wp2_with fail;go_end0;exact⟨rfl,by rw[F.out];exact(y.out.below d).put _,aG (gi b d) (ar _ b 0 _)⟩)
theorem jm (b:Nat) (s:Ws) (x:ByteArray) (w:World) (h:RW b s w) (z:s.l.length≤1000000000) (U:(x.size:Int)≤9223372036854775807):
    Calls prog 72 #[.pointer (some ⟨b,0,none⟩),.string x] w fun e w'=>e= .returned (.tuple #[])∧RW b (eM s x) w'∧w.grownBy w' (some b):=by
 have O:=h.cs.cell 1 rfl;have S:=h.cs.fr 1;by_cases y:1000<x.size
 · have E:=hid (show eM s x=fY s from by rw[eM,if_pos y])
   have I:=hid h;have M:(1000:Int)<x.size:=by omega
   go_enter func72,ntmps72
   go_wp2_with fail;refine bodyPost_ret (results_none rfl _ _ _) rfl ⟨rfl,?_,ar _ b 1 _⟩
   rw[E.out];exact I.out.great
 · have A:=yo y
   have E:=hid (show eM s x=⟨(bv s x.size).l++x.data.toList,(bv s x.size).mn,(bv s x.size).fr⟩from by rw[eM,if_neg y,bv,A];rfl);have J:=hid (fM b s x.size w h ⟨by omega,by omega⟩ z);have T:=ks (s:=s) (n:=x.size) ⟨by omega,by omega⟩;have M: ¬(1000:Int)<x.size:=by omega
   generalize bv s x.size=f at*;have H:(⟨f.l.toArray⟩:ByteArray).size=f.l.length:=by rw[Lib.size_eq]
   have X:f.l.length+x.size≤1000001021:=by omega
   have K:=hid (show(⟨f.l.toArray⟩:ByteArray)++x=(⟨(f.l++x.data.toList).toArray⟩:ByteArray)from dN (by rw[Joins.data_append]))
   have N:Op.stringOp BinOp.add ⟨f.l.toArray⟩ x=pure (.string (⟨f.l.toArray⟩++x)):=by
    unfold Op.stringOp;exact if_neg (by rw[H];show¬((f.l.length+x.size:Nat):Int)>9223372036854775807;omega)
   rw[K.out]at N;clear h A H;go_enter func72,ntmps72
   go_wp2_with fail;refine J.out.mono ?_
   rintro e V ⟨rfl,d,G⟩;have P:=d.cs.cell 0 rfl;have Q:=d.cs.fr 0;have F:=hid d;clear d;go_wp2_with fail;go_end0
   exact⟨rfl,by rw[E.out];exact F.out.put _,aG G (ar _ b 0 _)⟩
end Go.Proofs.YtcmlnelpcjfocaaGreatDoor
