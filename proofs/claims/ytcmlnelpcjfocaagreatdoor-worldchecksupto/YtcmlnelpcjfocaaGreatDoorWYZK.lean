/- The program's reader: a list of Entry records. -/
import Derived.Test.YtcmlnelpcjfocaaGreatDoorWYZH
set_option linter.unusedSimpArgs false
set_option linter.unusedVariables false
namespace Go.Proofs.YtcmlnelpcjfocaaGreatDoor
open Go.RowKit Go.Proofs.Tryz
set_option maxHeartbeats 4000000
set_option maxRecDepth 8000
theorem Tryz.infoW4:(prog.info? 107).map (fun i=>(i.zero,i.size,i.bytes))=some (some (.agg #[.string ⟨#[]⟩,.bool false,.string ⟨#[]⟩,.int .i64 0]),4,48):=by kernel_rfl
def ff (x:En) (r:List Value) (_:World):Prop:=r=[.string x.path,.bool x.folder,.string x.text,.int .i64 x.ver]
theorem F8: ∀d w,(callFunc 183 d).run prog w= .ok (.enter 183 d) w:=enters_of func183 (by kernel_rfl) rfl
structure sX (w:World) (b g:Nat) (x:Value) (xs:List (En)) (r:List UInt8) (W:World):Prop where
 row:aV w.heap.size 107 4 ff xs x W
 rd:Rd b r W
 box:cP W b g
 v:aX W
 fr:w.grownBy W (some b)
 rl:r.length≤cE
theorem F9 (W:World) (x:En): ∀j u,([.string x.path,.bool x.folder,.string x.text,.int .i64 x.ver]:List Value)[j]?=some u→(W.alloc (.cells #[.string x.path,.bool x.folder,.string x.text,.int .i64 x.ver] 107)).cell? ((⟨W.heap.size,0,none⟩:Addr).add j)=some u:=by
 intro j u f;have h:=Cs.new W ([.string x.path,.bool x.folder,.string x.text,.int .i64 x.ver]) 107;have d:=h.cell j f;rw[Addr.add_lit,Nat.zero_add];exact d
theorem Ga (b g:Nat) (l:List UInt8) (w:World) (h:Rd b l w) (hg:cP w b g) (hs:l.length≤cE) (T:5<b) (hv:aX w):
    Calls prog 182 #[.pointer (some ⟨b,0,none⟩),.int .i64 60,.func (.func 183) #[] #[.pointer (some ⟨g,0,none⟩)]] w fun e w'=>bm b (dr ah 60 (dW ah 1000) l) (aV w.heap.size 107 4 ff) e w'∧w.grownBy w' (some b):=by
 have eg:=F8;cases E:cO ah 60 l with
 |none=>
  have HK:=hid (nQ h hs T hv E);have H:=hid (Wr.lst_none (p:=dW ah 1000) E);clear h hv E hg;go_enter func182,ntmps182
  go_wp2_with fail;refine HK.out.mono ?_
  rintro e w1 ⟨rfl,f⟩;exact di rfl ⟨bm.no H.out rfl,f⟩
 |some z=>
 obtain⟨n,r1⟩:=z
 obtain⟨_,n0,n1⟩:=mz E
 obtain⟨N,rfl⟩: ∃k:Nat,n=k:=⟨n.toNat,by omega⟩
 have HK:=hid (mB h hs T hv E);have H:=hid (sw (p:=dW ah 1000) E);rw[show((N:Int).toNat)=N from rfl]at H;have IE:=mA E;obtain⟨aZ,Iz,IA,IB,IC⟩:=info_parts Tryz.infoW4
 have V:=h.lt;have Iy:=cM hg.1;have HS:=hid (sH _ _:eX (dW ah 1000));have HG:=hid hg;have S:=hid hv;clear h hv E hg;go_enter func182,ntmps182
 go_wp2_with fail;refine HK.out.mono ?_
 rintro e w1 ⟨rfl,I0,f⟩;have HR:=hid (show sX w b g (.slice none 0 0) [] r1 w1 from⟨mM _ _ _ _ _,I0,HG.out.nb f,S.out.nb T (by omega) f,f,by omega⟩);clear HK I0 f HG S;go_wp2_with fail;go_loopw [7,11] (fun x i wr=> ∃(k:Nat) (xs:List (En)) (r:List UInt8),k≤N∧i= .int .i64 k∧Hid (sX w b g x xs r wr)∧Hid (dr ah 60 (dW ah 1000) l=ed (dW ah 1000) (N-k) xs r)∧xs.length=k) (fun _ i _=>N-(intOf i).toNat)
 case atStart=>exact⟨0,[],r1,Nat.zero_le _,rfl,HR,H,rfl⟩
 case round=>
  obtain⟨k,xs,r,hk,rfl,d,O,I7⟩:=hrel
  by_cases IG:k<N
  · have Q:=hid (Ff b g r wr d.out.rd d.out.box d.out.rl T d.out.v)
    obtain⟨m,hm⟩: ∃m,N-k=m+1:=⟨N-k-1,by omega⟩
    cases M:(dW ah 1000) r with
    |none=>
     have HF:=hid (mJ (n:=m) (xs:=xs) M);rw[hm]at O;rw[M]at Q;clear M H HR hm;go_wp2_with fail;refine Q.out.mono ?_
     rintro e P ⟨he,y⟩;cases he
     exact(show bodyPost prog Tryz.f182 (fun e w'=>bm b (dr ah 60 (dW ah 1000) l) (aV w.heap.size 107 4 ff) e w'∧w.grownBy w' (some b)) (.panic _) _ P from di rfl ⟨bm.no (O.out.trans HF.out) rfl,aG d.out.fr y⟩)
    |some z=>
     obtain⟨x,r'⟩:=z
     have HF:=hid (mK (n:=m) (xs:=xs) M);rw[hm]at O;have IF:=HS.out _ _ _ M;rw[M]at Q;have IH:=d.out.rl;clear M H HR;obtain⟨Z,J,U,K⟩:=d.out.row
     have Ix:Z.length=k:=by rw[←I7,←J,List.length_map]
     go_wp2_with fail;refine Q.out.mono ?_
     rintro e P ⟨⟨v2,rfl,rfl,I5⟩,y⟩;have F:=aG d.out.fr y;have I:=lN U y V;have I6:=F.size;have I8:=hid (d.out.box.nb y);have Iw:=hid (d.out.v.nb T (by have:=d.out.rd.lt;omega) y);have Iv:=hid I5;have ID:=d.out.box;have II:=d.out.fr.size;clear I5 Q;go_wp2_with (at_builtin;refine wpList_append_own _ rfl _ _ 44 rfl w.heap.size 107 aZ (.agg #[.string ⟨#[]⟩,.bool false,.string ⟨#[]⟩,.int .i64 0]) 4 48 underlying44 Iz IA IB IC rfl (by decide) _ _ _ rfl (I.alloc _) ⟨P.heap.size,0,none⟩ 1 1 ([.string x.path,.bool x.folder,.string x.text,.int .i64 x.ver]) rfl rfl (F9 P x) (by simp[Value.oneCell']) (by unfold maxLen;omega) (by omega) (by simp;omega) ?_)
     intro v5 w5 Y G X;have A:Below w.heap.size P w5:=((Below.refl _ P).alloc I6 _).grown G (by simp;omega) (fun q hq=>(I.lt q hq).1);have I9:=hid (show sX w b g v5 (xs++[x]) r' w5 from⟨by rw[←J];exact aV.snoc (r:=[.string x.path,.bool x.folder,.string x.text,.int .i64 x.ver]) (by rw[Ix];exact Y) (fun z hz=>⟨(K z hz).1,(K z hz).2⟩) ⟨rfl,rfl,by simp[Value.oneCell']⟩,Iv.out.belowB A V,I8.out.belowB A Iy,Iw.out.belowB (by omega) A,mN F A,by omega⟩);clear Y G X I J U K A;go_wp2_with fail;go_roundw
     case rel=>exact⟨k+1,xs++[x],r',by omega,by simp,I9,hid (by rw[O.out,HF.out,show N-(k+1)=m from by omega]),by simp[I7]⟩
     case measure=>simp[intOf];omega
  · obtain rfl:k=N:=by omega
    rw[Nat.sub_self,mI]at O;clear H HR;go_wp2_with fail;go_ret;exact⟨bm.yes _ O.out rfl d.out.row d.out.rd,d.out.fr⟩
abbrev lU:List Value:=[.int .i64 0,.string ⟨#[]⟩,.slice none 0 0]
def fw (B:Nat) (x:Co) (r:List Value) (W:World):Prop:= ∃vc,r=[.int .i64 x.nu,.string x.ke,vc]∧aV B 72 5 fI x.ch vc W
theorem fw.nb {B g:Nat} {x:Co} {r:List Value} {W d:World} (h:fw B x r W) (A:W.grownBy d (some g)) (z:g<B):fw B x r d:=by
 obtain⟨E,f,y⟩:=h
 exact⟨E,f,y.nb A z (fun _ _ h=>h)⟩
theorem px {B:Nat} {T:TypeId} {n:Nat} {d:Type} {V:d→List Value→World→Prop} {xs:List d} {v:Value} {W y:World} (h:aV B T n V xs v W) (f:Below W.heap.size W y) (H: ∀x r,V x r W→V x r y):aV B T n V xs v y:=by
 obtain⟨Z,F,G,A⟩:=h
 refine⟨Z,F,G.kept (row:=none) ⟨f.os,f.tape,f.output,f.size,fun k I _=>f.block k I⟩ (by cases J:v.ownBlock with
  |none=>exact Or.inl rfl
  |some q=>exact Or.inr (by simp)),fun z E=>⟨H _ _ (A z E).1,(A z E).2⟩⟩
theorem fw.below {B:Nat} {x:Co} {r:List Value} {W d:World} (h:fw B x r W) (z:Below W.heap.size W d):fw B x r d:=by
 obtain⟨A,f,y⟩:=h
 exact⟨A,f,px y z (fun _ _ h=>h)⟩
theorem fw.low {B B':Nat} {x:Co} {r:List Value} {W:World} (h:fw B x r W) (y:B'≤B):fw B' x r W:=by
 obtain⟨z,d,f⟩:=h
 exact⟨z,d,f.low y⟩
theorem yF {w w':World} {B B':Nat} {T z:TypeId} {n O:Nat} {v f:Value} {k N:Nat} {xs y:List Value} (h:w.ownsRow B T n v k xs) (G:w.ownsRow B' z O f N y) (J:T≠z) (K:w.grownBy w' f.ownBlock):w'.ownsRow B T n v k xs:=by
 refine h.kept (row:=f.ownBlock) K ?_
 obtain⟨_,H⟩:=h
 obtain⟨_,I⟩:=G
 rcases H with⟨rfl,_⟩|⟨g,F,cur,rfl,_,M,_⟩
 · exact Or.inl rfl
 · refine Or.inr (fun e=>?_)
   rcases I with⟨rfl,_⟩|⟨P,A,E,rfl,_,d,_⟩
   · simp[Value.ownBlock]at e
   · simp only[Value.ownBlock,Option.some.injEq]at e
     subst e;rw[M]at d;simp only[Option.some.injEq,Obj.cells.injEq]at d;exact J d.2.1
theorem fw.apart {B B':Nat} {x:Co} {r:List Value} {W d:World} {T:TypeId} {n k:Nat} {v:Value} {xs:List Value} (h:fw B x r W) (f:W.ownsRow B' T n v k xs) (F:72≠T) (G:W.grownBy d v.ownBlock):fw B x r d:=by
 obtain⟨H,y,Z,z,A,E⟩:=h
 exact⟨H,y,Z,z,yF A f F G,E⟩
def dM (B:Nat) (cs:List Co) (v:Value) (W:World):Prop:=aV B 110 3 (fw B) cs v W
theorem dM.nb {B g:Nat} {cs:List Co} {v:Value} {W d:World} (h:dM B cs v W) (y:W.grownBy d (some g)) (f:g<B):dM B cs v d:=aV.nb h y f (fun _ _ h=>h.nb y f)
theorem dM.below {B:Nat} {cs:List Co} {v:Value} {W d:World} (h:dM B cs v W) (f:Below W.heap.size W d):dM B cs v d:=px h f (fun _ _ h=>h.below f)
theorem dM.low {B B':Nat} {cs:List Co} {v:Value} {W:World} (h:dM B cs v W) (f:B'≤B):dM B' cs v W:=by
 obtain⟨Z,A,E,d⟩:=aV.low h f
 exact⟨Z,A,E,fun z y=>⟨(d z y).1.low f,(d z y).2⟩⟩
theorem dM.setC {B g:Nat} {cs:List Co} {v:Value} {W:World} (h:dM B cs v W) (d:g<B) (i:Nat) (u:Value):dM B cs v (W.setCell ⟨g,i,none⟩ u):=h.nb (ar W g i u) d
theorem dM.shape {B:Nat} {cs:List Co} {v:Value} {W:World} (h:dM B cs v W): ∃a l c,v= .slice a l c:=aV.shape h
theorem aV.setE {B:Nat} {T:TypeId} {n:Nat} {xs:List En} {v:Value} {W:World} (h:aV B T n ff xs v W) {g:Nat} (d:g<B) (i:Nat) (u:Value):aV B T n ff xs v (W.setCell ⟨g,i,none⟩ u):=h.nb (ar W g i u) d (fun _ _ h=>h)
theorem Gb (b g:Nat) (l:List UInt8) (w:World) (h:Rd b l w) (hg:cP w b g) (hs:l.length≤cE) (h6:5<b) (hv:aX w):
    Calls prog 185 #[.pointer (some ⟨g,0,none⟩)] w fun e w'=>bm b (dL ah 1000 l) (fun x v W=> ∃Y,v= .agg #[.int .i64 x.nu,.string x.ke,Y]∧aV w.heap.size 72 5 fI x.ch Y W) e w'∧w.grownBy w' (some b):=by
 have H:=hid (show dL ah 1000 l=dL ah 1000 l from rfl);conv at H=>arg 1;rhs;unfold dL
 generalize hP:dL ah 1000 l=X at*;clear hP;have Iy:=h.lt;have IC:=cM hg.1;have O:=hid (sK lU lU 110 110 h hg h6 hv);obtain⟨w0,N⟩: ∃w0,w0=(w.alloc (.cells lU.toArray 110)).alloc (.cells lU.toArray 110):=⟨_,rfl⟩
 rw[←N]at O;have Q:=hid (show(w.alloc (.cells lU.toArray 110)).alloc (.cells lU.toArray 110)=w0 from N.symm);have Iz: ¬g=w.heap.size:=by omega
 have IA: ¬g=w.heap.size+1:=by omega
 have IB: ¬w.heap.size+1=g:=by omega
 clear N hg;have PN:=hid (show∀(a:Act) (W:World),a.defers=[]→w.grownBy W (some b)→X=none→bodyPost prog Tryz.f185 (fun e w'=>bm b X (fun x v W=> ∃Y,v= .agg #[.int .i64 x.nu,.string x.ke,Y]∧aV w.heap.size 72 5 fI x.ch Y W) e w'∧w.grownBy w' (some b)) (.panic [{v:= .iface 33 (.int .i64 1),recovered:=false}]) a W from fun a W hd hw hr=>di hd ⟨bm.no hr rfl,hw⟩);clear hv h;go_enter func185,ntmps185
 go_upto_region 2 with fail;rw[Q.out];clear Q;have S:=O.out.box.cell;go_wp2_with fail;refine(kp O.out.r4.rd (by omega) h6 O.out.r4.v).mono ?_
 rintro e w1 ⟨A,T⟩;cases d:aS ah l with
 |none=>
  rw[d]at A;cases A
  exact PN.out _ _ rfl (aG O.out.r4.fr T) (H.out.trans (cJ d))
 |some z=>
 obtain⟨nn,r1⟩:=z
 rw[d]at A;obtain⟨_,rfl,rfl,I7⟩:=A
 have K:=hid (H.out.trans (Wr.bind_some d));have s1:=jL _ _ _ _ d;have Z:=hid (O.out.call T I7);clear S;clear d H;have c0:=Z.out.r4.cC.cell 0 rfl;have f0:=Z.out.r4.cC.fr 0;have gw:=Z.out.box.cell;obtain⟨u1,I⟩: ∃W,W=w1.setCell ⟨w.heap.size+1,0,none⟩ (.int .i64 nn):=⟨_,rfl⟩
 have E:=hid (Z.out.set 0 (.int .i64 nn));rw[←I]at E;go_upto_region 3 with fail;rw[←I];have Iw:=hid I;clear I c0 f0 gw;have S:=E.out.box.cell;go_wp2_with fail;refine(kZ E.out.r4.rd (by omega) h6 E.out.r4.v).mono ?_
 rintro e w2 ⟨A,U⟩;cases d:bg ah 1000 r1 with
 |none=>
  rw[d]at A;cases A
  exact PN.out _ _ rfl (aG E.out.r4.fr U) (K.out.trans (cJ d))
 |some z=>
 obtain⟨k,r2⟩:=z
 rw[d]at A;obtain⟨_,rfl,rfl,I8⟩:=A
 have M:=hid (K.out.trans (Wr.bind_some d));have s2:=ko _ _ _ _ _ d;have H2:=hid (E.out.call U I8);clear S;clear d K;have c1:=H2.out.r4.cC.cell 1 rfl;have f1:=H2.out.r4.cC.fr 1;have gw:=H2.out.box.cell;obtain⟨u2,J⟩: ∃W,W=w2.setCell ⟨w.heap.size+1,1,none⟩ (.string k):=⟨_,rfl⟩
 have f:=hid (H2.out.set 1 (.string k));rw[←J]at f;go_upto_region 4 with fail;rw[←J];have Ix:=hid J;clear J c1 f1 gw;have S:=f.out.box.cell;go_wp2_with fail;refine(xH b r2 _ f.out.r4.rd (by omega) h6 f.out.r4.v).mono ?_
 rintro e w3 ⟨A,V⟩;cases d:dr ah 20 (dt ah 1000) r2 with
 |none=>
  rw[d]at A;cases A
  exact PN.out _ _ rfl (aG f.out.r4.fr V) (M.out.trans (cJ d))
 |some z=>
 obtain⟨cs,r3⟩:=z
 rw[d]at A;obtain⟨ID,rfl,G,I9⟩:=A
 have I0:=hid (M.out.trans (Wr.bind_some d));have s3:=lM _ _ (ph _ _) _ _ _ d;have F:=hid (f.out.call V I9);obtain⟨I5,Iv,I6,rfl⟩:=G.shape
 have y:=hid (show w.heap.size<u2.heap.size∧w.heap.size+1<u2.heap.size from⟨f.out.r4.cR.lt,f.out.r4.cC.lt⟩);have P:=hid G;clear G;clear S;clear d M;have c2:=F.out.r4.cC.cell 2 rfl;have f2:=F.out.r4.cC.fr 2;have y0:=F.out.r4.cC.cell 0 rfl;have y1:=F.out.r4.cC.cell 1 rfl;have v0:=F.out.r4.cR.cell 0 rfl;have x0:=F.out.r4.cR.fr 0;have v1:=F.out.r4.cR.cell 1 rfl;have x1:=F.out.r4.cR.fr 1;have v2:=F.out.r4.cR.cell 2 rfl;have aY:=F.out.r4.cR.fr 2;have n3: ¬w.heap.size=w.heap.size+1:=by omega
 have n4: ¬w.heap.size+1=w.heap.size:=by omega
 go_wp2_with fail;have nR:b≠w.heap.size:=by omega
 have nC:b≠w.heap.size+1:=by omega
 have l1:w.heap.size≤w.heap.size+1:=by omega
 have l0:w.heap.size≤w.heap.size:=by omega
 refine bodyPost_ret (v:= .agg #[.int .i64 nn,.string k,.slice I5 Iv I6]) (by simp[results,results185,go_sem,n3,n4,v0,v1,v2]) rfl ⟨bm.yes _ I0.out rfl ?_ ?_,?_⟩
 · refine⟨_,rfl,?_⟩
   exact(P.out.setC y.out.2 _ _|>.setC y.out.1 _ _|>.setC y.out.1 _ _|>.setC y.out.1 _ _).low (by have:=f.out.r4.fr.size;omega)
 · exact(F.out.r4.rd.set' nC _|>.set' nR _|>.set' nR _|>.set' nR _)
 · exact(bU (bU (bU (bU F.out.r4.fr l1 _) l0 _) l0 _) l0 _)
theorem Tryz.infoW3:(prog.info? 110).map (fun i=>(i.zero,i.size,i.bytes))=some (some (.agg #[.int .i64 0,.string ⟨#[]⟩,.slice none 0 0]),3,48):=by kernel_rfl
theorem Gc: ∀d w,(callFunc 185 d).run prog w= .ok (.enter 185 d) w:=enters_of func185 (by kernel_rfl) rfl
structure sY (w:World) (b g:Nat) (x:Value) (xs:List (Co)) (r:List UInt8) (W:World):Prop where
 row:aV w.heap.size 110 3 (fw w.heap.size) xs x W
 rd:Rd b r W
 box:cP W b g
 v:aX W
 fr:w.grownBy W (some b)
 rl:r.length≤cE
theorem yG (W:World) (n:Int) (k:ByteArray) (v:Value): ∀j u,([.int .i64 n,.string k,v]:List Value)[j]?=some u→(W.alloc (.cells #[.int .i64 n,.string k,v] 110)).cell? ((⟨W.heap.size,0,none⟩:Addr).add j)=some u:=by
 intro j u f;have h:=Cs.new W ([.int .i64 n,.string k,v]) 110;have d:=h.cell j f;rw[Addr.add_lit,Nat.zero_add];exact d
theorem Gd (b g:Nat) (l:List UInt8) (w:World) (h:Rd b l w) (hg:cP w b g) (hs:l.length≤cE) (V:5<b) (hv:aX w):
    Calls prog 184 #[.pointer (some ⟨b,0,none⟩),.int .i64 10,.func (.func 185) #[] #[.pointer (some ⟨g,0,none⟩)]] w fun e w'=>bm b (dr ah 10 (dL ah 1000) l) (aV w.heap.size 110 3 (fw w.heap.size)) e w'∧w.grownBy w' (some b):=by
 have eg:=Gc;cases H:cO ah 10 l with
 |none=>
  have HK:=hid (nQ h hs V hv H);have J:=hid (Wr.lst_none (p:=dL ah 1000) H);clear h hv H hg;go_enter func184,ntmps184
  go_wp2_with fail;refine HK.out.mono ?_
  rintro e w1 ⟨rfl,A⟩;exact di rfl ⟨bm.no J.out rfl,A⟩
 |some z=>
 obtain⟨n,r1⟩:=z
 obtain⟨_,n0,n1⟩:=mz H
 obtain⟨N,rfl⟩: ∃k:Nat,n=k:=⟨n.toNat,by omega⟩
 have HK:=hid (mB h hs V hv H);have J:=hid (sw (p:=dL ah 1000) H);rw[show((N:Int).toNat)=N from rfl]at J;have IG:=mA H;obtain⟨aZ,IB,IC,ID,IE⟩:=info_parts Tryz.infoW3
 have O:=h.lt;have IA:=cM hg.1;have HS:=hid (sI _ _:eX (dL ah 1000));have HG:=hid hg;have U:=hid hv;clear h hv H hg;go_enter func184,ntmps184
 go_wp2_with fail;refine HK.out.mono ?_
 rintro e w1 ⟨rfl,I5,A⟩;have HR:=hid (show sY w b g (.slice none 0 0) [] r1 w1 from⟨mM _ _ _ _ _,I5,HG.out.nb A,U.out.nb V (by omega) A,A,by omega⟩);clear HK I5 A HG U;go_wp2_with fail;go_loopw [7,11] (fun x i wr=> ∃(k:Nat) (xs:List (Co)) (r:List UInt8),k≤N∧i= .int .i64 k∧Hid (sY w b g x xs r wr)∧Hid (dr ah 10 (dL ah 1000) l=ed (dL ah 1000) (N-k) xs r)∧xs.length=k) (fun _ i _=>N-(intOf i).toNat)
 case atStart=>exact⟨0,[],r1,Nat.zero_le _,rfl,HR,J,rfl⟩
 case round=>
  obtain⟨k,xs,r,hk,rfl,d,S,I8⟩:=hrel
  by_cases II:k<N
  · have T:=hid (Gb b g r wr d.out.rd d.out.box d.out.rl V d.out.v)
    obtain⟨m,hm⟩: ∃m,N-k=m+1:=⟨N-k-1,by omega⟩
    cases P:(dL ah 1000) r with
    |none=>
     have HF:=hid (mJ (n:=m) (xs:=xs) P);rw[hm]at S;rw[P]at T;clear P J HR hm;go_wp2_with fail;refine T.out.mono ?_
     rintro e G ⟨he,f⟩;cases he
     exact(show bodyPost prog Tryz.f184 (fun e w'=>bm b (dr ah 10 (dL ah 1000) l) (aV w.heap.size 110 3 (fw w.heap.size)) e w'∧w.grownBy w' (some b)) (.panic _) _ G from di rfl ⟨bm.no (S.out.trans HF.out) rfl,aG d.out.fr f⟩)
    |some z=>
     obtain⟨x,r'⟩:=z
     have HF:=hid (mK (n:=m) (xs:=xs) P);rw[hm]at S;have IH:=HS.out _ _ _ P;rw[P]at T;have IJ:=d.out.rl;clear P J HR;obtain⟨Z,K,X,M⟩:=d.out.row
     have Iz:Z.length=k:=by rw[←I8,←K,List.length_map]
     go_wp2_with fail;refine T.out.mono ?_
     rintro e G ⟨⟨v2,rfl,⟨vc,rfl,Q⟩,I6⟩,f⟩;obtain⟨av,lv,cv,rfl⟩:=Q.shape
     have Iy:=hid (show fw w.heap.size x [.int .i64 x.nu,.string x.ke,.slice av lv cv] G from⟨_,rfl,Q.low d.out.fr.size⟩);clear Q;have I:=aG d.out.fr f;have F:=lN X f O;have I7:=I.size;have I9:=hid (d.out.box.nb f);have Ix:=hid (d.out.v.nb V (by have:=d.out.rd.lt;omega) f);have Iw:=hid I6;have IF:=d.out.box;have IK:=d.out.fr.size;clear I6 T;go_wp2_with (at_builtin;refine wpList_append_own _ rfl _ _ 53 rfl w.heap.size 110 aZ (.agg #[.int .i64 0,.string ⟨#[]⟩,.slice none 0 0]) 3 48 underlying53 IB IC ID IE rfl (by decide) _ _ _ rfl (F.alloc _) ⟨G.heap.size,0,none⟩ 1 1 ([.int .i64 x.nu,.string x.ke,.slice av lv cv]) rfl rfl (yG G x.nu x.ke _) (by simp[Value.oneCell']) (by unfold maxLen;omega) (by omega) (by simp;omega) ?_)
     intro v5 w5 I0 y Y;have E:Below w.heap.size G w5:=((Below.refl _ G).alloc I7 _).grown y (by simp;omega) (fun q hq=>(F.lt q hq).1);have Iv:=hid (show sY w b g v5 (xs++[x]) r' w5 from⟨by rw[←K];exact aV.snoc (r:=[.int .i64 x.nu,.string x.ke,.slice av lv cv]) (by rw[Iz];exact I0) (fun z hz=>⟨(((M z hz).1.nb f O).below (bO G _)).apart (F.alloc _) (by decide) y,(M z hz).2⟩) ⟨(Iy.out.below (bO G _)).apart (F.alloc _) (by decide) y,rfl,by simp[Value.oneCell']⟩,Iw.out.belowB E O,I9.out.belowB E IA,Ix.out.belowB (by omega) E,mN I E,by omega⟩);clear I0 y Y F K X M E;go_wp2_with fail;go_roundw
     case rel=>exact⟨k+1,xs++[x],r',by omega,by simp,Iv,hid (by rw[S.out,HF.out,show N-(k+1)=m from by omega]),by simp[I8]⟩
     case measure=>simp[intOf];omega
  · obtain rfl:k=N:=by omega
    rw[Nat.sub_self,mI]at S;clear J HR;go_wp2_with fail;go_ret;exact⟨bm.yes _ S.out rfl d.out.row d.out.rd,d.out.fr⟩
abbrev mU:List Value:=[.bool false,.slice none 0 0,.slice none 0 0,.int .i64 0,.bool false]
abbrev cY:List Value:=[.int .i64 0,.int .i64 0,.bool false,.slice none 0 0,.slice none 0 0,.int .i64 0,.bool false]
def yH (B:Nat) (p:Pg) (v:Value) (W:World):Prop:= ∃vt vc,v= .agg #[.bool p.reset,vt,vc,.int .i64 p.cur,.bool p.more]∧aV B 107 4 ff p.tree vt W∧dM B p.cos vc W
def fO (B:Nat) (a:An) (v:Value) (W:World):Prop:= ∃vt vc,v= .agg #[.int .i64 a.err,.int .i64 a.num,.bool a.pg.reset,vt,vc,.int .i64 a.pg.cur,.bool a.pg.more]∧aV B 107 4 ff a.pg.tree vt W∧dM B a.pg.cos vc W
theorem fO.set {B:Nat} {q:An} {v:Value} {W:World} (h:fO B q v W) {g:Nat} (d:g<B) (i:Nat) (u:Value):fO B q v (W.setCell ⟨g,i,none⟩ u):=by
 obtain⟨E,A,f,y,z⟩:=h
 exact⟨E,A,f,y.setE d i u,z.setC d i u⟩
theorem fO.low {B B':Nat} {q:An} {v:Value} {W:World} (h:fO B q v W) (d:B'≤B):fO B' q v W:=by
 obtain⟨E,A,f,y,z⟩:=h
 exact⟨E,A,f,y.low d,z.low d⟩
theorem fO.below {B:Nat} {q:An} {v:Value} {W d:World} (h:fO B q v W) (f:Below W.heap.size W d):fO B q v d:=by
 obtain⟨F,E,y,z,A⟩:=h
 exact⟨F,E,y,px z f (fun _ _ h=>h),A.below f⟩
theorem Ge (b:Nat) (l:List UInt8) (w:World) (h:Rd b l w) (hs:l.length≤cE) (h6:5<b) (hv:aX w):
    Calls prog 142 #[.pointer (some ⟨b,0,none⟩)] w fun e w'=>bm b (jk ah 1000 l) (yH w.heap.size) e w'∧w.grownBy w' (some b):=by
 have IY: ∀(fn:Fn) (first cap:Array Value) (w:World),(Instr.makeFunc fn first cap).run prog w= .ok (.func fn first cap) w:=fun _ _ _ _=>rfl
 have I5:=hid (show jk ah 1000 l=jk ah 1000 l from rfl);conv at I5=>arg 1;rhs;unfold jk
 generalize hP:jk ah 1000 l=IG at*;clear hP;have IU:=h.lt;obtain⟨g,IC⟩: ∃g,g=w.heap.size:=⟨_,rfl⟩
 obtain⟨wz,Z⟩: ∃wz,wz=w.alloc (.cells #[.pointer (some ⟨b,0,none⟩)] 214):=⟨_,rfl⟩
 have I6:Below w.heap.size w wz:=by rw[Z];exact bO _ _
 have IN:wz.heap.size=w.heap.size+1:=by rw[Z];simp
 have ID:cP wz b g:=⟨by rw[IC,Z];exact heap_alloc_new w _,by omega⟩
 have H0:=hid (sK mU mU 55 55 (h.below I6) ID h6 (hv.belowB (by omega) I6));obtain⟨w0,IA⟩: ∃w0,w0=(wz.alloc (.cells mU.toArray 55)).alloc (.cells mU.toArray 55):=⟨_,rfl⟩
 rw[←IA,IN]at H0;have HF:=hid (gi b I6);have IB:=hid (show((w.alloc (.cells #[.pointer (some ⟨b,0,none⟩)] 214)).alloc (.cells mU.toArray 55)).alloc (.cells mU.toArray 55)=w0 from by rw[IA,Z]);have IV: ¬g=w.heap.size+1:=by omega
 have IW: ¬g=w.heap.size+1+1:=by omega
 have IX: ¬w.heap.size+1+1=g:=by omega
 subst IC;clear Z IA I6 ID;have PN:=hid (show∀(a:Act) (W:World),a.defers=[]→wz.grownBy W (some b)→IG=none→bodyPost prog Tryz.f142 (fun e w'=>bm b IG (yH w.heap.size) e w'∧w.grownBy w' (some b)) (.panic [{v:= .iface 33 (.int .i64 1),recovered:=false}]) a W from fun a W hd hw hr=>di hd ⟨bm.no hr rfl,aG HF.out hw⟩);clear hv h;go_enter func142,ntmps142
 go_upto_region 2 with fail;rw[IB.out];clear IB;have ga:=H0.out.box.cell;go_wp2_with fail;refine(sJ H0.out.r4.rd (by omega) h6 H0.out.r4.v).mono ?_
 rintro e w1 ⟨H,IE⟩;cases E:eB ah l with
 |none=>
  rw[E]at H;cases H
  exact PN.out _ _ rfl (aG H0.out.r4.fr IE) (I5.out.trans (cJ E))
 |some z=>
 obtain⟨rs,r1⟩:=z
 rw[E]at H;obtain⟨_,rfl,rfl,II⟩:=H
 have Iv:=hid (I5.out.trans (Wr.bind_some E));have s1:=mL _ _ _ _ E;have H1:=hid (H0.out.call IE II);clear ga;clear E I5;have c0:=H1.out.r4.cC.cell 0 rfl;have f0:=H1.out.r4.cC.fr 0;have gw:=H1.out.box.cell;obtain⟨u1,I9⟩: ∃W,W=w1.setCell ⟨w.heap.size+1+1,0,none⟩ (.bool rs):=⟨_,rfl⟩
 have I:=hid (H1.out.set 0 (.bool rs));rw[←I9]at I;go_upto_region 3 with fail;rw[←I9];have IQ:=hid I9;clear I9 c0 f0 gw;have ga:=I.out.box.cell;go_wp2_with fail;refine(Ga b _ r1 _ I.out.r4.rd I.out.box (by omega) h6 I.out.r4.v).mono ?_
 rintro e w2 ⟨H,IF⟩;cases E:dr ah 60 (dW ah 1000) r1 with
 |none=>
  rw[E]at H;cases H
  exact PN.out _ _ rfl (aG I.out.r4.fr IF) (Iv.out.trans (cJ E))
 |some z=>
 obtain⟨ts,r2⟩:=z
 rw[E]at H;obtain⟨IZ,rfl,F,IJ⟩:=H
 have Iw:=hid (Iv.out.trans (Wr.bind_some E));have s2:=lM _ _ (sH _ _) _ _ _ E;have H2:=hid (I.out.call IF IJ);obtain⟨P,U,Q,rfl⟩:=F.shape
 have f:=hid (show w.heap.size+1<u1.heap.size∧w.heap.size+1+1<u1.heap.size from⟨I.out.r4.cR.lt,I.out.r4.cC.lt⟩);have d:=hid F;clear F;clear ga;clear E Iv;have c1:=H2.out.r4.cC.cell 1 rfl;have f1:=H2.out.r4.cC.fr 1;have gw:=H2.out.box.cell;obtain⟨u2,Y⟩: ∃W,W=w2.setCell ⟨w.heap.size+1+1,1,none⟩ (.slice P U Q):=⟨_,rfl⟩
 have J:=hid (H2.out.set 1 (.slice P U Q));rw[←Y]at J;go_upto_region 4 with fail;rw[←Y];have G:=hid (show aV u1.heap.size 107 4 ff ts (.slice P U Q) u2 from by rw[Y];exact d.out.setE f.out.2 _ _);clear d;have d:=G;clear G;have IR:=hid Y;clear Y c1 f1 gw;have ga:=J.out.box.cell;go_wp2_with fail;refine(Gd b _ r2 _ J.out.r4.rd J.out.box (by omega) h6 J.out.r4.v).mono ?_
 rintro e w3 ⟨H,Iz⟩;cases E:dr ah 10 (dL ah 1000) r2 with
 |none=>
  rw[E]at H;cases H
  exact PN.out _ _ rfl (aG J.out.r4.fr Iz) (Iw.out.trans (cJ E))
 |some z=>
 obtain⟨cs,r3⟩:=z
 rw[E]at H;obtain⟨IP,rfl,F,IK⟩:=H
 replace d:=hid (d.out.nb Iz (by have:=f.out.1;omega) (fun _ _ h=>h));have Ix:=hid (Iw.out.trans (Wr.bind_some E));have s3:=lM _ _ (sI _ _) _ _ _ E;have H3:=hid (J.out.call Iz IK);have F:dM u2.heap.size cs IP w3:=F;obtain⟨V,I0,X,rfl⟩:=F.shape
 have y:=hid (show w.heap.size+1<u2.heap.size∧w.heap.size+1+1<u2.heap.size from⟨J.out.r4.cR.lt,J.out.r4.cC.lt⟩);have A:=hid F;clear F;clear ga;clear E Iw;have c2:=H3.out.r4.cC.cell 2 rfl;have f2:=H3.out.r4.cC.fr 2;have gw:=H3.out.box.cell;obtain⟨u3,S⟩: ∃W,W=w3.setCell ⟨w.heap.size+1+1,2,none⟩ (.slice V I0 X):=⟨_,rfl⟩
 have N:=hid (H3.out.set 2 (.slice V I0 X));rw[←S]at N;go_upto_region 5 with fail;rw[←S];have G:=hid (show aV u1.heap.size 107 4 ff ts (.slice P U Q) u3 from by rw[S];exact d.out.setE f.out.2 _ _);clear d;have d:=G;clear G;have M:=hid (show dM u2.heap.size cs (.slice V I0 X) u3 from by rw[S];exact A.out.setC y.out.2 _ _);clear A;have A:=M;clear M;have IS:=hid S;clear S c2 f2 gw;have ga:=N.out.box.cell;go_wp2_with fail;refine(kp N.out.r4.rd (by omega) h6 N.out.r4.v).mono ?_
 rintro e w4 ⟨H,I7⟩;cases E:aS ah r3 with
 |none=>
  rw[E]at H;cases H
  exact PN.out _ _ rfl (aG N.out.r4.fr I7) (Ix.out.trans (cJ E))
 |some z=>
 obtain⟨cu,r4⟩:=z
 rw[E]at H;obtain⟨_,rfl,rfl,IL⟩:=H
 replace d:=hid (d.out.nb I7 (by have:=f.out.1;omega) (fun _ _ h=>h));replace A:=hid (A.out.nb I7 (by have:=y.out.1;omega));have Iy:=hid (Ix.out.trans (Wr.bind_some E));have s4:=jL _ _ _ _ E;have H4:=hid (N.out.call I7 IL);clear ga;clear E Ix;have c3:=H4.out.r4.cC.cell 3 rfl;have f3:=H4.out.r4.cC.fr 3;have gw:=H4.out.box.cell;obtain⟨u4,T⟩: ∃W,W=w4.setCell ⟨w.heap.size+1+1,3,none⟩ (.int .i64 cu):=⟨_,rfl⟩
 have O:=hid (H4.out.set 3 (.int .i64 cu));rw[←T]at O;go_upto_region 6 with fail;rw[←T];have G:=hid (show aV u1.heap.size 107 4 ff ts (.slice P U Q) u4 from by rw[T];exact d.out.setE f.out.2 _ _);clear d;have d:=G;clear G;have M:=hid (show dM u2.heap.size cs (.slice V I0 X) u4 from by rw[T];exact A.out.setC y.out.2 _ _);clear A;have A:=M;clear M;have IT:=hid T;clear T c3 f3 gw;have ga:=O.out.box.cell;go_wp2_with fail;refine(sJ O.out.r4.rd (by omega) h6 O.out.r4.v).mono ?_
 rintro e w5 ⟨H,I8⟩;cases E:eB ah r4 with
 |none=>
  rw[E]at H;cases H
  exact PN.out _ _ rfl (aG O.out.r4.fr I8) (Iy.out.trans (cJ E))
 |some z=>
 obtain⟨mo,r5⟩:=z
 rw[E]at H;obtain⟨_,rfl,rfl,IM⟩:=H
 replace d:=hid (d.out.nb I8 (by have:=f.out.1;omega) (fun _ _ h=>h));replace A:=hid (A.out.nb I8 (by have:=y.out.1;omega));have IH:=hid (Iy.out.trans (Wr.bind_some E));have s5:=mL _ _ _ _ E;have K:=hid (O.out.call I8 IM);clear ga;clear E Iy;have c4:=K.out.r4.cC.cell 4 rfl;have f4:=K.out.r4.cC.fr 4;have y0:=K.out.r4.cC.cell 0 rfl;have y1:=K.out.r4.cC.cell 1 rfl;have al:=K.out.r4.cC.cell 2 rfl;have y3:=K.out.r4.cC.cell 3 rfl;have v0:=K.out.r4.cR.cell 0 rfl;have x0:=K.out.r4.cR.fr 0;have v1:=K.out.r4.cR.cell 1 rfl;have x1:=K.out.r4.cR.fr 1;have v2:=K.out.r4.cR.cell 2 rfl;have aY:=K.out.r4.cR.fr 2;have v3:=K.out.r4.cR.cell 3 rfl;have x3:=K.out.r4.cR.fr 3;have v4:=K.out.r4.cR.cell 4 rfl;have x4:=K.out.r4.cR.fr 4;have n3: ¬w.heap.size+1=w.heap.size+1+1:=by omega
 have n4: ¬w.heap.size+1+1=w.heap.size+1:=by omega
 go_wp2_with fail;have nR:b≠w.heap.size+1:=by omega
 have nC:b≠w.heap.size+1+1:=by omega
 have l1:wz.heap.size≤w.heap.size+1+1:=by omega
 have l0:wz.heap.size≤w.heap.size+1:=by omega
 refine bodyPost_ret (v:= .agg #[.bool rs,.slice P U Q,.slice V I0 X,.int .i64 cu,.bool mo]) (by simp[results,results142,go_sem,n3,n4,v0,v1,v2,v3,v4]) rfl ⟨bm.yes _ IH.out rfl ?_ ?_,?_⟩
 · refine⟨_,_,rfl,?_,?_⟩
   · exact(d.out|>.setE f.out.2 _ _|>.setE f.out.1 _ _|>.setE f.out.1 _ _|>.setE f.out.1 _ _|>.setE f.out.1 _ _|>.setE f.out.1 _ _).low (by have:=f.out.1;omega)
   · exact(A.out|>.setC y.out.2 _ _|>.setC y.out.1 _ _|>.setC y.out.1 _ _|>.setC y.out.1 _ _|>.setC y.out.1 _ _|>.setC y.out.1 _ _).low (by have:=y.out.1;omega)
 · exact(K.out.r4.rd.set' nC _|>.set' nR _|>.set' nR _|>.set' nR _|>.set' nR _|>.set' nR _)
 · exact aG HF.out ((bU (bU (bU (bU (bU (bU K.out.r4.fr l1 _) l0 _) l0 _) l0 _) l0 _) l0 _))
theorem Gf (b:Nat) (l:List UInt8) (w:World) (h:Rd b l w) (hs:l.length≤cE) (h6:5<b) (hv:aX w):
    Calls prog 140 #[.pointer (some ⟨b,0,none⟩)] w fun e w'=>bm b (ei ah 1000 l) (fO w.heap.size) e w'∧w.grownBy w' (some b):=by
 have Q:=hid (show ei ah 1000 l=ei ah 1000 l from rfl);conv at Q=>arg 1;rhs;unfold ei
 generalize hP:ei ah 1000 l=I8 at*;clear hP;have IC:=h.lt;have H0:=hid (sB cY cY 57 57 h h6 hv);obtain⟨w0,Z⟩: ∃w0,w0=(w.alloc (.cells cY.toArray 57)).alloc (.cells cY.toArray 57):=⟨_,rfl⟩
 rw[←Z]at H0;have I0:=hid (show(w.alloc (.cells cY.toArray 57)).alloc (.cells cY.toArray 57)=w0 from Z.symm);clear Z;have PN:=hid (show∀(a:Act) (W:World),a.defers=[]→w.grownBy W (some b)→I8=none→bodyPost prog Tryz.f140 (fun e w'=>bm b I8 (fO w.heap.size) e w'∧w.grownBy w' (some b)) (.panic [{v:= .iface 33 (.int .i64 1),recovered:=false}]) a W from fun a W hd hw hr=>di hd ⟨bm.no hr rfl,hw⟩);clear hv h;go_enter func140,ntmps140
 go_upto_region 2 with fail;rw[I0.out];clear I0;go_wp2_with fail;refine(kp H0.out.rd (by omega) h6 H0.out.v).mono ?_
 rintro e w1 ⟨E,I5⟩;cases y:aS ah l with
 |none=>
  rw[y]at E;cases E
  exact PN.out _ _ rfl (aG H0.out.fr I5) (Q.out.trans (cJ y))
 |some z=>
 obtain⟨er,r1⟩:=z
 rw[y]at E;obtain⟨_,rfl,rfl,Ix⟩:=E
 have U:=hid (Q.out.trans (Wr.bind_some y));have s1:=jL _ _ _ _ y;have H1:=hid (H0.out.call I5 Ix);clear y Q;have c0:=H1.out.cC.cell 0 rfl;have f0:=H1.out.cC.fr 0;obtain⟨u1,S⟩: ∃W,W=w1.setCell ⟨w.heap.size+1,0,none⟩ (.int .i64 er):=⟨_,rfl⟩
 have I:=hid (H1.out.set 0 (.int .i64 er));rw[←S]at I;go_upto_region 3 with fail;rw[←S];have IA:=hid S;clear S c0 f0;go_wp2_with fail;refine(kp I.out.rd (by omega) h6 I.out.v).mono ?_
 rintro e w2 ⟨E,I6⟩;cases y:aS ah r1 with
 |none=>
  rw[y]at E;cases E
  exact PN.out _ _ rfl (aG I.out.fr I6) (U.out.trans (cJ y))
 |some z=>
 obtain⟨nu,r2⟩:=z
 rw[y]at E;obtain⟨_,rfl,rfl,Iy⟩:=E
 have V:=hid (U.out.trans (Wr.bind_some y));have s2:=jL _ _ _ _ y;have H2:=hid (I.out.call I6 Iy);clear y U;have c1:=H2.out.cC.cell 1 rfl;have f1:=H2.out.cC.fr 1;obtain⟨u2,T⟩: ∃W,W=w2.setCell ⟨w.heap.size+1,1,none⟩ (.int .i64 nu):=⟨_,rfl⟩
 have A:=hid (H2.out.set 1 (.int .i64 nu));rw[←T]at A;go_upto_region 4 with fail;rw[←T];have IB:=hid T;clear T c1 f1;go_wp2_with fail;refine(Ge b r2 _ A.out.rd (by omega) h6 A.out.v).mono ?_
 rintro e w3 ⟨E,I7⟩;cases y:jk ah 1000 r2 with
 |none=>
  rw[y]at E;cases E
  exact PN.out _ _ rfl (aG A.out.fr I7) (V.out.trans (cJ y))
 |some z=>
 obtain⟨pg,r3⟩:=z
 rw[y]at E;obtain⟨_,rfl,⟨vt,vc,rfl,Y,X⟩,Iz⟩:=E
 have I9:=hid (V.out.trans (Wr.bind_some y));have s3:=Fe _ _ _ _ _ y;have F:=hid (A.out.call I7 Iz);obtain⟨at_,P,M,rfl⟩:=Y.shape
 obtain⟨J,O,K,rfl⟩:=X.shape
 have H:=hid Y;have d:=hid (show w.heap.size<u2.heap.size∧w.heap.size+1<u2.heap.size from⟨A.out.cR.lt,A.out.cC.lt⟩);have G:=hid X;clear Y X;clear y V;have c2:=F.out.cC.cell 2 rfl;have f2:=F.out.cC.fr 2;have c3:=F.out.cC.cell 3 rfl;have f3:=F.out.cC.fr 3;have c4:=F.out.cC.cell 4 rfl;have f4:=F.out.cC.fr 4;have c5:=F.out.cC.cell 5 rfl;have f5:=F.out.cC.fr 5;have c6:=F.out.cC.cell 6 rfl;have f6:=F.out.cC.fr 6;obtain⟨u3,N⟩: ∃W,W=(((((w3.setCell ⟨w.heap.size+1,2,none⟩ (.bool pg.reset)).setCell ⟨w.heap.size+1,3,none⟩ (.slice at_ P M)).setCell ⟨w.heap.size+1,4,none⟩ (.slice J O K)).setCell ⟨w.heap.size+1,5,none⟩ (.int .i64 pg.cur)).setCell ⟨w.heap.size+1,6,none⟩ (.bool pg.more)):=⟨_,rfl⟩
 have f:=hid (((((F.out.set 2 (.bool pg.reset)).set 3 (.slice at_ P M)).set 4 (.slice J O K)).set 5 (.int .i64 pg.cur)).set 6 (.bool pg.more));rw[←N]at f;go_upto_region 5 with fail;rw[←N];have Iw:=H.out;replace H:=hid ((((((H.out.setE d.out.2 2 (.bool pg.reset)).setE d.out.2 3 (.slice at_ P M)).setE d.out.2 4 (.slice J O K)).setE d.out.2 5 (.int .i64 pg.cur)).setE d.out.2 6 (.bool pg.more)));rw[←N]at H;clear Iw;have Iv:=G.out;replace G:=hid ((((((G.out.setC d.out.2 2 (.bool pg.reset)).setC d.out.2 3 (.slice at_ P M)).setC d.out.2 4 (.slice J O K)).setC d.out.2 5 (.int .i64 pg.cur)).setC d.out.2 6 (.bool pg.more)));rw[←N]at G;clear Iv;clear N c2 f2 c3 f3 c4 f4 c5 f5 c6 f6;have y0:=f.out.cC.cell 0 rfl;have y1:=f.out.cC.cell 1 rfl;have al:=f.out.cC.cell 2 rfl;have y3:=f.out.cC.cell 3 rfl;have y4:=f.out.cC.cell 4 rfl;have y5:=f.out.cC.cell 5 rfl;have y6:=f.out.cC.cell 6 rfl;have v0:=f.out.cR.cell 0 rfl;have x0:=f.out.cR.fr 0;have v1:=f.out.cR.cell 1 rfl;have x1:=f.out.cR.fr 1;have v2:=f.out.cR.cell 2 rfl;have aY:=f.out.cR.fr 2;have v3:=f.out.cR.cell 3 rfl;have x3:=f.out.cR.fr 3;have v4:=f.out.cR.cell 4 rfl;have x4:=f.out.cR.fr 4;have v5:=f.out.cR.cell 5 rfl;have x5:=f.out.cR.fr 5;have v6:=f.out.cR.cell 6 rfl;have x6:=f.out.cR.fr 6;have n3: ¬w.heap.size=w.heap.size+1:=by omega
 have n4: ¬w.heap.size+1=w.heap.size:=by omega
 go_wp2_with fail;have nR:b≠w.heap.size:=by omega
 have nC:b≠w.heap.size+1:=by omega
 have l1:w.heap.size≤w.heap.size+1:=by omega
 have l0:w.heap.size≤w.heap.size:=by omega
 refine bodyPost_ret (v:= .agg #[.int .i64 er,.int .i64 nu,.bool pg.reset,.slice at_ P M,.slice J O K,.int .i64 pg.cur,.bool pg.more]) (by simp[results,results140,go_sem,n3,n4,v0,v1,v2,v3,v4,v5,v6]) rfl ⟨bm.yes _ I9.out rfl ?_ ?_,?_⟩
 · refine⟨_,_,rfl,?_,?_⟩
   · exact(H.out|>.setE d.out.1 _ _|>.setE d.out.1 _ _|>.setE d.out.1 _ _|>.setE d.out.1 _ _|>.setE d.out.1 _ _|>.setE d.out.1 _ _|>.setE d.out.1 _ _).low (by have:=d.out.1;omega)
   · exact(G.out|>.setC d.out.1 _ _|>.setC d.out.1 _ _|>.setC d.out.1 _ _|>.setC d.out.1 _ _|>.setC d.out.1 _ _|>.setC d.out.1 _ _|>.setC d.out.1 _ _).low (by have:=d.out.1;omega)
 · exact(f.out.rd|>.set' nR _|>.set' nR _|>.set' nR _|>.set' nR _|>.set' nR _|>.set' nR _|>.set' nR _)
 · exact(bU (bU (bU (bU (bU (bU (bU f.out.fr l0 _) l0 _) l0 _) l0 _) l0 _) l0 _) l0 _)
end Go.Proofs.YtcmlnelpcjfocaaGreatDoor
