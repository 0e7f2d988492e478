/- The program's reader as mathematics: lists; what a row that was read is in memory; one change. -/
import Derived.Test.YtgamnckfmmbjdaaGreatDoorWGZE
set_option linter.unusedSimpArgs false
set_option linter.unusedVariables false
namespace Go.Proofs.YtgamnckfmmbjdaaGreatDoor
open Go.RowKit Go.Proofs.Tryz
set_option maxHeartbeats 4000000
def gv {α:Type} (p:bO α) (n:Nat) (xs:List α) (l:List UInt8):Option (List α×List UInt8):=match eS p n l with
 |none=>none
 |some (ys,r)=>some (xs++ys,r)
theorem Ai {a:Type} (p:bO a) (n:Nat) (l:List UInt8):eS p n l=gv p n [] l:=by
 unfold gv;split<;>simp_all
theorem Aj {a:Type} (p:bO a) (xs:List a) (l:List UInt8):gv p 0 xs l=some (xs,l):=by simp[gv,eS,fj]
theorem Ak {a:Type} {p:bO a} {n:Nat} {xs:List a} {l:List UInt8} (h:p l=none):gv p (n+1) xs l=none:=by simp[gv,eS,bG,h]
theorem Al {a:Type} {p:bO a} {n:Nat} {xs:List a} {l r:List UInt8} {x:a} (h:p l=some (x,r)):gv p (n+1) xs l=gv p n (xs++[x]) r:=by
 unfold gv;rw[show eS p (n+1) l=bG p (fun x=>bG (eS p n) fun xs=>fj (x::xs)) l from rfl,Wr.bind_some h];cases d:eS p n r with
 |none=>rw[dW d]
 |some z=>obtain⟨f,e⟩:=z;rw[Wr.bind_some d];simp[fj]
theorem Wr.lst_none {a:Type} {g:Int→Bool} {m:Int} {p:bO a} {l:List UInt8} (h:dK g m l=none):fF g m p l=none:=dW h
theorem Am {a:Type} {g:Int→Bool} {m:Int} {p:bO a} {l r:List UInt8} {n:Int} (h:dK g m l=some (n,r)):fF g m p l=gv p n.toNat [] r:=by
 rw[←Ai];exact Wr.bind_some h
def fk {α:Type} (p:bO α):Prop:= ∀l x r,p l=some (x,r)→r.length≤l.length
theorem so (g:Int→Bool):fk (bC g):=fun _ _ _ h=>gi h
theorem oA (g:Int→Bool) (m:Int):fk (bu g m):=fun _ _ _ h=>eC h
theorem Ao (g:Int→Bool) (m:Int):fk (dK g m):=fun _ _ _ h=>lR h
theorem oB {a:Type} (x:a):fk (fj x):=fun l y r h=>by
 simp only[fj,Option.some.injEq,Prod.mk.injEq]at h;rw[h.2];exact Nat.le_refl _
theorem iH {a d:Type} {p:bO a} {f:a→bO d} (j:fk p) (e: ∀x,fk (f x)):fk (bG p f):=fun l y r h=>by
 unfold bG at h;split at h
 · cases h
 · rename_i x u o
   exact Nat.le_trans (e _ _ _ _ h) (j _ _ _ o)
theorem sr {a:Type} {p:bO a} (d:fk p): ∀n,fk (eS p n)
 |0=>oB _
 |n+1=>iH d fun _=>iH (sr d n) fun _=>oB _
theorem Ap {a:Type} {p:bO a} (g:Int→Bool) (m:Int) (d:fk p):fk (fF g m p):=iH (Ao g m) fun _=>sr d _
theorem st (g:Int→Bool) (m:Int):fk (dX g m):=iH (so g) fun _=>iH (oA g m) fun _=>iH (oA g m) fun _=>iH (oA g m) fun _=>iH (so g) fun _=>oB _
def oC (n:Nat) {α:Type} (V:α→List Value→World→Prop) (z:α×List Value) (W:World):Prop:=V z.1 z.2 W∧z.2.length=n∧ ∀u∈z.2,u.oneCell'=true
def cV (B:Nat) (T:TypeId) (n:Nat) {α:Type} (V:α→List Value→World→Prop) (xs:List α) (v:Value) (W:World):Prop:=
 ∃Z:List (α×List Value),Z.map (·.1)=xs∧W.ownsRow B T n v Z.length (Z.map (·.2)).flatten∧ ∀z∈Z,oC n V z W
theorem Aq (B:Nat) (T:TypeId) (n:Nat) {a:Type} (V:a→List Value→World→Prop) (W:World):cV B T n V [] (.slice none 0 0) W:=⟨[],rfl,World.ownsRow_nil _ _ _ _,by simp⟩
theorem Ar (b g:Nat) (l:List UInt8) (w:World) (h:Rd b l w) (u:cH w b g) (y:l.length≤cF) (o:5<b) (z:aR w):
    Calls prog 184 #[.pointer (some ⟨g,0,none⟩)] w fun e w'=>cr b (dX aF 1000 l) (fun c v _=>v= .agg #[.int .i64 c.k,.string c.p,.string c.q,.string c.t,.int .i64 c.b]) e w'∧w.grownBy w' (some b):=by
 unfold dX;cases d:bC aF l with
 |none=>exact(Ad b g l [] [] [] [] [] 0 0 ⟨#[]⟩ ⟨#[]⟩ ⟨#[]⟩ w h u y o z d).mono fun e w' a=>⟨cr.no (dW d) a.1,a.2⟩
 |some z1=>
 obtain⟨k,A⟩:=z1
 rw[Wr.bind_some d];cases f:bu aF 1000 A with
 |none=>exact(Ae b g l A [] [] [] [] k 0 ⟨#[]⟩ ⟨#[]⟩ ⟨#[]⟩ w h u y o z d f).mono fun e w' a=>⟨cr.no (dW f) a.1,a.2⟩
 |some z2=>
 obtain⟨p,F⟩:=z2
 rw[Wr.bind_some f];cases j:bu aF 1000 F with
 |none=>exact(Af b g l A F [] [] [] k 0 p ⟨#[]⟩ ⟨#[]⟩ w h u y o z d f j).mono fun e w' a=>⟨cr.no (dW j) a.1,a.2⟩
 |some z3=>
 obtain⟨q,H⟩:=z3
 rw[Wr.bind_some j];cases E:bu aF 1000 H with
 |none=>exact(Ag b g l A F H [] [] k 0 p q ⟨#[]⟩ w h u y o z d f j E).mono fun e w' a=>⟨cr.no (dW E) a.1,a.2⟩
 |some z4=>
 obtain⟨t,I⟩:=z4
 rw[Wr.bind_some E];cases G:bC aF I with
 |none=>exact(Ah b g l A F H I [] k 0 p q t w h u y o z d f j E G).mono fun e w' a=>⟨cr.no (dW G) a.1,a.2⟩
 |some z5=>
 obtain⟨J,K⟩:=z5
 exact(Ac b g l A F H I K k J p q t w h u y o z d f j E G).mono fun e w' a=>⟨cr.yes (x:=⟨k,p,q,t,J⟩) _ (Wr.bind_some G) a.1 rfl a.2.1,a.2.2⟩
theorem su {w w':World} {base:Nat} {e:TypeId} {size:Nat} {v:Value} {n:Nat} {xs:List Value} {g:Nat} (h:w.ownsRow base e size v n xs) (f:w.grownBy w' (some g)) (j:g<base):w'.ownsRow base e size v n xs:=
 h.kept (row:=some g) f (by
  cases d:v.ownBlock with
  |none=>exact Or.inl rfl
  |some q=>exact Or.inr (fun a=>by injection a with a;have:=(h.lt q d).1;omega))
theorem As {w W a:World} {b:Nat} (h:w.grownBy W (some b)) (k:Below w.heap.size W a):w.grownBy a (some b):=⟨k.os.trans h.os,k.tape.trans h.tape,k.output.trans h.output,Nat.le_trans h.size k.size,fun x d e=>(k.block x d).trans (h.block x d e)⟩
theorem Rd.belowB {b B:Nat} {l:List UInt8} {w w':World} (h:Rd b l w) (hb:Below B w w') (a:b<B):Rd b l w':=(hb.block b a).trans h
theorem cH.belowB {b g B:Nat} {w w':World} (h:cH w b g) (hb:Below B w w') (a:g<B):cH w' b g:=⟨(hb.block g a).trans h.1,h.2⟩
theorem cV.snoc {B:Nat} {T:TypeId} {n:Nat} {a:Type} {V:a→List Value→World→Prop} {Z:List (a×List Value)} {x:a} {r:List Value} {v:Value} {W:World} (e:W.ownsRow B T n v (Z.length+1) ((Z.map (·.2)).flatten++r)) (h: ∀z∈Z,oC n V z W) (f:oC n V (x,r) W):cV B T n V (Z.map (·.1)++[x]) v W:=by
 refine⟨Z++[(x,r)],by simp,by simpa using e,fun z j=>?_⟩
 rcases List.mem_append.1 j with d|d
 · exact h z d
 · rw[List.mem_singleton]at d;rw[d];exact f
theorem At {w:World} {B f:Nat} {e:TypeId} {size:Nat} {v:Value} {n:Nat} {xs:List Value} (h:w.ownsRow B e size v n xs) (o:f≤B):w.ownsRow f e size v n xs:=by
 obtain⟨j,d⟩:=h
 refine⟨j,?_⟩
 rcases d with d|⟨g,a,cur,y,u,r⟩
 · exact .inl d
 · exact .inr ⟨g,a,cur,y,Nat.le_trans o u,r⟩
theorem Tryz.infoW5:(prog.info? 55).map (fun i=>(i.zero,i.size,i.bytes))=some (some (.agg #[.int .i64 0,.string ⟨#[]⟩,.string ⟨#[]⟩,.string ⟨#[]⟩,.int .i64 0]),5,64):=by kernel_rfl
def gM (x:ar) (r:List Value) (_:World):Prop:=r=[.int .i64 x.k,.string x.p,.string x.q,.string x.t,.int .i64 x.b]
theorem Au: ∀a w,(callFunc 184 a).run prog w= .ok (.enter 184 a) w:=enters_of func184 (by kernel_rfl) rfl
structure oD (w:World) (b g:Nat) (x:Value) (xs:List (ar)) (r:List UInt8) (W:World):Prop where
 row:cV w.heap.size 55 5 gM xs x W
 rd:Rd b r W
 box:cH W b g
 v:aR W
 fr:w.grownBy W (some b)
 rl:r.length≤cF
theorem Av (W:World) (x:ar): ∀j u,([.int .i64 x.k,.string x.p,.string x.q,.string x.t,.int .i64 x.b]:List Value)[j]?=some u→(W.alloc (.cells #[.int .i64 x.k,.string x.p,.string x.q,.string x.t,.int .i64 x.b] 55)).cell? ((⟨W.heap.size,0,none⟩:Addr).add j)=some u:=by
 intro j u d;have h:=Cs.new W ([.int .i64 x.k,.string x.p,.string x.q,.string x.t,.int .i64 x.b]) 55;have a:=h.cell j d;rw[Addr.add_lit,Nat.zero_add];exact a
theorem Aw (b g:Nat) (l:List UInt8) (w:World) (h:Rd b l w) (hg:cH w b g) (hs:l.length≤cF) (O:5<b) (Y:aR w):
    Calls prog 183 #[.pointer (some ⟨b,0,none⟩),.int .i64 20,.func (.func 184) #[] #[.pointer (some ⟨g,0,none⟩)]] w fun e w'=>cr b (fF aF 20 (dX aF 1000) l) (cV w.heap.size 55 5 gM) e w'∧w.grownBy w' (some b):=by
 have eg:=Au;cases o:dK aF 20 l with
 |none=>
  have HK:=hid (rZ h hs O Y o);have A:=hid (Wr.lst_none (p:=dX aF 1000) o);clear h Y o hg;go_enter func183,ntmps183
  go_wp2_with fail;refine HK.out.mono ?_
  rintro e w1 ⟨rfl,d⟩;exact dr rfl ⟨cr.no A.out rfl,d⟩
 |some z=>
 obtain⟨n,r1⟩:=z
 obtain⟨_,n0,n1⟩:=lQ o
 obtain⟨N,rfl⟩: ∃k:Nat,n=k:=⟨n.toNat,by omega⟩
 have HK:=hid (oy h hs O Y o);have A:=hid (Am (p:=dX aF 1000) o);rw[show((N:Int).toNat)=N from rfl]at A;have CH:=lR o;obtain⟨aQ,CC,CD,CE,CF⟩:=info_parts Tryz.infoW5
 have Q:=h.lt;have C9:=cn hg.1;have HS:=hid (st _ _:fk (dX aF 1000));have HG:=hid hg;have M:=hid Y;clear h Y o hg;go_enter func183,ntmps183
 go_wp2_with fail;refine HK.out.mono ?_
 rintro e w1 ⟨rfl,U,d⟩;have HR:=hid (show oD w b g (.slice none 0 0) [] r1 w1 from⟨Aq _ _ _ _ _,U,HG.out.nb d,M.out.nb O (by omega) d,d,by omega⟩);clear HK U d HG M;go_wp2_with fail;go_loopw [7,11] (fun x i wr=> ∃(k:Nat) (xs:List (ar)) (r:List UInt8),k≤N∧i= .int .i64 k∧Hid (oD w b g x xs r wr)∧Hid (fF aF 20 (dX aF 1000) l=gv (dX aF 1000) (N-k) xs r)∧xs.length=k) (fun _ i _=>N-(intOf i).toNat)
 case atStart=>exact⟨0,[],r1,Nat.zero_le _,rfl,HR,A,rfl⟩
 case round=>
  obtain⟨k,xs,r,hk,rfl,a,I,C3⟩:=hrel
  by_cases CJ:k<N
  · have K:=hid (Ar b g r wr a.out.rd a.out.box a.out.rl O a.out.v)
    obtain⟨m,hm⟩: ∃m,N-k=m+1:=⟨N-k-1,by omega⟩
    cases H:(dX aF 1000) r with
    |none=>
     have HF:=hid (Ak (n:=m) (xs:=xs) H);rw[hm]at I;rw[H]at K;clear H A HR hm;go_wp2_with fail;refine K.out.mono ?_
     rintro e J ⟨he,f⟩;cases he
     exact(show bodyPost prog Tryz.f183 (fun e w'=>cr b (fF aF 20 (dX aF 1000) l) (cV w.heap.size 55 5 gM) e w'∧w.grownBy w' (some b)) (.panic _) _ J from dr rfl ⟨cr.no (I.out.trans HF.out) rfl,db a.out.fr f⟩)
    |some z=>
     obtain⟨x,r'⟩:=z
     have HF:=hid (Al (n:=m) (xs:=xs) H);rw[hm]at I;have CI:=HS.out _ _ _ H;rw[H]at K;have CK:=a.out.rl;clear H A HR;obtain⟨Z,F,P,G⟩:=a.out.row
     have C8:Z.length=k:=by rw[←C3,←F,List.length_map]
     go_wp2_with fail;refine K.out.mono ?_
     rintro e J ⟨⟨v2,rfl,rfl,V⟩,f⟩;have u:=db a.out.fr f;have E:=su P f Q;have X:=u.size;have C4:=hid (a.out.box.nb f);have C7:=hid (a.out.v.nb O (by have:=a.out.rd.lt;omega) f);have C6:=hid V;have CG:=a.out.box;have CL:=a.out.fr.size;clear V K;go_wp2_with (at_builtin;refine wpList_append_own _ rfl _ _ 48 rfl w.heap.size 55 aQ (.agg #[.int .i64 0,.string ⟨#[]⟩,.string ⟨#[]⟩,.string ⟨#[]⟩,.int .i64 0]) 5 64 underlying48 CC CD CE CF rfl (by decide) _ _ _ rfl (E.alloc _) ⟨J.heap.size,0,none⟩ 1 1 ([.int .i64 x.k,.string x.p,.string x.q,.string x.t,.int .i64 x.b]) rfl rfl (Av J x) (by simp[Value.oneCell']) (by unfold maxLen;omega) (by omega) (by simp;omega) ?_)
     intro v5 w5 T y S;have j:Below w.heap.size J w5:=((Below.refl _ J).alloc X _).grown y (by simp;omega) (fun q hq=>(E.lt q hq).1);have C5:=hid (show oD w b g v5 (xs++[x]) r' w5 from⟨by rw[←F];exact cV.snoc (r:=[.int .i64 x.k,.string x.p,.string x.q,.string x.t,.int .i64 x.b]) (by rw[C8];exact T) (fun z hz=>⟨(G z hz).1,(G z hz).2⟩) ⟨rfl,rfl,by simp[Value.oneCell']⟩,C6.out.belowB j Q,C4.out.belowB j C9,C7.out.belowB (by omega) j,As u j,by omega⟩);clear T y S E F P G j;go_wp2_with fail;go_roundw
     case rel=>exact⟨k+1,xs++[x],r',by omega,by simp,C5,hid (by rw[I.out,HF.out,show N-(k+1)=m from by omega]),by simp[C3]⟩
     case measure=>simp[intOf];omega
  · obtain rfl:k=N:=by omega
    rw[Nat.sub_self,Aj]at I;clear A HR;go_wp2_with fail;go_ret;exact⟨cr.yes _ I.out rfl a.out.row a.out.rd,a.out.fr⟩
theorem cV.low {B d:Nat} {T:TypeId} {n:Nat} {a:Type} {V:a→List Value→World→Prop} {xs:List a} {v:Value} {W:World} (h:cV B T n V xs v W) (o:d≤B):cV d T n V xs v W:=by
 obtain⟨Z,e,f,j⟩:=h
 exact⟨Z,e,At f o,j⟩
theorem cr.map {a:Type} {b:Nat} {d:Option (a×List UInt8)} {V V':a→Value→World→Prop} {e:Ending} {w':World} (h:cr b d V e w') (u: ∀x v,V x v w'→V' x v w'):cr b d V' e w':=by
 cases d with
 |none=>exact h
 |some z=>obtain⟨v,f,j,o⟩:=h;exact⟨v,f,u _ _ j,o⟩
theorem Ax (b:Nat) (l:List UInt8) (w:World) (h:Rd b l w) (T:l.length≤cF) (P:5<b) (M:aR w):
    Calls prog 144 #[.pointer (some ⟨b,0,none⟩)] w fun e w'=>cr b (fF aF 20 (dX aF 1000) l) (cV w.heap.size 55 5 gM) e w'∧w.grownBy w' (some b):=by
 have S: ∀(J:Fn) (first cap:Array Value) (w:World),(Instr.makeFunc J first cap).run prog w= .ok (.func J first cap) w:=fun _ _ _ _=>rfl
 have Q:=h.lt;obtain⟨y,a⟩: ∃y,y=w.alloc (.cells #[.pointer (some ⟨b,0,none⟩)] 210):=⟨_,rfl⟩
 have d:Below w.heap.size w y:=by rw[a];exact dA _ _
 have o:cH y b w.heap.size:=⟨by rw[a];exact heap_alloc_new w _,by omega⟩
 have G:=d.size;have I:=hid (Aw b w.heap.size l y (h.below d) o T P (M.belowB (by omega) d));have H:=hid (gh b d);rw[a]at I;have E:=hid a;clear a o M h;go_enter func144,ntmps144
 go_wp2_with fail;refine I.out.mono ?_
 rintro e V ⟨F,j⟩;rw[←E.out]at j F;have f:=F.map (V':=cV w.heap.size 55 5 gM) (fun x v U=>U.low G);cases A:fF aF 20 (dX aF 1000) l with
 |none=>
  rw[A]at f;cases f
  exact dr rfl ⟨cr.no A rfl,db H.out j⟩
 |some z=>
  obtain⟨cs,r⟩:=z
  rw[A]at f;obtain⟨v,rfl,K,u⟩:=f
  have O:=hid K;have N:=hid u;clear K u F;go_wp2_with fail;go_ret;exact⟨cr.yes v A rfl O.out N.out,db H.out j⟩
theorem lV {b:Nat} {l:List UInt8} {w:World} (h:Rd b l w) (j:l.length≤cF) (d:5<b) (o:aR w):
    Calls prog 139 #[.pointer (some ⟨b,0,none⟩)] w fun e w'=>cr b (bC aF l) (fun n v _=>v= .int .i64 n) e w'∧w.grownBy w' (some b):=by
 cases f:bC aF l with
 |none=>exact(lS h j d o f).mono fun e w' a=>⟨a.1,a.2⟩
 |some z=>exact(ic h j d o f).mono fun e w' a=>⟨⟨_,a.1,rfl,a.2.1⟩,a.2.2⟩
theorem kK {b:Nat} {l:List UInt8} {w:World} (h:Rd b l w) (j:l.length≤cF) (d:5<b) (o:aR w):
    Calls prog 143 #[.pointer (some ⟨b,0,none⟩)] w fun e w'=>cr b (bu aF 1000 l) (fun x v _=>v= .string x) e w'∧w.grownBy w' (some b):=by
 cases f:bu aF 1000 l with
 |none=>exact(lT h j d o f).mono fun e w' a=>⟨a.1,a.2⟩
 |some z=>exact(eT h j d o f).mono fun e w' a=>⟨⟨_,a.1,rfl,a.2.1⟩,a.2.2⟩
structure R4 (w:World) (b C R:Nat) (l:List UInt8) (cs zs:List Value) (W:World):Prop where
 rd:Rd b l W
 v:aR W
 cC:Cs W C cs
 cR:Cs W R zs
 fr:w.grownBy W (some b)
 bl:b<w.heap.size
 Cl:w.heap.size≤C
 Rl:w.heap.size≤R
 ne:C≠R
 b6:5<b
theorem R4.call {w W d:World} {b C R:Nat} {l r:List UInt8} {cs zs:List Value} (h:R4 w b C R l cs zs W) (a:W.grownBy d (some b)) (e:Rd b r d):R4 w b C R r cs zs d:=
 ⟨e,h.v.nb h.b6 (by have:=h.rd.lt;have:=h.b6;omega) a,h.cC.nb a (by have:=h.bl;have:=h.Cl;omega),h.cR.nb a (by have:=h.bl;have:=h.Rl;omega),db h.fr a,h.bl,h.Cl,h.Rl,h.ne,h.b6⟩
theorem R4.set {w W:World} {b C R:Nat} {l:List UInt8} {cs zs:List Value} (h:R4 w b C R l cs zs W) (i:Nat) (v:Value):R4 w b C R l (cs.set i v) zs (W.setCell ⟨C,i,none⟩ v):=by
 have hb:=h.bl;have d:=h.Cl;have a:=au W C i v;exact⟨h.rd.nb a (by omega),h.v.nb (by have:=h.b6;omega) (by have:=h.rd.lt;have:=h.b6;omega) a,h.cC.set i v,h.cR.nb a h.ne.symm,dB h.fr h.Cl v,h.bl,h.Cl,h.Rl,h.ne,h.b6⟩
theorem R4.drew {w W:World} {b C R:Nat} {l:List UInt8} {cs zs:List Value} (h:R4 w b C R l cs zs W):R4 w b C R l cs zs W.drew:=
 h.call (gh b (Below.refl _ _).drew) h.rd
theorem Ay {w:World} {b:Nat} {l:List UInt8} (cs zs:List Value) (T U:TypeId) (h:Rd b l w) (u:5<b) (y:aR w):R4 w b (w.heap.size+1) w.heap.size l cs zs ((w.alloc (.cells zs.toArray T)).alloc (.cells cs.toArray U)):=by
 have o:=h.lt;obtain⟨e,a⟩: ∃e,e=w.alloc (.cells zs.toArray T):=⟨_,rfl⟩
 rw[←a];have z:e.heap.size=w.heap.size+1:=by rw[a];simp
 have j:Below w.heap.size w e:=by rw[a];exact dA _ _
 have f:=dA e (.cells cs.toArray U);have d:=j.trans (f.mono (by omega));refine⟨h.below d,y.belowB (by omega) d,?_,?_,gh b d,o,by omega,Nat.le_refl _,by omega,u⟩
 · rw[←z];exact Cs.new e cs _
 · exact Cs.belowAt (show Cs e w.heap.size zs by rw[a];exact Cs.new w zs _) f (by omega)
theorem cV.shape {B:Nat} {T:TypeId} {n:Nat} {a:Type} {V:a→List Value→World→Prop} {xs:List a} {v:Value} {W:World} (h:cV B T n V xs v W): ∃d l c,v= .slice d l c:=by
 obtain⟨Z,_,⟨_,f⟩,_⟩:=h
 rcases f with⟨rfl,_⟩|⟨g,e,cur,rfl,_⟩
 · exact⟨_,_,_,rfl⟩
 · exact⟨_,_,_,rfl⟩
theorem cV.nb {B:Nat} {T:TypeId} {n:Nat} {a:Type} {V:a→List Value→World→Prop} {xs:List a} {v:Value} {W d:World} {g:Nat} (h:cV B T n V xs v W) (A:W.grownBy d (some g)) (y:g<B) (u: ∀x r,V x r W→V x r d):cV B T n V xs v d:=by
 obtain⟨Z,j,o,e⟩:=h
 exact⟨Z,j,su o A y,fun z f=>⟨u _ _ (e z f).1,(e z f).2⟩⟩
theorem cV.setC {B:Nat} {T:TypeId} {n:Nat} {xs:List ar} {v:Value} {W:World} (h:cV B T n gM xs v W) {g:Nat} (a:g<B) (i:Nat) (u:Value):cV B T n gM xs v (W.setCell ⟨g,i,none⟩ u):=h.nb (au W g i u) a (fun _ _ h=>h)
def eE (g:Int→Bool) (m:Int):bO Rq:=bG (bC g) fun k=>bG (bu g m) fun a=>bG (bu g m) fun b=>bG (bu g m) fun c=>bG (bu g m) fun d=>bG (bu g m) fun e=>bG (bC g) fun x=>bG (bC g) fun y=>bG (bC g) fun z=>bG (fF g 20 (dX g m)) fun cs=>fj ⟨k,a,b,c,d,e,x,y,z,cs⟩
abbrev eF:List Value:=[.int .i64 0,.string ⟨#[]⟩,.string ⟨#[]⟩,.string ⟨#[]⟩,.string ⟨#[]⟩,.string ⟨#[]⟩,.int .i64 0,.int .i64 0,.int .i64 0,.slice none 0 0]
def fl (B:Nat) (q:Rq) (v:Value) (W:World):Prop:= ∃vc,v= .agg #[.int .i64 q.kind,.string q.who,.string q.fo,.string q.name,.string q.key,.string q.text,.int .i64 q.num,.int .i64 q.off,.int .i64 q.base,vc]∧cV B 55 5 gM q.ch vc W
theorem Az (b:Nat) (l:List UInt8) (w:World) (h:Rd b l w) (hs:l.length≤cF) (E:5<b) (hv:aR w):
    Calls prog 142 #[.pointer (some ⟨b,0,none⟩)] w fun e w'=>cr b (eE aF 1000 l) (fl w.heap.size) e w'∧w.grownBy w' (some b):=by
 have J:=hid (show eE aF 1000 l=eE aF 1000 l from rfl);conv at J=>arg 1;rhs;unfold eE
 generalize hP:eE aF 1000 l=CH at*;clear hP;have H0:=hid (Ay eF eF 57 57 h E hv);have CV:=h.lt;have G:=hid (show∀(a:Act) (W:World),a.defers=[]→w.grownBy W (some b)→CH=none→bodyPost prog Tryz.f142 (fun e w'=>cr b CH (fl w.heap.size) e w'∧w.grownBy w' (some b)) (.panic [{v:= .iface 33 (.int .i64 1),recovered:=false}]) a W from fun a W hd hw hr=>dr hd ⟨cr.no hr rfl,hw⟩);clear hv h;go_enter func142,ntmps142
 go_wp2_with fail;refine(lV H0.out.rd (by omega) E H0.out.v).mono ?_
 rintro e w1 ⟨j,C5⟩;cases f:bC aF l with
 |none=>
  rw[f]at j;cases j
  exact G.out _ _ rfl (db H0.out.fr C5) (J.out.trans (dW f))
 |some z=>
 obtain⟨k,r1⟩:=z
 rw[f]at j;obtain⟨_,rfl,rfl,CK⟩:=j
 have N:=hid (J.out.trans (Wr.bind_some f));have s1:=gi f;have Y:=hid (H0.out.call C5 CK);clear f J;have c0:=Y.out.cC.cell 0 rfl;have f0:=Y.out.cC.fr 0;go_wp2_with fail;clear c0 f0;refine(kK (Y.out.set 0 (.int .i64 k)).rd (by omega) E (Y.out.set 0 (.int .i64 k)).v).mono ?_
 rintro e w2 ⟨j,C6⟩;cases f:bu aF 1000 r1 with
 |none=>
  rw[f]at j;cases j
  exact G.out _ _ rfl (db (Y.out.set 0 (.int .i64 k)).fr C6) (N.out.trans (dW f))
 |some z=>
 obtain⟨Z,r2⟩:=z
 rw[f]at j;obtain⟨_,rfl,rfl,CL⟩:=j
 have O:=hid (N.out.trans (Wr.bind_some f));have s2:=eC f;have H2:=hid ((Y.out.set 0 (.int .i64 k)).call C6 CL);clear f N;go_wp2_with fail;refine(kK H2.out.rd (by omega) E H2.out.v).mono ?_
 rintro e w3 ⟨j,C7⟩;cases f:bu aF 1000 r2 with
 |none=>
  rw[f]at j;cases j
  exact G.out _ _ rfl (db H2.out.fr C7) (O.out.trans (dW f))
 |some z=>
 obtain⟨tb,r3⟩:=z
 rw[f]at j;obtain⟨_,rfl,rfl,CM⟩:=j
 have P:=hid (O.out.trans (Wr.bind_some f));have s3:=eC f;have H3:=hid (H2.out.call C7 CM);clear f O;go_wp2_with fail;refine(kK H3.out.rd (by omega) E H3.out.v).mono ?_
 rintro e w4 ⟨j,C8⟩;cases f:bu aF 1000 r3 with
 |none=>
  rw[f]at j;cases j
  exact G.out _ _ rfl (db H3.out.fr C8) (P.out.trans (dW f))
 |some z=>
 obtain⟨tc,r4⟩:=z
 rw[f]at j;obtain⟨_,rfl,rfl,CN⟩:=j
 have Q:=hid (P.out.trans (Wr.bind_some f));have s4:=eC f;have H4:=hid (H3.out.call C8 CN);clear f P;go_wp2_with fail;refine(kK H4.out.rd (by omega) E H4.out.v).mono ?_
 rintro e w5 ⟨j,C9⟩;cases f:bu aF 1000 r4 with
 |none=>
  rw[f]at j;cases j
  exact G.out _ _ rfl (db H4.out.fr C9) (Q.out.trans (dW f))
 |some z=>
 obtain⟨td,r5⟩:=z
 rw[f]at j;obtain⟨_,rfl,rfl,CO⟩:=j
 have S:=hid (Q.out.trans (Wr.bind_some f));have s5:=eC f;have H5:=hid (H4.out.call C9 CO);clear f Q;go_wp2_with fail;refine(kK H5.out.rd (by omega) E H5.out.v).mono ?_
 rintro e w6 ⟨j,CC⟩;cases f:bu aF 1000 r5 with
 |none=>
  rw[f]at j;cases j
  exact G.out _ _ rfl (db H5.out.fr CC) (S.out.trans (dW f))
 |some z=>
 obtain⟨te,r6⟩:=z
 rw[f]at j;obtain⟨_,rfl,rfl,CP⟩:=j
 have T:=hid (S.out.trans (Wr.bind_some f));have s6:=eC f;have u:=hid (H5.out.call CC CP);clear f S;have c1:=u.out.cC.cell 1 rfl;have f1:=u.out.cC.fr 1;have c2:=u.out.cC.cell 2 rfl;have f2:=u.out.cC.fr 2;have c3:=u.out.cC.cell 3 rfl;have f3:=u.out.cC.fr 3;have c4:=u.out.cC.cell 4 rfl;have f4:=u.out.cC.fr 4;have c5:=u.out.cC.cell 5 rfl;have f5:=u.out.cC.fr 5;go_wp2_with fail;clear c1 f1 c2 f2 c3 f3 c4 f4 c5 f5;refine(lV (((((u.out.set 1 (.string Z)).set 2 (.string tb)).set 3 (.string tc)).set 4 (.string td)).set 5 (.string te)).rd (by omega) E (((((u.out.set 1 (.string Z)).set 2 (.string tb)).set 3 (.string tc)).set 4 (.string td)).set 5 (.string te)).v).mono ?_
 rintro e w7 ⟨j,CD⟩;cases f:bC aF r6 with
 |none=>
  rw[f]at j;cases j
  exact G.out _ _ rfl (db (((((u.out.set 1 (.string Z)).set 2 (.string tb)).set 3 (.string tc)).set 4 (.string td)).set 5 (.string te)).fr CD) (T.out.trans (dW f))
 |some z=>
 obtain⟨x,r7⟩:=z
 rw[f]at j;obtain⟨_,rfl,rfl,CQ⟩:=j
 have U:=hid (T.out.trans (Wr.bind_some f));have s7:=gi f;have H7:=hid ((((((u.out.set 1 (.string Z)).set 2 (.string tb)).set 3 (.string tc)).set 4 (.string td)).set 5 (.string te)).call CD CQ);clear f T;go_wp2_with fail;refine(lV H7.out.rd (by omega) E H7.out.v).mono ?_
 rintro e w8 ⟨j,CE⟩;cases f:bC aF r7 with
 |none=>
  rw[f]at j;cases j
  exact G.out _ _ rfl (db H7.out.fr CE) (U.out.trans (dW f))
 |some z=>
 obtain⟨y,r8⟩:=z
 rw[f]at j;obtain⟨_,rfl,rfl,CR⟩:=j
 have V:=hid (U.out.trans (Wr.bind_some f));have s8:=gi f;have H8:=hid (H7.out.call CE CR);clear f U;go_wp2_with fail;refine(lV H8.out.rd (by omega) E H8.out.v).mono ?_
 rintro e w9 ⟨j,CF⟩;cases f:bC aF r8 with
 |none=>
  rw[f]at j;cases j
  exact G.out _ _ rfl (db H8.out.fr CF) (V.out.trans (dW f))
 |some z=>
 obtain⟨K,r9⟩:=z
 rw[f]at j;obtain⟨_,rfl,rfl,CS⟩:=j
 have X:=hid (V.out.trans (Wr.bind_some f));have s9:=gi f;have A:=hid (H8.out.call CF CS);clear f V;have c6:=A.out.cC.cell 6 rfl;have f6:=A.out.cC.fr 6;have c7:=A.out.cC.cell 7 rfl;have f7:=A.out.cC.fr 7;have c8:=A.out.cC.cell 8 rfl;have f8:=A.out.cC.fr 8;go_wp2_with fail;clear c6 f6 c7 f7 c8 f8;refine(Ax b r9 _ (((A.out.set 6 (.int .i64 x)).set 7 (.int .i64 y)).set 8 (.int .i64 K)).rd (by omega) E (((A.out.set 6 (.int .i64 x)).set 7 (.int .i64 y)).set 8 (.int .i64 K)).v).mono ?_
 rintro e CY ⟨j,M⟩;cases f:fF aF 20 (dX aF 1000) r9 with
 |none=>
  rw[f]at j;cases j
  exact G.out _ _ rfl (db (((A.out.set 6 (.int .i64 x)).set 7 (.int .i64 y)).set 8 (.int .i64 K)).fr M) (X.out.trans (dW f))
 |some z=>
 obtain⟨cs,CW⟩:=z
 rw[f]at j;obtain⟨vc,rfl,F,CG⟩:=j
 have C3:=hid (X.out.trans (Wr.bind_some f));have CX:=Ap _ _ (st _ _) _ _ _ f;have d:=hid ((((A.out.set 6 (.int .i64 x)).set 7 (.int .i64 y)).set 8 (.int .i64 K)).call M CG);clear f X;have C4:=F;obtain⟨av,lv,cv,rfl⟩:=C4.shape
 have CI:=hid F;have CT:=(((A.out.set 6 (.int .i64 x)).set 7 (.int .i64 y)).set 8 (.int .i64 K)).fr.size;have CU:=d.out.ne;have CJ:=((((A.out.set 6 (.int .i64 x)).set 7 (.int .i64 y)).set 8 (.int .i64 K)).cC).lt;have o:=((((A.out.set 6 (.int .i64 x)).set 7 (.int .i64 y)).set 8 (.int .i64 K)).cR).lt;clear F C4;have y0:=d.out.cC.cell 0 rfl;have y1:=d.out.cC.cell 1 rfl;have y2:=d.out.cC.cell 2 rfl;have y3:=d.out.cC.cell 3 rfl;have y4:=d.out.cC.cell 4 rfl;have y5:=d.out.cC.cell 5 rfl;have y6:=d.out.cC.cell 6 rfl;have y7:=d.out.cC.cell 7 rfl;have y8:=d.out.cC.cell 8 rfl;have y9:=d.out.cC.cell 9 rfl;have z9:=d.out.cC.fr 9;have v0:=d.out.cR.cell 0 rfl;have x0:=d.out.cR.fr 0;have v1:=d.out.cR.cell 1 rfl;have aD:=d.out.cR.fr 1;have v2:=d.out.cR.cell 2 rfl;have x2:=d.out.cR.fr 2;have v3:=d.out.cR.cell 3 rfl;have x3:=d.out.cR.fr 3;have v4:=d.out.cR.cell 4 rfl;have x4:=d.out.cR.fr 4;have v5:=d.out.cR.cell 5 rfl;have x5:=d.out.cR.fr 5;have v6:=d.out.cR.cell 6 rfl;have x6:=d.out.cR.fr 6;have v7:=d.out.cR.cell 7 rfl;have x7:=d.out.cR.fr 7;have v8:=d.out.cR.cell 8 rfl;have x8:=d.out.cR.fr 8;have v9:=d.out.cR.cell 9 rfl;have x9:=d.out.cR.fr 9;have n3: ¬w.heap.size=w.heap.size+1:=by omega
 have n4: ¬w.heap.size+1=w.heap.size:=by omega
 go_wp2_with fail;have I:b≠w.heap.size:=by omega
 have nC:b≠w.heap.size+1:=by omega
 have l1:w.heap.size≤w.heap.size+1:=by omega
 have H:=Nat.le_refl w.heap.size;refine bodyPost_ret (v:= .agg #[.int .i64 k,.string Z,.string tb,.string tc,.string td,.string te,.int .i64 x,.int .i64 y,.int .i64 K,.slice av lv cv]) (by simp[results,results142,go_sem,n3,n4,v0,v1,v2,v3,v4,v5,v6,v7,v8,v9]) rfl ⟨cr.yes (x:=⟨k,Z,tb,tc,td,te,x,y,K,cs⟩) _ C3.out rfl ⟨_,rfl,?_⟩ ?_,?_⟩
 · exact(CI.out.setC CJ _ _|>.setC o _ _|>.setC o _ _|>.setC o _ _|>.setC o _ _|>.setC o _ _|>.setC o _ _|>.setC o _ _|>.setC o _ _|>.setC o _ _|>.setC o _ _).low CT
 · exact(d.out.rd.set' nC _|>.set' I _|>.set' I _|>.set' I _|>.set' I _|>.set' I _|>.set' I _|>.set' I _|>.set' I _|>.set' I _|>.set' I _)
 · exact dB (dB (dB (dB (dB (dB (dB (dB (dB (dB (dB d.out.fr l1 _) H _) H _) H _) H _) H _) H _) H _) H _) H _) H _
end Go.Proofs.YtgamnckfmmbjdaaGreatDoor
