/- The program's reader as mathematics: lists; what a row that was read is in memory; one change. -/
import Derived.Test.YtcmlnelpcjfocaaGreatDoorWYZA
set_option linter.unusedSimpArgs false
set_option linter.unusedVariables false
namespace Go.Proofs.YtcmlnelpcjfocaaGreatDoor
open Go.RowKit Go.Proofs.Tryz
set_option maxHeartbeats 4000000
def ed {α:Type} (p:bk α) (n:Nat) (xs:List α) (l:List UInt8):Option (List α×List UInt8):=match eC p n l with
 |none=>none
 |some (ys,r)=>some (xs++ys,r)
theorem sv {d:Type} (p:bk d) (n:Nat) (l:List UInt8):eC p n l=ed p n [] l:=by
 unfold ed;split<;>simp_all
theorem mI {d:Type} (p:bk d) (xs:List d) (l:List UInt8):ed p 0 xs l=some (xs,l):=by simp[ed,eC,dJ]
theorem mJ {d:Type} {p:bk d} {n:Nat} {xs:List d} {l:List UInt8} (h:p l=none):ed p (n+1) xs l=none:=by simp[ed,eC,aJ,h]
theorem mK {d:Type} {p:bk d} {n:Nat} {xs:List d} {l r:List UInt8} {x:d} (h:p l=some (x,r)):ed p (n+1) xs l=ed p n (xs++[x]) r:=by
 unfold ed;rw[show eC p (n+1) l=aJ p (fun x=>aJ (eC p n) fun xs=>dJ (x::xs)) l from rfl,Wr.bind_some h];cases f:eC p n r with
 |none=>rw[cJ f]
 |some z=>obtain⟨A,y⟩:=z;rw[Wr.bind_some f];simp[dJ]
theorem Wr.lst_none {d:Type} {g:Int→Bool} {m:Int} {p:bk d} {l:List UInt8} (h:cO g m l=none):dr g m p l=none:=cJ h
theorem sw {d:Type} {g:Int→Bool} {m:Int} {p:bk d} {l r:List UInt8} {n:Int} (h:cO g m l=some (n,r)):dr g m p l=ed p n.toNat [] r:=by
 rw[←sv];exact Wr.bind_some h
def eX {α:Type} (p:bk α):Prop:= ∀l x r,p l=some (x,r)→r.length≤l.length
theorem jL (g:Int→Bool):eX (aS g):=fun _ _ _ h=>jd h
theorem ko (g:Int→Bool) (m:Int):eX (bg g m):=fun _ _ _ h=>gF h
theorem xE (g:Int→Bool) (m:Int):eX (cO g m):=fun _ _ _ h=>mA h
theorem lL {d:Type} (x:d):eX (dJ x):=fun l y r h=>by
 simp only[dJ,Option.some.injEq,Prod.mk.injEq]at h;rw[h.2];exact Nat.le_refl _
theorem eJ {d y:Type} {p:bk d} {f:d→bk y} (E:eX p) (A: ∀x,eX (f x)):eX (aJ p f):=fun l z r h=>by
 unfold aJ at h;split at h
 · cases h
 · rename_i x G F
   exact Nat.le_trans (A _ _ _ _ h) (E _ _ _ F)
theorem xF {d:Type} {p:bk d} (f:eX p): ∀n,eX (eC p n)
 |0=>lL _
 |n+1=>eJ f fun _=>eJ (xF f n) fun _=>lL _
theorem lM {d:Type} {p:bk d} (g:Int→Bool) (m:Int) (f:eX p):eX (dr g m p):=eJ (xE g m) fun _=>xF f _
theorem mL (g:Int→Bool):eX (eB g):=eJ (xE g 1) fun _=>lL _
theorem ph (g:Int→Bool) (m:Int):eX (dt g m):=eJ (jL g) fun _=>eJ (ko g m) fun _=>eJ (ko g m) fun _=>eJ (ko g m) fun _=>eJ (jL g) fun _=>lL _
def sy (n:Nat) {α:Type} (V:α→List Value→World→Prop) (z:α×List Value) (W:World):Prop:=V z.1 z.2 W∧z.2.length=n∧ ∀u∈z.2,u.oneCell'=true
def aV (B:Nat) (T:TypeId) (n:Nat) {α:Type} (V:α→List Value→World→Prop) (xs:List α) (v:Value) (W:World):Prop:=
 ∃Z:List (α×List Value),Z.map (·.1)=xs∧W.ownsRow B T n v Z.length (Z.map (·.2)).flatten∧ ∀z∈Z,sy n V z W
theorem mM (B:Nat) (T:TypeId) (n:Nat) {d:Type} (V:d→List Value→World→Prop) (W:World):aV B T n V [] (.slice none 0 0) W:=⟨[],rfl,World.ownsRow_nil _ _ _ _,by simp⟩
theorem EK (b g:Nat) (l:List UInt8) (w:World) (h:Rd b l w) (E:cP w b g) (F:l.length≤cE) (A:5<b) (G:aX w):
    Calls prog 189 #[.pointer (some ⟨g,0,none⟩)] w fun e w'=>bm b (dt ah 1000 l) (fun c v _=>v= .agg #[.int .i64 c.k,.string c.p,.string c.q,.string c.t,.int .i64 c.b]) e w'∧w.grownBy w' (some b):=by
 unfold dt;cases f:aS ah l with
 |none=>exact(EF b g l [] [] [] [] [] 0 0 ⟨#[]⟩ ⟨#[]⟩ ⟨#[]⟩ w h E F A G f).mono fun e w' d=>⟨bm.no (cJ f) d.1,d.2⟩
 |some z1=>
 obtain⟨k,H⟩:=z1
 rw[Wr.bind_some f];cases y:bg ah 1000 H with
 |none=>exact(EG b g l H [] [] [] [] k 0 ⟨#[]⟩ ⟨#[]⟩ ⟨#[]⟩ w h E F A G f y).mono fun e w' d=>⟨bm.no (cJ y) d.1,d.2⟩
 |some z2=>
 obtain⟨p,J⟩:=z2
 rw[Wr.bind_some y];cases z:bg ah 1000 J with
 |none=>exact(EH b g l H J [] [] [] k 0 p ⟨#[]⟩ ⟨#[]⟩ w h E F A G f y z).mono fun e w' d=>⟨bm.no (cJ z) d.1,d.2⟩
 |some z3=>
 obtain⟨q,M⟩:=z3
 rw[Wr.bind_some z];cases I:bg ah 1000 M with
 |none=>exact(EI b g l H J M [] [] k 0 p q ⟨#[]⟩ w h E F A G f y z I).mono fun e w' d=>⟨bm.no (cJ I) d.1,d.2⟩
 |some z4=>
 obtain⟨t,r4⟩:=z4
 rw[Wr.bind_some I];cases K:aS ah r4 with
 |none=>exact(EJ b g l H J M r4 [] k 0 p q t w h E F A G f y z I K).mono fun e w' d=>⟨bm.no (cJ K) d.1,d.2⟩
 |some z5=>
 obtain⟨N,O⟩:=z5
 exact(EE b g l H J M r4 O k N p q t w h E F A G f y z I K).mono fun e w' d=>⟨bm.yes (x:=⟨k,p,q,t,N⟩) _ (Wr.bind_some K) d.1 rfl d.2.1,d.2.2⟩
theorem lN {w w':World} {base:Nat} {e:TypeId} {size:Nat} {v:Value} {n:Nat} {xs:List Value} {g:Nat} (h:w.ownsRow base e size v n xs) (y:w.grownBy w' (some g)) (z:g<base):w'.ownsRow base e size v n xs:=
 h.kept (row:=some g) y (by
  cases f:v.ownBlock with
  |none=>exact Or.inl rfl
  |some q=>exact Or.inr (fun d=>by injection d with d;have:=(h.lt q f).1;omega))
theorem mN {w W d:World} {b:Nat} (h:w.grownBy W (some b)) (k:Below w.heap.size W d):w.grownBy d (some b):=⟨k.os.trans h.os,k.tape.trans h.tape,k.output.trans h.output,Nat.le_trans h.size k.size,fun x f y=>(k.block x f).trans (h.block x f y)⟩
theorem Rd.belowB {b B:Nat} {l:List UInt8} {w w':World} (h:Rd b l w) (hb:Below B w w') (d:b<B):Rd b l w':=(hb.block b d).trans h
theorem cP.belowB {b g B:Nat} {w w':World} (h:cP w b g) (hb:Below B w w') (d:g<B):cP w' b g:=⟨(hb.block g d).trans h.1,h.2⟩
theorem aV.snoc {B:Nat} {T:TypeId} {n:Nat} {d:Type} {V:d→List Value→World→Prop} {Z:List (d×List Value)} {x:d} {r:List Value} {v:Value} {W:World} (y:W.ownsRow B T n v (Z.length+1) ((Z.map (·.2)).flatten++r)) (h: ∀z∈Z,sy n V z W) (A:sy n V (x,r) W):aV B T n V (Z.map (·.1)++[x]) v W:=by
 refine⟨Z++[(x,r)],by simp,by simpa using y,fun z E=>?_⟩
 rcases List.mem_append.1 E with f|f
 · exact h z f
 · rw[List.mem_singleton]at f;rw[f];exact A
theorem EL {w:World} {B B':Nat} {e:TypeId} {size:Nat} {v:Value} {n:Nat} {xs:List Value} (h:w.ownsRow B e size v n xs) (z:B'≤B):w.ownsRow B' e size v n xs:=by
 obtain⟨y,f⟩:=h
 refine⟨y,?_⟩
 rcases f with f|⟨g,d,cur,E,A,r⟩
 · exact .inl f
 · exact .inr ⟨g,d,cur,E,Nat.le_trans z A,r⟩
theorem Tryz.infoW5:(prog.info? 72).map (fun i=>(i.zero,i.size,i.bytes))=some (some (.agg #[.int .i64 0,.string ⟨#[]⟩,.string ⟨#[]⟩,.string ⟨#[]⟩,.int .i64 0]),5,64):=by kernel_rfl
def fI (x:ay) (r:List Value) (_:World):Prop:=r=[.int .i64 x.k,.string x.p,.string x.q,.string x.t,.int .i64 x.b]
theorem EM: ∀d w,(callFunc 189 d).run prog w= .ok (.enter 189 d) w:=enters_of func189 (by kernel_rfl) rfl
structure sA (w:World) (b g:Nat) (x:Value) (xs:List (ay)) (r:List UInt8) (W:World):Prop where
 row:aV w.heap.size 72 5 fI xs x W
 rd:Rd b r W
 box:cP W b g
 v:aX W
 fr:w.grownBy W (some b)
 rl:r.length≤cE
theorem xG (W:World) (x:ay): ∀j u,([.int .i64 x.k,.string x.p,.string x.q,.string x.t,.int .i64 x.b]:List Value)[j]?=some u→(W.alloc (.cells #[.int .i64 x.k,.string x.p,.string x.q,.string x.t,.int .i64 x.b] 72)).cell? ((⟨W.heap.size,0,none⟩:Addr).add j)=some u:=by
 intro j u f;have h:=Cs.new W ([.int .i64 x.k,.string x.p,.string x.q,.string x.t,.int .i64 x.b]) 72;have d:=h.cell j f;rw[Addr.add_lit,Nat.zero_add];exact d
theorem EN (b g:Nat) (l:List UInt8) (w:World) (h:Rd b l w) (hg:cP w b g) (hs:l.length≤cE) (T:5<b) (hv:aX w):
    Calls prog 188 #[.pointer (some ⟨b,0,none⟩),.int .i64 20,.func (.func 189) #[] #[.pointer (some ⟨g,0,none⟩)]] w fun e w'=>bm b (dr ah 20 (dt ah 1000) l) (aV w.heap.size 72 5 fI) e w'∧w.grownBy w' (some b):=by
 have eg:=EM;cases E:cO ah 20 l with
 |none=>
  have HK:=hid (nQ h hs T hv E);have H:=hid (Wr.lst_none (p:=dt ah 1000) E);clear h hv E hg;go_enter func188,ntmps188
  go_wp2_with fail;refine HK.out.mono ?_
  rintro e w1 ⟨rfl,f⟩;exact di rfl ⟨bm.no H.out rfl,f⟩
 |some z=>
 obtain⟨n,r1⟩:=z
 obtain⟨_,n0,n1⟩:=mz E
 obtain⟨N,rfl⟩: ∃k:Nat,n=k:=⟨n.toNat,by omega⟩
 have HK:=hid (mB h hs T hv E);have H:=hid (sw (p:=dt ah 1000) E);rw[show((N:Int).toNat)=N from rfl]at H;have IE:=mA E;obtain⟨aZ,Iz,IA,IB,IC⟩:=info_parts Tryz.infoW5
 have V:=h.lt;have Iy:=cM hg.1;have HS:=hid (ph _ _:eX (dt ah 1000));have HG:=hid hg;have S:=hid hv;clear h hv E hg;go_enter func188,ntmps188
 go_wp2_with fail;refine HK.out.mono ?_
 rintro e w1 ⟨rfl,I0,f⟩;have HR:=hid (show sA w b g (.slice none 0 0) [] r1 w1 from⟨mM _ _ _ _ _,I0,HG.out.nb f,S.out.nb T (by omega) f,f,by omega⟩);clear HK I0 f HG S;go_wp2_with fail;go_loopw [7,11] (fun x i wr=> ∃(k:Nat) (xs:List (ay)) (r:List UInt8),k≤N∧i= .int .i64 k∧Hid (sA w b g x xs r wr)∧Hid (dr ah 20 (dt ah 1000) l=ed (dt ah 1000) (N-k) xs r)∧xs.length=k) (fun _ i _=>N-(intOf i).toNat)
 case atStart=>exact⟨0,[],r1,Nat.zero_le _,rfl,HR,H,rfl⟩
 case round=>
  obtain⟨k,xs,r,hk,rfl,d,O,I7⟩:=hrel
  by_cases IG:k<N
  · have Q:=hid (EK b g r wr d.out.rd d.out.box d.out.rl T d.out.v)
    obtain⟨m,hm⟩: ∃m,N-k=m+1:=⟨N-k-1,by omega⟩
    cases M:(dt ah 1000) r with
    |none=>
     have HF:=hid (mJ (n:=m) (xs:=xs) M);rw[hm]at O;rw[M]at Q;clear M H HR hm;go_wp2_with fail;refine Q.out.mono ?_
     rintro e P ⟨he,y⟩;cases he
     exact(show bodyPost prog Tryz.f188 (fun e w'=>bm b (dr ah 20 (dt ah 1000) l) (aV w.heap.size 72 5 fI) e w'∧w.grownBy w' (some b)) (.panic _) _ P from di rfl ⟨bm.no (O.out.trans HF.out) rfl,aG d.out.fr y⟩)
    |some z=>
     obtain⟨x,r'⟩:=z
     have HF:=hid (mK (n:=m) (xs:=xs) M);rw[hm]at O;have IF:=HS.out _ _ _ M;rw[M]at Q;have IH:=d.out.rl;clear M H HR;obtain⟨Z,J,U,K⟩:=d.out.row
     have Ix:Z.length=k:=by rw[←I7,←J,List.length_map]
     go_wp2_with fail;refine Q.out.mono ?_
     rintro e P ⟨⟨v2,rfl,rfl,I5⟩,y⟩;have F:=aG d.out.fr y;have I:=lN U y V;have I6:=F.size;have I8:=hid (d.out.box.nb y);have Iw:=hid (d.out.v.nb T (by have:=d.out.rd.lt;omega) y);have Iv:=hid I5;have ID:=d.out.box;have II:=d.out.fr.size;clear I5 Q;go_wp2_with (at_builtin;refine wpList_append_own _ rfl _ _ 45 rfl w.heap.size 72 aZ (.agg #[.int .i64 0,.string ⟨#[]⟩,.string ⟨#[]⟩,.string ⟨#[]⟩,.int .i64 0]) 5 64 underlying45 Iz IA IB IC rfl (by decide) _ _ _ rfl (I.alloc _) ⟨P.heap.size,0,none⟩ 1 1 ([.int .i64 x.k,.string x.p,.string x.q,.string x.t,.int .i64 x.b]) rfl rfl (xG P x) (by simp[Value.oneCell']) (by unfold maxLen;omega) (by omega) (by simp;omega) ?_)
     intro v5 w5 Y G X;have A:Below w.heap.size P w5:=((Below.refl _ P).alloc I6 _).grown G (by simp;omega) (fun q hq=>(I.lt q hq).1);have I9:=hid (show sA w b g v5 (xs++[x]) r' w5 from⟨by rw[←J];exact aV.snoc (r:=[.int .i64 x.k,.string x.p,.string x.q,.string x.t,.int .i64 x.b]) (by rw[Ix];exact Y) (fun z hz=>⟨(K z hz).1,(K z hz).2⟩) ⟨rfl,rfl,by simp[Value.oneCell']⟩,Iv.out.belowB A V,I8.out.belowB A Iy,Iw.out.belowB (by omega) A,mN F A,by omega⟩);clear Y G X I J U K A;go_wp2_with fail;go_roundw
     case rel=>exact⟨k+1,xs++[x],r',by omega,by simp,I9,hid (by rw[O.out,HF.out,show N-(k+1)=m from by omega]),by simp[I7]⟩
     case measure=>simp[intOf];omega
  · obtain rfl:k=N:=by omega
    rw[Nat.sub_self,mI]at O;clear H HR;go_wp2_with fail;go_ret;exact⟨bm.yes _ O.out rfl d.out.row d.out.rd,d.out.fr⟩
theorem aV.low {B B':Nat} {T:TypeId} {n:Nat} {d:Type} {V:d→List Value→World→Prop} {xs:List d} {v:Value} {W:World} (h:aV B T n V xs v W) (A:B'≤B):aV B' T n V xs v W:=by
 obtain⟨Z,f,y,z⟩:=h
 exact⟨Z,f,EL y A,z⟩
theorem bm.map {d:Type} {b:Nat} {f:Option (d×List UInt8)} {V V':d→Value→World→Prop} {e:Ending} {w':World} (h:bm b f V e w') (F: ∀x v,V x v w'→V' x v w'):bm b f V' e w':=by
 cases f with
 |none=>exact h
 |some z=>obtain⟨v,y,A,E⟩:=h;exact⟨v,y,F _ _ A,E⟩
theorem xH (b:Nat) (l:List UInt8) (w:World) (h:Rd b l w) (Y:l.length≤cE) (U:5<b) (Q:aX w):
    Calls prog 146 #[.pointer (some ⟨b,0,none⟩)] w fun e w'=>bm b (dr ah 20 (dt ah 1000) l) (aV w.heap.size 72 5 fI) e w'∧w.grownBy w' (some b):=by
 have X: ∀(O:Fn) (first cap:Array Value) (w:World),(Instr.makeFunc O first cap).run prog w= .ok (.func O first cap) w:=fun _ _ _ _=>rfl
 have V:=h.lt;obtain⟨G,d⟩: ∃G,G=w.alloc (.cells #[.pointer (some ⟨b,0,none⟩)] 214):=⟨_,rfl⟩
 have f:Below w.heap.size w G:=by rw[d];exact bO _ _
 have E:cP G b w.heap.size:=⟨by rw[d];exact heap_alloc_new w _,by omega⟩
 have K:=f.size;have N:=hid (EN b w.heap.size l G (h.below f) E Y U (Q.belowB (by omega) f));have M:=hid (gi b f);rw[d]at N;have I:=hid d;clear d E Q h;go_enter func146,ntmps146
 go_wp2_with fail;refine N.out.mono ?_
 rintro e w2 ⟨J,A⟩;rw[←I.out]at A J;have y:=J.map (V':=aV w.heap.size 72 5 fI) (fun x v Z=>Z.low K);cases H:dr ah 20 (dt ah 1000) l with
 |none=>
  rw[H]at y;cases y
  exact di rfl ⟨bm.no H rfl,aG M.out A⟩
 |some z=>
  obtain⟨cs,r⟩:=z
  rw[H]at y;obtain⟨v,rfl,P,F⟩:=y
  have T:=hid P;have S:=hid F;clear P F J;go_wp2_with fail;go_ret;exact⟨bm.yes v H rfl T.out S.out,aG M.out A⟩
theorem kp {b:Nat} {l:List UInt8} {w:World} (h:Rd b l w) (A:l.length≤cE) (f:5<b) (E:aX w):
    Calls prog 141 #[.pointer (some ⟨b,0,none⟩)] w fun e w'=>bm b (aS ah l) (fun n v _=>v= .int .i64 n) e w'∧w.grownBy w' (some b):=by
 cases y:aS ah l with
 |none=>exact(oZ h A f E y).mono fun e w' d=>⟨d.1,d.2⟩
 |some z=>exact(kj h A f E y).mono fun e w' d=>⟨⟨_,d.1,rfl,d.2.1⟩,d.2.2⟩
theorem kZ {b:Nat} {l:List UInt8} {w:World} (h:Rd b l w) (A:l.length≤cE) (f:5<b) (E:aX w):
    Calls prog 145 #[.pointer (some ⟨b,0,none⟩)] w fun e w'=>bm b (bg ah 1000 l) (fun x v _=>v= .string x) e w'∧w.grownBy w' (some b):=by
 cases y:bg ah 1000 l with
 |none=>exact(pa h A f E y).mono fun e w' d=>⟨d.1,d.2⟩
 |some z=>exact(gX h A f E y).mono fun e w' d=>⟨⟨_,d.1,rfl,d.2.1⟩,d.2.2⟩
structure R4 (w:World) (b C R:Nat) (l:List UInt8) (cs zs:List Value) (W:World):Prop where
 rd:Rd b l W
 v:aX W
 cC:Cs W C cs
 cR:Cs W R zs
 fr:w.grownBy W (some b)
 bl:b<w.heap.size
 Cl:w.heap.size≤C
 Rl:w.heap.size≤R
 ne:C≠R
 b6:5<b
theorem R4.call {w W f:World} {b C R:Nat} {l r:List UInt8} {cs zs:List Value} (h:R4 w b C R l cs zs W) (d:W.grownBy f (some b)) (y:Rd b r f):R4 w b C R r cs zs f:=
 ⟨y,h.v.nb h.b6 (by have:=h.rd.lt;have:=h.b6;omega) d,h.cC.nb d (by have:=h.bl;have:=h.Cl;omega),h.cR.nb d (by have:=h.bl;have:=h.Rl;omega),aG h.fr d,h.bl,h.Cl,h.Rl,h.ne,h.b6⟩
theorem R4.set {w W:World} {b C R:Nat} {l:List UInt8} {cs zs:List Value} (h:R4 w b C R l cs zs W) (i:Nat) (v:Value):R4 w b C R l (cs.set i v) zs (W.setCell ⟨C,i,none⟩ v):=by
 have hb:=h.bl;have f:=h.Cl;have d:=ar W C i v;exact⟨h.rd.nb d (by omega),h.v.nb (by have:=h.b6;omega) (by have:=h.rd.lt;have:=h.b6;omega) d,h.cC.set i v,h.cR.nb d h.ne.symm,bU h.fr h.Cl v,h.bl,h.Cl,h.Rl,h.ne,h.b6⟩
theorem R4.drew {w W:World} {b C R:Nat} {l:List UInt8} {cs zs:List Value} (h:R4 w b C R l cs zs W):R4 w b C R l cs zs W.drew:=
 h.call (gi b (Below.refl _ _).drew) h.rd
theorem sB {w:World} {b:Nat} {l:List UInt8} (cs zs:List Value) (T U:TypeId) (h:Rd b l w) (F:5<b) (G:aX w):R4 w b (w.heap.size+1) w.heap.size l cs zs ((w.alloc (.cells zs.toArray T)).alloc (.cells cs.toArray U)):=by
 have E:=h.lt;obtain⟨y,d⟩: ∃y,y=w.alloc (.cells zs.toArray T):=⟨_,rfl⟩
 rw[←d];have H:y.heap.size=w.heap.size+1:=by rw[d];simp
 have A:Below w.heap.size w y:=by rw[d];exact bO _ _
 have z:=bO y (.cells cs.toArray U);have f:=A.trans (z.mono (by omega));refine⟨h.below f,G.belowB (by omega) f,?_,?_,gi b f,E,by omega,Nat.le_refl _,by omega,F⟩
 · rw[←H];exact Cs.new y cs _
 · exact Cs.belowAt (show Cs y w.heap.size zs by rw[d];exact Cs.new w zs _) z (by omega)
theorem aV.shape {B:Nat} {T:TypeId} {n:Nat} {d:Type} {V:d→List Value→World→Prop} {xs:List d} {v:Value} {W:World} (h:aV B T n V xs v W): ∃a l c,v= .slice a l c:=by
 obtain⟨Z,_,⟨_,y⟩,_⟩:=h
 rcases y with⟨rfl,_⟩|⟨g,f,cur,rfl,_⟩
 · exact⟨_,_,_,rfl⟩
 · exact⟨_,_,_,rfl⟩
theorem aV.nb {B:Nat} {T:TypeId} {n:Nat} {d:Type} {V:d→List Value→World→Prop} {xs:List d} {v:Value} {W f:World} {g:Nat} (h:aV B T n V xs v W) (I:W.grownBy f (some g)) (H:g<B) (G: ∀x r,V x r W→V x r f):aV B T n V xs v f:=by
 obtain⟨Z,E,F,y⟩:=h
 exact⟨Z,E,lN F I H,fun z A=>⟨G _ _ (y z A).1,(y z A).2⟩⟩
theorem aV.setC {B:Nat} {T:TypeId} {n:Nat} {xs:List ay} {v:Value} {W:World} (h:aV B T n fI xs v W) {g:Nat} (d:g<B) (i:Nat) (u:Value):aV B T n fI xs v (W.setCell ⟨g,i,none⟩ u):=h.nb (ar W g i u) d (fun _ _ h=>h)
def dK (g:Int→Bool) (m:Int):bk Rq:=aJ (aS g) fun k=>aJ (bg g m) fun a=>aJ (bg g m) fun b=>aJ (bg g m) fun c=>aJ (bg g m) fun d=>aJ (bg g m) fun e=>aJ (aS g) fun x=>aJ (aS g) fun y=>aJ (aS g) fun z=>aJ (dr g 20 (dt g m)) fun cs=>dJ ⟨k,a,b,c,d,e,x,y,z,cs⟩
abbrev du:List Value:=[.int .i64 0,.string ⟨#[]⟩,.string ⟨#[]⟩,.string ⟨#[]⟩,.string ⟨#[]⟩,.string ⟨#[]⟩,.int .i64 0,.int .i64 0,.int .i64 0,.slice none 0 0]
def gG (B:Nat) (q:Rq) (v:Value) (W:World):Prop:= ∃vc,v= .agg #[.int .i64 q.kind,.string q.who,.string q.fo,.string q.name,.string q.key,.string q.text,.int .i64 q.num,.int .i64 q.off,.int .i64 q.base,vc]∧aV B 72 5 fI q.ch vc W
theorem EO (b:Nat) (l:List UInt8) (w:World) (h:Rd b l w) (hs:l.length≤cE) (H:5<b) (hv:aX w):
    Calls prog 144 #[.pointer (some ⟨b,0,none⟩)] w fun e w'=>bm b (dK ah 1000 l) (gG w.heap.size) e w'∧w.grownBy w' (some b):=by
 have N:=hid (show dK ah 1000 l=dK ah 1000 l from rfl);conv at N=>arg 1;rhs;unfold dK
 generalize hP:dK ah 1000 l=IC at*;clear hP;have H0:=hid (sB du du 61 61 h H hv);have IR:=h.lt;have J:=hid (show∀(a:Act) (W:World),a.defers=[]→w.grownBy W (some b)→IC=none→bodyPost prog Tryz.f144 (fun e w'=>bm b IC (gG w.heap.size) e w'∧w.grownBy w' (some b)) (.panic [{v:= .iface 33 (.int .i64 1),recovered:=false}]) a W from fun a W hd hw hr=>di hd ⟨bm.no hr rfl,hw⟩);clear hv h;go_enter func144,ntmps144
 go_wp2_with fail;refine(kp H0.out.rd (by omega) H H0.out.v).mono ?_
 rintro e w1 ⟨A,I7⟩;cases f:aS ah l with
 |none=>
  rw[f]at A;cases A
  exact J.out _ _ rfl (aG H0.out.fr I7) (N.out.trans (cJ f))
 |some z=>
 obtain⟨k,r1⟩:=z
 rw[f]at A;obtain⟨_,rfl,rfl,IF⟩:=A
 have Q:=hid (N.out.trans (Wr.bind_some f));have s1:=jd f;have H1:=hid (H0.out.call I7 IF);clear f N;have c0:=H1.out.cC.cell 0 rfl;have f0:=H1.out.cC.fr 0;go_wp2_with fail;clear c0 f0;refine(kZ (H1.out.set 0 (.int .i64 k)).rd (by omega) H (H1.out.set 0 (.int .i64 k)).v).mono ?_
 rintro e w2 ⟨A,I8⟩;cases f:bg ah 1000 r1 with
 |none=>
  rw[f]at A;cases A
  exact J.out _ _ rfl (aG (H1.out.set 0 (.int .i64 k)).fr I8) (Q.out.trans (cJ f))
 |some z=>
 obtain⟨ta,r2⟩:=z
 rw[f]at A;obtain⟨_,rfl,rfl,IG⟩:=A
 have S:=hid (Q.out.trans (Wr.bind_some f));have s2:=gF f;have H2:=hid ((H1.out.set 0 (.int .i64 k)).call I8 IG);clear f Q;go_wp2_with fail;refine(kZ H2.out.rd (by omega) H H2.out.v).mono ?_
 rintro e w3 ⟨A,I9⟩;cases f:bg ah 1000 r2 with
 |none=>
  rw[f]at A;cases A
  exact J.out _ _ rfl (aG H2.out.fr I9) (S.out.trans (cJ f))
 |some z=>
 obtain⟨tb,r3⟩:=z
 rw[f]at A;obtain⟨_,rfl,rfl,IH⟩:=A
 have T:=hid (S.out.trans (Wr.bind_some f));have s3:=gF f;have H3:=hid (H2.out.call I9 IH);clear f S;go_wp2_with fail;refine(kZ H3.out.rd (by omega) H H3.out.v).mono ?_
 rintro e w4 ⟨A,Iv⟩;cases f:bg ah 1000 r3 with
 |none=>
  rw[f]at A;cases A
  exact J.out _ _ rfl (aG H3.out.fr Iv) (T.out.trans (cJ f))
 |some z=>
 obtain⟨tc,r4⟩:=z
 rw[f]at A;obtain⟨_,rfl,rfl,II⟩:=A
 have U:=hid (T.out.trans (Wr.bind_some f));have s4:=gF f;have H4:=hid (H3.out.call Iv II);clear f T;go_wp2_with fail;refine(kZ H4.out.rd (by omega) H H4.out.v).mono ?_
 rintro e w5 ⟨A,Iw⟩;cases f:bg ah 1000 r4 with
 |none=>
  rw[f]at A;cases A
  exact J.out _ _ rfl (aG H4.out.fr Iw) (U.out.trans (cJ f))
 |some z=>
 obtain⟨td,r5⟩:=z
 rw[f]at A;obtain⟨_,rfl,rfl,IJ⟩:=A
 have V:=hid (U.out.trans (Wr.bind_some f));have s5:=gF f;have H5:=hid (H4.out.call Iw IJ);clear f U;go_wp2_with fail;refine(kZ H5.out.rd (by omega) H H5.out.v).mono ?_
 rintro e w6 ⟨A,Ix⟩;cases f:bg ah 1000 r5 with
 |none=>
  rw[f]at A;cases A
  exact J.out _ _ rfl (aG H5.out.fr Ix) (V.out.trans (cJ f))
 |some z=>
 obtain⟨te,r6⟩:=z
 rw[f]at A;obtain⟨_,rfl,rfl,IK⟩:=A
 have X:=hid (V.out.trans (Wr.bind_some f));have s6:=gF f;have F:=hid (H5.out.call Ix IK);clear f V;have c1:=F.out.cC.cell 1 rfl;have f1:=F.out.cC.fr 1;have c2:=F.out.cC.cell 2 rfl;have f2:=F.out.cC.fr 2;have c3:=F.out.cC.cell 3 rfl;have f3:=F.out.cC.fr 3;have c4:=F.out.cC.cell 4 rfl;have f4:=F.out.cC.fr 4;have c5:=F.out.cC.cell 5 rfl;have f5:=F.out.cC.fr 5;go_wp2_with fail;clear c1 f1 c2 f2 c3 f3 c4 f4 c5 f5;refine(kp (((((F.out.set 1 (.string ta)).set 2 (.string tb)).set 3 (.string tc)).set 4 (.string td)).set 5 (.string te)).rd (by omega) H (((((F.out.set 1 (.string ta)).set 2 (.string tb)).set 3 (.string tc)).set 4 (.string td)).set 5 (.string te)).v).mono ?_
 rintro e w7 ⟨A,Iy⟩;cases f:aS ah r6 with
 |none=>
  rw[f]at A;cases A
  exact J.out _ _ rfl (aG (((((F.out.set 1 (.string ta)).set 2 (.string tb)).set 3 (.string tc)).set 4 (.string td)).set 5 (.string te)).fr Iy) (X.out.trans (cJ f))
 |some z=>
 obtain⟨x,r7⟩:=z
 rw[f]at A;obtain⟨_,rfl,rfl,IL⟩:=A
 have Y:=hid (X.out.trans (Wr.bind_some f));have s7:=jd f;have H7:=hid ((((((F.out.set 1 (.string ta)).set 2 (.string tb)).set 3 (.string tc)).set 4 (.string td)).set 5 (.string te)).call Iy IL);clear f X;go_wp2_with fail;refine(kp H7.out.rd (by omega) H H7.out.v).mono ?_
 rintro e w8 ⟨A,Iz⟩;cases f:aS ah r7 with
 |none=>
  rw[f]at A;cases A
  exact J.out _ _ rfl (aG H7.out.fr Iz) (Y.out.trans (cJ f))
 |some z=>
 obtain⟨y,r8⟩:=z
 rw[f]at A;obtain⟨_,rfl,rfl,IM⟩:=A
 have Z:=hid (Y.out.trans (Wr.bind_some f));have s8:=jd f;have H8:=hid (H7.out.call Iz IM);clear f Y;go_wp2_with fail;refine(kp H8.out.rd (by omega) H H8.out.v).mono ?_
 rintro e w9 ⟨A,IA⟩;cases f:aS ah r8 with
 |none=>
  rw[f]at A;cases A
  exact J.out _ _ rfl (aG H8.out.fr IA) (Z.out.trans (cJ f))
 |some z=>
 obtain⟨O,r9⟩:=z
 rw[f]at A;obtain⟨_,rfl,rfl,IN⟩:=A
 have I0:=hid (Z.out.trans (Wr.bind_some f));have s9:=jd f;have G:=hid (H8.out.call IA IN);clear f Z;have c6:=G.out.cC.cell 6 rfl;have f6:=G.out.cC.fr 6;have c7:=G.out.cC.cell 7 rfl;have f7:=G.out.cC.fr 7;have c8:=G.out.cC.cell 8 rfl;have f8:=G.out.cC.fr 8;go_wp2_with fail;clear c6 f6 c7 f7 c8 f8;refine(xH b r9 _ (((G.out.set 6 (.int .i64 x)).set 7 (.int .i64 y)).set 8 (.int .i64 O)).rd (by omega) H (((G.out.set 6 (.int .i64 x)).set 7 (.int .i64 y)).set 8 (.int .i64 O)).v).mono ?_
 rintro e IU ⟨A,P⟩;cases f:dr ah 20 (dt ah 1000) r9 with
 |none=>
  rw[f]at A;cases A
  exact J.out _ _ rfl (aG (((G.out.set 6 (.int .i64 x)).set 7 (.int .i64 y)).set 8 (.int .i64 O)).fr P) (I0.out.trans (cJ f))
 |some z=>
 obtain⟨cs,IS⟩:=z
 rw[f]at A;obtain⟨vc,rfl,I,IB⟩:=A
 have I5:=hid (I0.out.trans (Wr.bind_some f));have IT:=lM _ _ (ph _ _) _ _ _ f;have d:=hid ((((G.out.set 6 (.int .i64 x)).set 7 (.int .i64 y)).set 8 (.int .i64 O)).call P IB);clear f I0;have I6:=I;obtain⟨av,lv,cv,rfl⟩:=I6.shape
 have ID:=hid I;have IP:=(((G.out.set 6 (.int .i64 x)).set 7 (.int .i64 y)).set 8 (.int .i64 O)).fr.size;have IQ:=d.out.ne;have IE:=((((G.out.set 6 (.int .i64 x)).set 7 (.int .i64 y)).set 8 (.int .i64 O)).cC).lt;have E:=((((G.out.set 6 (.int .i64 x)).set 7 (.int .i64 y)).set 8 (.int .i64 O)).cR).lt;clear I I6;have y0:=d.out.cC.cell 0 rfl;have y1:=d.out.cC.cell 1 rfl;have al:=d.out.cC.cell 2 rfl;have y3:=d.out.cC.cell 3 rfl;have y4:=d.out.cC.cell 4 rfl;have y5:=d.out.cC.cell 5 rfl;have y6:=d.out.cC.cell 6 rfl;have y7:=d.out.cC.cell 7 rfl;have y8:=d.out.cC.cell 8 rfl;have y9:=d.out.cC.cell 9 rfl;have z9:=d.out.cC.fr 9;have v0:=d.out.cR.cell 0 rfl;have x0:=d.out.cR.fr 0;have v1:=d.out.cR.cell 1 rfl;have x1:=d.out.cR.fr 1;have v2:=d.out.cR.cell 2 rfl;have aY:=d.out.cR.fr 2;have v3:=d.out.cR.cell 3 rfl;have x3:=d.out.cR.fr 3;have v4:=d.out.cR.cell 4 rfl;have x4:=d.out.cR.fr 4;have v5:=d.out.cR.cell 5 rfl;have x5:=d.out.cR.fr 5;have v6:=d.out.cR.cell 6 rfl;have x6:=d.out.cR.fr 6;have v7:=d.out.cR.cell 7 rfl;have x7:=d.out.cR.fr 7;have v8:=d.out.cR.cell 8 rfl;have x8:=d.out.cR.fr 8;have v9:=d.out.cR.cell 9 rfl;have x9:=d.out.cR.fr 9;have n3: ¬w.heap.size=w.heap.size+1:=by omega
 have n4: ¬w.heap.size+1=w.heap.size:=by omega
 go_wp2_with fail;have M:b≠w.heap.size:=by omega
 have nC:b≠w.heap.size+1:=by omega
 have l1:w.heap.size≤w.heap.size+1:=by omega
 have K:=Nat.le_refl w.heap.size;refine bodyPost_ret (v:= .agg #[.int .i64 k,.string ta,.string tb,.string tc,.string td,.string te,.int .i64 x,.int .i64 y,.int .i64 O,.slice av lv cv]) (by simp[results,results144,go_sem,n3,n4,v0,v1,v2,v3,v4,v5,v6,v7,v8,v9]) rfl ⟨bm.yes (x:=⟨k,ta,tb,tc,td,te,x,y,O,cs⟩) _ I5.out rfl ⟨_,rfl,?_⟩ ?_,?_⟩
 · exact(ID.out.setC IE _ _|>.setC E _ _|>.setC E _ _|>.setC E _ _|>.setC E _ _|>.setC E _ _|>.setC E _ _|>.setC E _ _|>.setC E _ _|>.setC E _ _|>.setC E _ _).low IP
 · exact(d.out.rd.set' nC _|>.set' M _|>.set' M _|>.set' M _|>.set' M _|>.set' M _|>.set' M _|>.set' M _|>.set' M _|>.set' M _|>.set' M _)
 · exact bU (bU (bU (bU (bU (bU (bU (bU (bU (bU (bU d.out.fr l1 _) K _) K _) K _) K _) K _) K _) K _) K _) K _) K _
end Go.Proofs.YtcmlnelpcjfocaaGreatDoor
