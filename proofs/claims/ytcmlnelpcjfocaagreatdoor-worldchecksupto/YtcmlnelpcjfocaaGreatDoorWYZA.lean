/- The program's reader: changes. -/
import Derived.Test.YtcmlnelpcjfocaaGreatDoorWYV
import Derived.Test.YtcmlnelpcjfocaaGreatDoorWYX
import Derived.Deep.CutRange
set_option linter.unusedSimpArgs false
set_option linter.unusedVariables false
namespace Go.Proofs.YtcmlnelpcjfocaaGreatDoor
open Go.RowKit Go.Proofs.Tryz
set_option maxHeartbeats 4000000
def dt (g:Int→Bool) (m:Int):bk ay:=aJ (aS g) fun k=>aJ (bg g m) fun p=>aJ (bg g m) fun q=>aJ (bg g m) fun t=>aJ (aS g) fun b=>dJ ⟨k,p,q,t,b⟩
def bm {α:Type} (b:Nat) (res:Option (α×List UInt8)) (V:α→Value→World→Prop) (e:Ending) (w':World):Prop:=match res with
 |none=>gh e
 |some (x,r)=> ∃v,e= .returned v∧V x v w'∧Rd b r w'
theorem bm.no {d:Type} {b:Nat} {f:Option (d×List UInt8)} {V:d→Value→World→Prop} {e:Ending} {w':World} (h:f=none) (y:gh e):bm b f V e w':=by rw[h];exact y
theorem bm.yes {d:Type} {b:Nat} {f:Option (d×List UInt8)} {V:d→Value→World→Prop} {e:Ending} {w':World} {x:d} {r:List UInt8} (v:Value) (h:f=some (x,r)) (z:e= .returned v) (y:V x v w') (A:Rd b r w'):bm b f V e w':=by rw[h];exact⟨v,z,y,A⟩
def cP (w:World) (b g:Nat):Prop:=w.heap[g]?=some (.cells #[.pointer (some ⟨b,0,none⟩)] 214 (0,0))∧g≠b
theorem cP.nb {b g:Nat} {w w':World} (h:cP w b g) (d:w.grownBy w' (some b)):cP w' b g:=⟨(d.block g (cM h.1) (fun e=>h.2 (by injection e))).trans h.1,h.2⟩
theorem cP.below {b g:Nat} {w w':World} (h:cP w b g) (d:Below w.heap.size w w'):cP w' b g:=⟨(d.block g (cM h.1)).trans h.1,h.2⟩
theorem cP.cell {b g:Nat} {w:World} (h:cP w b g):w.cell? ⟨g,0,none⟩=some (.pointer (some ⟨b,0,none⟩)):=by rw[Lib.cell_of_heap h.1];rfl
theorem Rd.nb {b f:Nat} {l:List UInt8} {w w':World} (h:Rd b l w) (y:w.grownBy w' (some f)) (d:b≠f):Rd b l w':=(y.block b h.lt (fun e=>d (by injection e))).trans h
theorem cP.nb' {b g c:Nat} {w w':World} (h:cP w b g) (f:w.grownBy w' (some c)) (d:g≠c):cP w' b g:=⟨(f.block g (cM h.1) (fun e=>d (by injection e))).trans h.1,h.2⟩
abbrev mG:List Value:=[.int .i64 0,.string ⟨#[]⟩,.string ⟨#[]⟩,.string ⟨#[]⟩,.int .i64 0]
theorem Rd.set' {b c i:Nat} {l:List UInt8} {w:World} (h:Rd b l w) (d:b≠c) (v:Value):Rd b l (w.setCell ⟨c,i,none⟩ v):=h.nb (ar w c i v) d
structure R3 (w:World) (b g C R:Nat) (l:List UInt8) (cs:List Value) (W:World):Prop where
 rd:Rd b l W
 box:cP W b g
 v:aX W
 cC:Cs W C cs
 cR:Cs W R mG
 fr:w.grownBy W (some b)
 bl:b<w.heap.size
 gl:g<w.heap.size
 Cl:w.heap.size≤C
 Rl:w.heap.size≤R
 ne:C≠R
 b6:5<b
theorem R3.call {w W f:World} {b g C R:Nat} {l r:List UInt8} {cs:List Value} (h:R3 w b g C R l cs W) (d:W.grownBy f (some b)) (y:Rd b r f):R3 w b g C R r cs f:=
 ⟨y,h.box.nb d,h.v.nb h.b6 (by have:=h.rd.lt;have:=h.b6;omega) d,h.cC.nb d (by have:=h.bl;have:=h.Cl;omega),h.cR.nb d (by have:=h.bl;have:=h.Rl;omega),aG h.fr d,h.bl,h.gl,h.Cl,h.Rl,h.ne,h.b6⟩
theorem bU {w W:World} {b c i:Nat} (h:w.grownBy W (some b)) (y:w.heap.size≤c) (v:Value):w.grownBy (W.setCell ⟨c,i,none⟩ v) (some b):=
 ⟨h.os,h.tape,h.output,by simpa using h.size,fun k f d=>(Below.heap_setCell W _ v k (fun e=>by simp at e;omega)).trans (h.block k f d)⟩
theorem R3.set {w W:World} {b g C R:Nat} {l:List UInt8} {cs:List Value} (h:R3 w b g C R l cs W) (i:Nat) (v:Value):R3 w b g C R l (cs.set i v) (W.setCell ⟨C,i,none⟩ v):=by
 have hb:=h.bl;have y:=h.gl;have f:=h.Cl;have d:=ar W C i v;exact⟨h.rd.nb d (by omega),h.box.nb' d (by omega),h.v.nb (by have:=h.b6;omega) (by have:=h.rd.lt;have:=h.b6;omega) d,h.cC.set i v,h.cR.nb d h.ne.symm,bU h.fr h.Cl v,h.bl,h.gl,h.Cl,h.Rl,h.ne,h.b6⟩
theorem R3.drew {w W:World} {b g C R:Nat} {l:List UInt8} {cs:List Value} (h:R3 w b g C R l cs W):R3 w b g C R l cs W.drew:=
 h.call (gi b (Below.refl _ _).drew) h.rd
theorem mH {w:World} {b g:Nat} {l:List UInt8} (h:Rd b l w) (F:cP w b g) (G:5<b) (H:aX w):R3 w b g (w.heap.size+1) w.heap.size l mG ((w.alloc (.cells #[.int .i64 0,.string ⟨#[]⟩,.string ⟨#[]⟩,.string ⟨#[]⟩,.int .i64 0] 72)).alloc (.cells #[.int .i64 0,.string ⟨#[]⟩,.string ⟨#[]⟩,.string ⟨#[]⟩,.int .i64 0] 72)):=by
 have E:=h.lt;obtain⟨y,f⟩: ∃y,y=w.alloc (.cells #[.int .i64 0,.string ⟨#[]⟩,.string ⟨#[]⟩,.string ⟨#[]⟩,.int .i64 0] 72):=⟨_,rfl⟩
 rw[←f];have I:y.heap.size=w.heap.size+1:=by rw[f];simp
 have A:Below w.heap.size w y:=by rw[f];exact bO _ _
 have z:=bO y (.cells #[.int .i64 0,.string ⟨#[]⟩,.string ⟨#[]⟩,.string ⟨#[]⟩,.int .i64 0] 72);have d:=A.trans (z.mono (by omega));refine⟨h.below d,F.below d,H.belowB (by omega) d,?_,?_,gi b d,E,cM F.1,by omega,Nat.le_refl _,by omega,G⟩
 · rw[←I];exact Cs.new y mG _
 · exact Cs.belowAt (show Cs y w.heap.size mG by rw[f];exact Cs.new w mG _) z (by omega)
theorem EE (b g:Nat) (l r1 r2 r3 r4 r5:List UInt8) (k cb:Int) (p q t:ByteArray) (w:World) (h:Rd b l w) (hg:cP w b g) (hs:l.length≤cE) (H:5<b) (hv:aX w)
    (h1:aS ah l=some (k,r1)) (h2:bg ah 1000 r1=some (p,r2)) (h3:bg ah 1000 r2=some (q,r3)) (h4:bg ah 1000 r3=some (t,r4)) (h5:aS ah r4=some (cb,r5)):
    Calls prog 189 #[.pointer (some ⟨g,0,none⟩)] w fun e w'=>e= .returned (.agg #[.int .i64 k,.string p,.string q,.string t,.int .i64 cb])∧Rd b r5 w'∧w.grownBy w' (some b):=by
 have s1:=jd h1;have s2:=gF h2;have s3:=gF h3;have s4:=gF h4;have Iw:=cM hg.1;have K:=hid (mH h hg H hv);have g0:=K.out.box.cell;have HK:=hid (kj K.out.rd hs H K.out.v h1);clear hv h hg;go_enter func189,ntmps189
 go_wp2_with fail;refine HK.out.mono ?_
 rintro e w1 ⟨rfl,N,M⟩;have Y:=hid (K.out.call M N);have c0:=Y.out.cC.cell 0 rfl;have f0:=Y.out.cC.fr 0;clear HK g0;go_wp2_with fail;obtain⟨w2,I⟩: ∃w2,w2=w1.setCell ⟨w.heap.size+1,0,none⟩ (.int .i64 k):=⟨_,rfl⟩
 rw[←I];have J:=hid ((Y.out.set 0 (.int .i64 k)).drew);rw[←I]at J;have n1: ¬g=w.heap.size+1:=by omega
 have n2: ¬w.heap.size+1=g:=by omega
 have G:=hid (show∀(W:World) (i:Nat) (v:Value),W.cell? ⟨g,0,none⟩=some (.pointer (some ⟨b,0,none⟩))→(W.setCell ⟨w.heap.size+1,i,none⟩ v).cell? ⟨g,0,none⟩=some (.pointer (some ⟨b,0,none⟩))from fun W i v hW=>(World.cell?_of_block (w:=W) (a:=⟨g,0,none⟩) (Below.heap_setCell W _ v g (fun e=>n1 e))).trans hW);have Iv:w2.cell? ⟨g,0,none⟩=some (.pointer (some ⟨b,0,none⟩)):=J.out.box.cell;clear I c0 f0 N M K Y;go_cut [0,1,2] (fun x y z W=>x= .pointer (some ⟨g,0,none⟩)∧y= .pointer (some ⟨w.heap.size,0,none⟩)∧z= .pointer (some ⟨w.heap.size+1,0,none⟩)∧Hid (R3 w b g (w.heap.size+1) w.heap.size r4 [.int .i64 k,.string p,.string q,.string t,.int .i64 0] W))
 case first=>
  go_region_held3 (fun W=>W.cell? ⟨g,0,none⟩=some (.pointer (some ⟨b,0,none⟩))) (first|go_keep|exact G.out _ _ _ jz|exact G.out _ _ _ (G.out _ _ _ jz)|exact G.out _ _ _ (G.out _ _ _ (G.out _ _ _ jz))|exact G.out _ _ _ jy|exact G.out _ _ _ (G.out _ _ _ jy)) (first|(go_at_call 145;refine(gX J.out.rd (by omega) H J.out.v h2).mono ?_;rintro e wx ⟨rfl,I8,I5⟩;have Z:=hid (J.out.call I5 I8);have jx:=Z.out.box.cell)|(go_at_call 145;refine(gX Z.out.rd (by omega) H Z.out.v h3).mono ?_;rintro e wy ⟨rfl,I9,I6⟩;have A:=hid (Z.out.call I6 I9);have jy:=A.out.box.cell;have Ix:=A.out.cC.cell 1 rfl;have IA:=A.out.cC.fr 1;have Iy:=A.out.cC.cell 2 rfl;have IB:=A.out.cC.fr 2;have Iz:=A.out.cC.cell 3 rfl;have IC:=A.out.cC.fr 3)|(go_at_call 145;refine(gX A.out.rd (by omega) H A.out.v h4).mono ?_;rintro e wz ⟨rfl,F,E⟩;have d:=hid (A.out.call E F);have jz:=d.out.box.cell;have Q:=d.out.cC.cell 1 rfl;have U:=d.out.cC.fr 1;have S:=d.out.cC.cell 2 rfl;have V:=d.out.cC.fr 2;have T:=d.out.cC.cell 3 rfl;have X:=d.out.cC.fr 3)|(go_at_call 145;refine(gX (A.out.set 1 (.string p)).rd (by omega) H (A.out.set 1 (.string p)).v h4).mono ?_;rintro e wz ⟨rfl,F,E⟩;have d:=hid ((A.out.set 1 (.string p)).call E F);have jz:=d.out.box.cell;have Q:=d.out.cC.cell 1 rfl;have U:=d.out.cC.fr 1;have S:=d.out.cC.cell 2 rfl;have V:=d.out.cC.fr 2;have T:=d.out.cC.cell 3 rfl;have X:=d.out.cC.fr 3)|(go_at_call 145;refine(gX ((A.out.set 1 (.string p)).set 2 (.string q)).rd (by omega) H ((A.out.set 1 (.string p)).set 2 (.string q)).v h4).mono ?_;rintro e wz ⟨rfl,F,E⟩;have d:=hid (((A.out.set 1 (.string p)).set 2 (.string q)).call E F);have jz:=d.out.box.cell;have Q:=d.out.cC.cell 1 rfl;have U:=d.out.cC.fr 1;have S:=d.out.cC.cell 2 rfl;have V:=d.out.cC.fr 2;have T:=d.out.cC.cell 3 rfl;have X:=d.out.cC.fr 3))
  go_wp2_with fail;go_meet
  case rel=>exact⟨rfl,rfl,rfl,((d.out.set 1 (.string p)).set 2 (.string q)).set 3 (.string t)⟩
 case rest=>
  obtain⟨rfl,rfl,rfl,HF⟩:=hcut
  have u0:=HF.out.box.cell;have HN:=hid (kj HF.out.rd (by omega) H HF.out.v h5);clear J Iv G;go_wp2_with fail;refine HN.out.mono ?_
  rintro e w5 ⟨rfl,I7,I0⟩;have f:=hid (HF.out.call I0 I7);have y0:=f.out.cC.cell 0 rfl;have y1:=f.out.cC.cell 1 rfl;have al:=f.out.cC.cell 2 rfl;have y3:=f.out.cC.cell 3 rfl;have y4:=f.out.cC.cell 4 rfl;have z4:=f.out.cC.fr 4;have v0:=f.out.cR.cell 0 rfl;have v1:=f.out.cR.cell 1 rfl;have v2:=f.out.cR.cell 2 rfl;have v3:=f.out.cR.cell 3 rfl;have v4:=f.out.cR.cell 4 rfl;have x0:=f.out.cR.fr 0;have x1:=f.out.cR.fr 1;have aY:=f.out.cR.fr 2;have x3:=f.out.cR.fr 3;have x4:=f.out.cR.fr 4;have n3: ¬w.heap.size=w.heap.size+1:=by omega
  have n4: ¬w.heap.size+1=w.heap.size:=by omega
  clear HN u0;go_wp2_with fail;have hb:=f.out.bl;have P:b≠w.heap.size:=by omega
  have nC:b≠w.heap.size+1:=by omega
  have l1:w.heap.size≤w.heap.size+1:=by omega
  have O:=Nat.le_refl w.heap.size;refine bodyPost_ret (v:= .agg #[.int .i64 k,.string p,.string q,.string t,.int .i64 cb]) (by simp[results,results189,go_sem,n3,n4,v0,v1,v2,v3,v4]) rfl ⟨rfl,?_,?_⟩
  · exact(((((f.out.rd.set' nC _).set' P _).set' P _).set' P _).set' P _).set' P _
  · exact bU (bU (bU (bU (bU (bU f.out.fr l1 _) O _) O _) O _) O _) O _
theorem EF (b g:Nat) (l K M N r4 O:List UInt8) (k I:Int) (p q t:ByteArray) (w:World) (h:Rd b l w) (f:cP w b g) (H:l.length≤cE) (z:5<b) (A:aX w)
    (F:aS ah l=none):
    Calls prog 189 #[.pointer (some ⟨g,0,none⟩)] w fun e w'=>gh e∧w.grownBy w' (some b):=by
 have G:=cM f.1;have d:=hid (mH h f z A);have J:=d.out.box.cell;have E:=hid (oZ d.out.rd H z d.out.v F);clear A h f;go_enter func189,ntmps189
 go_wp2_with fail;refine E.out.mono ?_
 rintro e P ⟨rfl,y⟩;exact di rfl ⟨rfl,aG d.out.fr y⟩
theorem EG (b g:Nat) (l U r2 r3 r4 r5:List UInt8) (k cb:Int) (p q t:ByteArray) (w:World) (h:Rd b l w) (J:cP w b g) (hs:l.length≤cE) (H:5<b) (T:aX w)
    (Q:aS ah l=some (k,U)) (Z:bg ah 1000 U=none):
    Calls prog 189 #[.pointer (some ⟨g,0,none⟩)] w fun e w'=>gh e∧w.grownBy w' (some b):=by
 have s1:=jd Q;have I0:=cM J.1;have y:=hid (mH h J H T);have Y:=y.out.box.cell;have P:=hid (kj y.out.rd hs H y.out.v Q);clear T h J;go_enter func189,ntmps189
 go_wp2_with fail;refine P.out.mono ?_
 rintro e w1 ⟨rfl,E,A⟩;have F:=hid (y.out.call A E);have V:=F.out.cC.cell 0 rfl;have X:=F.out.cC.fr 0;clear P Y;go_wp2_with fail;obtain⟨G,f⟩: ∃G,G=w1.setCell ⟨w.heap.size+1,0,none⟩ (.int .i64 k):=⟨_,rfl⟩
 rw[←f];have z:=hid ((F.out.set 0 (.int .i64 k)).drew);rw[←f]at z;have n1: ¬g=w.heap.size+1:=by omega
 have n2: ¬w.heap.size+1=g:=by omega
 have KS:=hid (show∀(W:World) (i:Nat) (v:Value),W.cell? ⟨g,0,none⟩=some (.pointer (some ⟨b,0,none⟩))→(W.setCell ⟨w.heap.size+1,i,none⟩ v).cell? ⟨g,0,none⟩=some (.pointer (some ⟨b,0,none⟩))from fun W i v d=>(World.cell?_of_block (w:=W) (a:=⟨g,0,none⟩) (Below.heap_setCell W _ v g (fun e=>n1 e))).trans d);have N:G.cell? ⟨g,0,none⟩=some (.pointer (some ⟨b,0,none⟩)):=z.out.box.cell;clear f V X E A y F;have O:G.drew.cell? ⟨g,0,none⟩=some (.pointer (some ⟨b,0,none⟩)):=N;refine wp_region_held_drew (S:=fun W=>W.cell? ⟨g,0,none⟩=some (.pointer (some ⟨b,0,none⟩))) (by kernel_rfl) O (fun I=>?_)
 refine wpAnyH_take (i := 0) (oi := ⟨some 6, Op.load 214 (Operand.tmp 0), 214, "read.go:73", #[], none⟩) (v := .pointer (some ⟨b, 0, none⟩)) rfl (by kernel_rfl) (by kernel_rfl) (by kernel_rfl) (fun _ _ _ h => h) (Or.inl ⟨by rfl, fun W d => by (try dsimp only at d); go_simp⟩) I ?_
 try simp only[Act.put,List.setIfInBounds_toArray,List.set_cons_zero,List.set_cons_succ]
 refine wpAnyH_take (i := 2) (oi := ⟨some 8, Op.load 214 (Operand.tmp 0), 214, "read.go:73", #[], none⟩) (v := .pointer (some ⟨b, 0, none⟩)) rfl (by kernel_rfl) (by kernel_rfl) (by kernel_rfl) (fun _ _ _ h => h) (Or.inl ⟨by rfl, fun W d => by (try dsimp only at d); go_simp⟩) I ?_
 try simp only[Act.put,List.setIfInBounds_toArray,List.set_cons_zero,List.set_cons_succ]
 refine wpAnyH_take (i := 4) (oi := ⟨some 10, Op.load 214 (Operand.tmp 0), 214, "read.go:73", #[], none⟩) (v := .pointer (some ⟨b, 0, none⟩)) rfl (by kernel_rfl) (by kernel_rfl) (by kernel_rfl) (fun _ _ _ h => h) (Or.inl ⟨by rfl, fun W d => by (try dsimp only at d); go_simp⟩) I ?_
 try simp only[Act.put,List.setIfInBounds_toArray,List.set_cons_zero,List.set_cons_succ]
 refine wpAnyH_ready (rs:=[1]) (by kernel_rfl) (by simp) ?_
 refine AllReadyH.cons (o := ⟨some 7, Op.call { callee := Callee.value (Operand.func 145), args := #[Operand.tmp 6], argTypes := #[214] }, 9, "read.go:73", #[⟨0, Ground.data⟩], none⟩) rfl (fun K hK => ?_) AllReadyH.nil
 go_simp
 refine(pa z.out.rd (by omega) H z.out.v Z).mono ?_
 rintro e wv ⟨rfl,M⟩;exact di rfl ⟨rfl,aG z.out.fr M⟩
theorem EH (b g:Nat) (l r1 r2 r3 r4 r5:List UInt8) (k cb:Int) (p q t:ByteArray) (w:World) (h:Rd b l w) (Q:cP w b g) (hs:l.length≤cE) (J:5<b) (hv:aX w)
    (Y:aS ah l=some (k,r1)) (Z:bg ah 1000 r1=some (p,r2)) (h3:bg ah 1000 r2=none):
    Calls prog 189 #[.pointer (some ⟨g,0,none⟩)] w fun e w'=>gh e∧w.grownBy w' (some b):=by
 have s1:=jd Y;have s2:=gF Z;have I0:=cM Q.1;have y:=hid (mH h Q J hv);have g0:=y.out.box.cell;have X:=hid (kj y.out.rd hs J y.out.v Y);clear hv h Q;go_enter func189,ntmps189
 go_wp2_with fail;refine X.out.mono ?_
 rintro e w1 ⟨rfl,F,A⟩;have H:=hid (y.out.call A F);have c0:=H.out.cC.cell 0 rfl;have f0:=H.out.cC.fr 0;clear X g0;go_wp2_with fail;obtain⟨M,f⟩: ∃M,M=w1.setCell ⟨w.heap.size+1,0,none⟩ (.int .i64 k):=⟨_,rfl⟩
 rw[←f];have z:=hid ((H.out.set 0 (.int .i64 k)).drew);rw[←f]at z;have n1: ¬g=w.heap.size+1:=by omega
 have n2: ¬w.heap.size+1=g:=by omega
 have KS:=hid (show∀(W:World) (i:Nat) (v:Value),W.cell? ⟨g,0,none⟩=some (.pointer (some ⟨b,0,none⟩))→(W.setCell ⟨w.heap.size+1,i,none⟩ v).cell? ⟨g,0,none⟩=some (.pointer (some ⟨b,0,none⟩))from fun W i v d=>(World.cell?_of_block (w:=W) (a:=⟨g,0,none⟩) (Below.heap_setCell W _ v g (fun e=>n1 e))).trans d);have U:M.cell? ⟨g,0,none⟩=some (.pointer (some ⟨b,0,none⟩)):=z.out.box.cell;clear f c0 f0 F A y H;have V:M.drew.cell? ⟨g,0,none⟩=some (.pointer (some ⟨b,0,none⟩)):=U;refine wp_region_held_drew (S:=fun W=>W.cell? ⟨g,0,none⟩=some (.pointer (some ⟨b,0,none⟩))) (by kernel_rfl) V (fun O=>?_)
 refine wpAnyH_take (i := 0) (oi := ⟨some 6, Op.load 214 (Operand.tmp 0), 214, "read.go:73", #[], none⟩) (v := .pointer (some ⟨b, 0, none⟩)) rfl (by kernel_rfl) (by kernel_rfl) (by kernel_rfl) (fun _ _ _ h => h) (Or.inl ⟨by rfl, fun W d => by (try dsimp only at d); go_simp⟩) O ?_
 try simp only[Act.put,List.setIfInBounds_toArray,List.set_cons_zero,List.set_cons_succ]
 refine wpAnyH_take (i := 2) (oi := ⟨some 8, Op.load 214 (Operand.tmp 0), 214, "read.go:73", #[], none⟩) (v := .pointer (some ⟨b, 0, none⟩)) rfl (by kernel_rfl) (by kernel_rfl) (by kernel_rfl) (fun _ _ _ h => h) (Or.inl ⟨by rfl, fun W d => by (try dsimp only at d); go_simp⟩) O ?_
 try simp only[Act.put,List.setIfInBounds_toArray,List.set_cons_zero,List.set_cons_succ]
 refine wpAnyH_take (i := 4) (oi := ⟨some 10, Op.load 214 (Operand.tmp 0), 214, "read.go:73", #[], none⟩) (v := .pointer (some ⟨b, 0, none⟩)) rfl (by kernel_rfl) (by kernel_rfl) (by kernel_rfl) (fun _ _ _ h => h) (Or.inl ⟨by rfl, fun W d => by (try dsimp only at d); go_simp⟩) O ?_
 try simp only[Act.put,List.setIfInBounds_toArray,List.set_cons_zero,List.set_cons_succ]
 refine wpAnyH_ready (rs:=[1]) (by kernel_rfl) (by simp) ?_
 refine AllReadyH.cons (o := ⟨some 7, Op.call { callee := Callee.value (Operand.func 145), args := #[Operand.tmp 6], argTypes := #[214] }, 9, "read.go:73", #[⟨0, Ground.data⟩], none⟩) rfl (fun K N => ?_) AllReadyH.nil
 go_simp
 refine(gX z.out.rd (by omega) J z.out.v Z).mono ?_
 rintro e I5 ⟨rfl,G,E⟩;have I:=hid (z.out.call E G);go_wp2_with fail;refine N.out _ _ I.out.box.cell (fun P=>?_)
 clear N K;try simp only[Act.put,List.setIfInBounds_toArray,List.set_cons_zero,List.set_cons_succ]
 refine wpAnyH_take (i := 6) (oi := ⟨some 12, Op.fieldAddr 72 (Operand.tmp 2) 1, 0, "read.go:73", #[⟨0, Ground.phase⟩, ⟨1, Ground.phase⟩, ⟨2, Ground.textOnly Departure.lateStores⟩, ⟨3, Ground.textOnly Departure.lateStoresUnsure⟩, ⟨4, Ground.textOnly Departure.lateStores⟩, ⟨5, Ground.textOnly Departure.lateStoresUnsure⟩], none⟩) (v := .pointer (some ⟨w.heap.size + 1, 1, none⟩)) rfl (by kernel_rfl) (by kernel_rfl) (by kernel_rfl) (fun _ _ _ h => h) (Or.inl ⟨by rfl, fun W d => by (try dsimp only at d); go_simp⟩) P ?_
 try simp only[Act.put,List.setIfInBounds_toArray,List.set_cons_zero,List.set_cons_succ]
 refine wpAnyH_ready (rs:=[3]) (by kernel_rfl) (by simp) ?_
 refine AllReadyH.cons (o := ⟨some 9, Op.call { callee := Callee.value (Operand.func 145), args := #[Operand.tmp 8], argTypes := #[214] }, 9, "read.go:73", #[⟨2, Ground.data⟩, ⟨1, Ground.chain⟩], none⟩) rfl (fun K N => ?_) AllReadyH.nil
 go_simp
 refine(pa I.out.rd (by omega) J I.out.v h3).mono ?_
 rintro e wv ⟨rfl,T⟩;exact di rfl ⟨rfl,aG I.out.fr T⟩
theorem EI (b g:Nat) (l r1 r2 r3 r4 r5:List UInt8) (k cb:Int) (p q t:ByteArray) (w:World) (h:Rd b l w) (V:cP w b g) (hs:l.length≤cE) (E:5<b) (hv:aX w)
    (h1:aS ah l=some (k,r1)) (h2:bg ah 1000 r1=some (p,r2)) (h3:bg ah 1000 r2=some (q,r3)) (h4:bg ah 1000 r3=none):
    Calls prog 189 #[.pointer (some ⟨g,0,none⟩)] w fun e w'=>gh e∧w.grownBy w' (some b):=by
 have s1:=jd h1;have s2:=gF h2;have s3:=gF h3;have I5:=cM V.1;have z:=hid (mH h V E hv);have g0:=z.out.box.cell;have HK:=hid (kj z.out.rd hs E z.out.v h1);clear hv h V;go_enter func189,ntmps189
 go_wp2_with fail;refine HK.out.mono ?_
 rintro e w1 ⟨rfl,I,F⟩;have N:=hid (z.out.call F I);have c0:=N.out.cC.cell 0 rfl;have f0:=N.out.cC.fr 0;clear HK g0;go_wp2_with fail;obtain⟨Q,f⟩: ∃Q,Q=w1.setCell ⟨w.heap.size+1,0,none⟩ (.int .i64 k):=⟨_,rfl⟩
 rw[←f];have A:=hid ((N.out.set 0 (.int .i64 k)).drew);rw[←f]at A;have n1: ¬g=w.heap.size+1:=by omega
 have n2: ¬w.heap.size+1=g:=by omega
 have KS:=hid (show∀(W:World) (i:Nat) (v:Value),W.cell? ⟨g,0,none⟩=some (.pointer (some ⟨b,0,none⟩))→(W.setCell ⟨w.heap.size+1,i,none⟩ v).cell? ⟨g,0,none⟩=some (.pointer (some ⟨b,0,none⟩))from fun W i v d=>(World.cell?_of_block (w:=W) (a:=⟨g,0,none⟩) (Below.heap_setCell W _ v g (fun e=>n1 e))).trans d);have Y:Q.cell? ⟨g,0,none⟩=some (.pointer (some ⟨b,0,none⟩)):=A.out.box.cell;clear f c0 f0 I F z N;have Z:Q.drew.cell? ⟨g,0,none⟩=some (.pointer (some ⟨b,0,none⟩)):=Y;refine wp_region_held_drew (S:=fun W=>W.cell? ⟨g,0,none⟩=some (.pointer (some ⟨b,0,none⟩))) (by kernel_rfl) Z (fun T=>?_)
 refine wpAnyH_take (i := 0) (oi := ⟨some 6, Op.load 214 (Operand.tmp 0), 214, "read.go:73", #[], none⟩) (v := .pointer (some ⟨b, 0, none⟩)) rfl (by kernel_rfl) (by kernel_rfl) (by kernel_rfl) (fun _ _ _ h => h) (Or.inl ⟨by rfl, fun W d => by (try dsimp only at d); go_simp⟩) T ?_
 try simp only[Act.put,List.setIfInBounds_toArray,List.set_cons_zero,List.set_cons_succ]
 refine wpAnyH_take (i := 2) (oi := ⟨some 8, Op.load 214 (Operand.tmp 0), 214, "read.go:73", #[], none⟩) (v := .pointer (some ⟨b, 0, none⟩)) rfl (by kernel_rfl) (by kernel_rfl) (by kernel_rfl) (fun _ _ _ h => h) (Or.inl ⟨by rfl, fun W d => by (try dsimp only at d); go_simp⟩) T ?_
 try simp only[Act.put,List.setIfInBounds_toArray,List.set_cons_zero,List.set_cons_succ]
 refine wpAnyH_take (i := 4) (oi := ⟨some 10, Op.load 214 (Operand.tmp 0), 214, "read.go:73", #[], none⟩) (v := .pointer (some ⟨b, 0, none⟩)) rfl (by kernel_rfl) (by kernel_rfl) (by kernel_rfl) (fun _ _ _ h => h) (Or.inl ⟨by rfl, fun W d => by (try dsimp only at d); go_simp⟩) T ?_
 try simp only[Act.put,List.setIfInBounds_toArray,List.set_cons_zero,List.set_cons_succ]
 refine wpAnyH_ready (rs:=[1]) (by kernel_rfl) (by simp) ?_
 refine AllReadyH.cons (o := ⟨some 7, Op.call { callee := Callee.value (Operand.func 145), args := #[Operand.tmp 6], argTypes := #[214] }, 9, "read.go:73", #[⟨0, Ground.data⟩], none⟩) rfl (fun K y => ?_) AllReadyH.nil
 go_simp
 refine(gX A.out.rd (by omega) E A.out.v h2).mono ?_
 rintro e I6 ⟨rfl,J,G⟩;have O:=hid (A.out.call G J);go_wp2_with fail;refine y.out _ _ O.out.box.cell (fun U=>?_)
 clear y K;try simp only[Act.put,List.setIfInBounds_toArray,List.set_cons_zero,List.set_cons_succ]
 refine wpAnyH_take (i := 6) (oi := ⟨some 12, Op.fieldAddr 72 (Operand.tmp 2) 1, 0, "read.go:73", #[⟨0, Ground.phase⟩, ⟨1, Ground.phase⟩, ⟨2, Ground.textOnly Departure.lateStores⟩, ⟨3, Ground.textOnly Departure.lateStoresUnsure⟩, ⟨4, Ground.textOnly Departure.lateStores⟩, ⟨5, Ground.textOnly Departure.lateStoresUnsure⟩], none⟩) (v := .pointer (some ⟨w.heap.size + 1, 1, none⟩)) rfl (by kernel_rfl) (by kernel_rfl) (by kernel_rfl) (fun _ _ _ h => h) (Or.inl ⟨by rfl, fun W d => by (try dsimp only at d); go_simp⟩) U ?_
 try simp only[Act.put,List.setIfInBounds_toArray,List.set_cons_zero,List.set_cons_succ]
 refine wpAnyH_ready (rs:=[3]) (by kernel_rfl) (by simp) ?_
 refine AllReadyH.cons (o := ⟨some 9, Op.call { callee := Callee.value (Operand.func 145), args := #[Operand.tmp 8], argTypes := #[214] }, 9, "read.go:73", #[⟨2, Ground.data⟩, ⟨1, Ground.chain⟩], none⟩) rfl (fun K y => ?_) AllReadyH.nil
 go_simp
 refine(gX O.out.rd (by omega) E O.out.v h3).mono ?_
 rintro e I7 ⟨rfl,M,H⟩;have P:=hid (O.out.call H M);go_wp2_with fail;refine y.out _ _ P.out.box.cell (fun I0=>?_)
 clear y K;try simp only[Act.put,List.setIfInBounds_toArray,List.set_cons_zero,List.set_cons_succ]
 refine wpAnyH_ready (rs:=[5]) (by kernel_rfl) (by simp) ?_
 refine AllReadyH.cons (o := ⟨some 11, Op.call { callee := Callee.value (Operand.func 145), args := #[Operand.tmp 10], argTypes := #[214] }, 9, "read.go:73", #[⟨4, Ground.data⟩, ⟨3, Ground.chain⟩], none⟩) rfl (fun K y => ?_) AllReadyH.nil
 go_simp
 refine(pa P.out.rd (by omega) E P.out.v h4).mono ?_
 rintro e wv ⟨rfl,X⟩;exact di rfl ⟨rfl,aG P.out.fr X⟩
theorem EJ (b g:Nat) (l r1 r2 r3 r4 r5:List UInt8) (k cb:Int) (p q t:ByteArray) (w:World) (h:Rd b l w) (Z:cP w b g) (hs:l.length≤cE) (G:5<b) (hv:aX w)
    (h1:aS ah l=some (k,r1)) (h2:bg ah 1000 r1=some (p,r2)) (h3:bg ah 1000 r2=some (q,r3)) (Y:bg ah 1000 r3=some (t,r4)) (h5:aS ah r4=none):
    Calls prog 189 #[.pointer (some ⟨g,0,none⟩)] w fun e w'=>gh e∧w.grownBy w' (some b):=by
 have s1:=jd h1;have s2:=gF h2;have s3:=gF h3;have s4:=gF Y;have Iv:=cM Z.1;have J:=hid (mH h Z G hv);have g0:=J.out.box.cell;have HK:=hid (kj J.out.rd hs G J.out.v h1);clear hv h Z;go_enter func189,ntmps189
 go_wp2_with fail;refine HK.out.mono ?_
 rintro e w1 ⟨rfl,M,K⟩;have U:=hid (J.out.call K M);have c0:=U.out.cC.cell 0 rfl;have f0:=U.out.cC.fr 0;clear HK g0;go_wp2_with fail;obtain⟨w2,H⟩: ∃w2,w2=w1.setCell ⟨w.heap.size+1,0,none⟩ (.int .i64 k):=⟨_,rfl⟩
 rw[←H];have I:=hid ((U.out.set 0 (.int .i64 k)).drew);rw[←H]at I;have n1: ¬g=w.heap.size+1:=by omega
 have n2: ¬w.heap.size+1=g:=by omega
 have F:=hid (show∀(W:World) (i:Nat) (v:Value),W.cell? ⟨g,0,none⟩=some (.pointer (some ⟨b,0,none⟩))→(W.setCell ⟨w.heap.size+1,i,none⟩ v).cell? ⟨g,0,none⟩=some (.pointer (some ⟨b,0,none⟩))from fun W i v hW=>(World.cell?_of_block (w:=W) (a:=⟨g,0,none⟩) (Below.heap_setCell W _ v g (fun e=>n1 e))).trans hW);have I9:w2.cell? ⟨g,0,none⟩=some (.pointer (some ⟨b,0,none⟩)):=I.out.box.cell;clear H c0 f0 M K J U;go_cut [0,1,2] (fun x y z W=>x= .pointer (some ⟨g,0,none⟩)∧y= .pointer (some ⟨w.heap.size,0,none⟩)∧z= .pointer (some ⟨w.heap.size+1,0,none⟩)∧Hid (R3 w b g (w.heap.size+1) w.heap.size r4 [.int .i64 k,.string p,.string q,.string t,.int .i64 0] W))
 case first=>
  go_region_held3 (fun W=>W.cell? ⟨g,0,none⟩=some (.pointer (some ⟨b,0,none⟩))) (first|go_keep|exact F.out _ _ _ jz|exact F.out _ _ _ (F.out _ _ _ jz)|exact F.out _ _ _ (F.out _ _ _ (F.out _ _ _ jz))|exact F.out _ _ _ jy|exact F.out _ _ _ (F.out _ _ _ jy)) (first|(go_at_call 145;refine(gX I.out.rd (by omega) G I.out.v h2).mono ?_;rintro e wx ⟨rfl,I7,I5⟩;have V:=hid (I.out.call I5 I7);have jx:=V.out.box.cell)|(go_at_call 145;refine(gX V.out.rd (by omega) G V.out.v h3).mono ?_;rintro e wy ⟨rfl,I8,I6⟩;have f:=hid (V.out.call I6 I8);have jy:=f.out.box.cell;have Iw:=f.out.cC.cell 1 rfl;have Iz:=f.out.cC.fr 1;have Ix:=f.out.cC.cell 2 rfl;have IA:=f.out.cC.fr 2;have Iy:=f.out.cC.cell 3 rfl;have IB:=f.out.cC.fr 3)|(go_at_call 145;refine(gX f.out.rd (by omega) G f.out.v Y).mono ?_;rintro e wz ⟨rfl,E,A⟩;have d:=hid (f.out.call A E);have jz:=d.out.box.cell;have N:=d.out.cC.cell 1 rfl;have Q:=d.out.cC.fr 1;have O:=d.out.cC.cell 2 rfl;have S:=d.out.cC.fr 2;have P:=d.out.cC.cell 3 rfl;have T:=d.out.cC.fr 3)|(go_at_call 145;refine(gX (f.out.set 1 (.string p)).rd (by omega) G (f.out.set 1 (.string p)).v Y).mono ?_;rintro e wz ⟨rfl,E,A⟩;have d:=hid ((f.out.set 1 (.string p)).call A E);have jz:=d.out.box.cell;have N:=d.out.cC.cell 1 rfl;have Q:=d.out.cC.fr 1;have O:=d.out.cC.cell 2 rfl;have S:=d.out.cC.fr 2;have P:=d.out.cC.cell 3 rfl;have T:=d.out.cC.fr 3)|(go_at_call 145;refine(gX ((f.out.set 1 (.string p)).set 2 (.string q)).rd (by omega) G ((f.out.set 1 (.string p)).set 2 (.string q)).v Y).mono ?_;rintro e wz ⟨rfl,E,A⟩;have d:=hid (((f.out.set 1 (.string p)).set 2 (.string q)).call A E);have jz:=d.out.box.cell;have N:=d.out.cC.cell 1 rfl;have Q:=d.out.cC.fr 1;have O:=d.out.cC.cell 2 rfl;have S:=d.out.cC.fr 2;have P:=d.out.cC.cell 3 rfl;have T:=d.out.cC.fr 3))
  go_wp2_with fail;go_meet
  case rel=>exact⟨rfl,rfl,rfl,((d.out.set 1 (.string p)).set 2 (.string q)).set 3 (.string t)⟩
 case rest=>
  obtain⟨rfl,rfl,rfl,X⟩:=hcut
  have u0:=X.out.box.cell;have HN:=hid (oZ X.out.rd (by omega) G X.out.v h5);clear I I9 F;go_wp2_with fail;refine HN.out.mono ?_
  rintro e w5 ⟨rfl,I0⟩;exact di rfl ⟨rfl,aG X.out.fr I0⟩
end Go.Proofs.YtcmlnelpcjfocaaGreatDoor
