/- The program's reader: changes. -/
import Derived.Test.YtgamnckfmmbjdaaGreatDoorWGZC
import Derived.Deep.CutRange
set_option linter.unusedSimpArgs false
set_option linter.unusedVariables false
namespace Go.Proofs.YtgamnckfmmbjdaaGreatDoor
open Go.RowKit Go.Proofs.Tryz
set_option maxHeartbeats 4000000
def dX (g:Int→Bool) (m:Int):bO ar:=bG (bC g) fun k=>bG (bu g m) fun p=>bG (bu g m) fun q=>bG (bu g m) fun t=>bG (bC g) fun b=>fj ⟨k,p,q,t,b⟩
def cr {α:Type} (b:Nat) (res:Option (α×List UInt8)) (V:α→Value→World→Prop) (e:Ending) (w':World):Prop:=match res with
 |none=>el e
 |some (x,r)=> ∃v,e= .returned v∧V x v w'∧Rd b r w'
theorem cr.no {a:Type} {b:Nat} {d:Option (a×List UInt8)} {V:a→Value→World→Prop} {e:Ending} {w':World} (h:d=none) (f:el e):cr b d V e w':=by rw[h];exact f
theorem cr.yes {a:Type} {b:Nat} {d:Option (a×List UInt8)} {V:a→Value→World→Prop} {e:Ending} {w':World} {x:a} {r:List UInt8} (v:Value) (h:d=some (x,r)) (j:e= .returned v) (f:V x v w') (o:Rd b r w'):cr b d V e w':=by rw[h];exact⟨v,j,f,o⟩
def cH (w:World) (b g:Nat):Prop:=w.heap[g]?=some (.cells #[.pointer (some ⟨b,0,none⟩)] 210 (0,0))∧g≠b
theorem cH.nb {b g:Nat} {w w':World} (h:cH w b g) (a:w.grownBy w' (some b)):cH w' b g:=⟨(a.block g (cn h.1) (fun e=>h.2 (by injection e))).trans h.1,h.2⟩
theorem cH.below {b g:Nat} {w w':World} (h:cH w b g) (a:Below w.heap.size w w'):cH w' b g:=⟨(a.block g (cn h.1)).trans h.1,h.2⟩
theorem cH.cell {b g:Nat} {w:World} (h:cH w b g):w.cell? ⟨g,0,none⟩=some (.pointer (some ⟨b,0,none⟩)):=by rw[Lib.cell_of_heap h.1];rfl
theorem Rd.nb {b d:Nat} {l:List UInt8} {w w':World} (h:Rd b l w) (f:w.grownBy w' (some d)) (a:b≠d):Rd b l w':=(f.block b h.lt (fun e=>a (by injection e))).trans h
theorem cH.nb' {b g c:Nat} {w w':World} (h:cH w b g) (d:w.grownBy w' (some c)) (a:g≠c):cH w' b g:=⟨(d.block g (cn h.1) (fun e=>a (by injection e))).trans h.1,h.2⟩
abbrev kJ:List Value:=[.int .i64 0,.string ⟨#[]⟩,.string ⟨#[]⟩,.string ⟨#[]⟩,.int .i64 0]
theorem Rd.set' {b c i:Nat} {l:List UInt8} {w:World} (h:Rd b l w) (a:b≠c) (v:Value):Rd b l (w.setCell ⟨c,i,none⟩ v):=h.nb (au w c i v) a
structure R3 (w:World) (b g C R:Nat) (l:List UInt8) (cs:List Value) (W:World):Prop where
 rd:Rd b l W
 box:cH W b g
 v:aR W
 cC:Cs W C cs
 cR:Cs W R kJ
 fr:w.grownBy W (some b)
 bl:b<w.heap.size
 gl:g<w.heap.size
 Cl:w.heap.size≤C
 Rl:w.heap.size≤R
 ne:C≠R
 b6:5<b
theorem R3.call {w W d:World} {b g C R:Nat} {l r:List UInt8} {cs:List Value} (h:R3 w b g C R l cs W) (a:W.grownBy d (some b)) (e:Rd b r d):R3 w b g C R r cs d:=
 ⟨e,h.box.nb a,h.v.nb h.b6 (by have:=h.rd.lt;have:=h.b6;omega) a,h.cC.nb a (by have:=h.bl;have:=h.Cl;omega),h.cR.nb a (by have:=h.bl;have:=h.Rl;omega),db h.fr a,h.bl,h.gl,h.Cl,h.Rl,h.ne,h.b6⟩
theorem dB {w W:World} {b c i:Nat} (h:w.grownBy W (some b)) (f:w.heap.size≤c) (v:Value):w.grownBy (W.setCell ⟨c,i,none⟩ v) (some b):=
 ⟨h.os,h.tape,h.output,by simpa using h.size,fun k d a=>(Below.heap_setCell W _ v k (fun e=>by simp at e;omega)).trans (h.block k d a)⟩
theorem R3.set {w W:World} {b g C R:Nat} {l:List UInt8} {cs:List Value} (h:R3 w b g C R l cs W) (i:Nat) (v:Value):R3 w b g C R l (cs.set i v) (W.setCell ⟨C,i,none⟩ v):=by
 have hb:=h.bl;have e:=h.gl;have d:=h.Cl;have a:=au W C i v;exact⟨h.rd.nb a (by omega),h.box.nb' a (by omega),h.v.nb (by have:=h.b6;omega) (by have:=h.rd.lt;have:=h.b6;omega) a,h.cC.set i v,h.cR.nb a h.ne.symm,dB h.fr h.Cl v,h.bl,h.gl,h.Cl,h.Rl,h.ne,h.b6⟩
theorem R3.drew {w W:World} {b g C R:Nat} {l:List UInt8} {cs:List Value} (h:R3 w b g C R l cs W):R3 w b g C R l cs W.drew:=
 h.call (gh b (Below.refl _ _).drew) h.rd
theorem jM {w:World} {b g:Nat} {l:List UInt8} (h:Rd b l w) (u:cH w b g) (y:5<b) (z:aR w):R3 w b g (w.heap.size+1) w.heap.size l kJ ((w.alloc (.cells #[.int .i64 0,.string ⟨#[]⟩,.string ⟨#[]⟩,.string ⟨#[]⟩,.int .i64 0] 55)).alloc (.cells #[.int .i64 0,.string ⟨#[]⟩,.string ⟨#[]⟩,.string ⟨#[]⟩,.int .i64 0] 55)):=by
 have o:=h.lt;obtain⟨e,d⟩: ∃e,e=w.alloc (.cells #[.int .i64 0,.string ⟨#[]⟩,.string ⟨#[]⟩,.string ⟨#[]⟩,.int .i64 0] 55):=⟨_,rfl⟩
 rw[←d];have A:e.heap.size=w.heap.size+1:=by rw[d];simp
 have j:Below w.heap.size w e:=by rw[d];exact dA _ _
 have f:=dA e (.cells #[.int .i64 0,.string ⟨#[]⟩,.string ⟨#[]⟩,.string ⟨#[]⟩,.int .i64 0] 55);have a:=j.trans (f.mono (by omega));refine⟨h.below a,u.below a,z.belowB (by omega) a,?_,?_,gh b a,o,cn u.1,by omega,Nat.le_refl _,by omega,y⟩
 · rw[←A];exact Cs.new e kJ _
 · exact Cs.belowAt (show Cs e w.heap.size kJ by rw[d];exact Cs.new w kJ _) f (by omega)
theorem Ac (b g:Nat) (l r1 r2 r3 r4 r5:List UInt8) (k Z:Int) (p q t:ByteArray) (w:World) (h:Rd b l w) (hg:cH w b g) (hs:l.length≤cF) (E:5<b) (hv:aR w)
    (h1:bC aF l=some (k,r1)) (h2:bu aF 1000 r1=some (p,r2)) (h3:bu aF 1000 r2=some (q,r3)) (Y:bu aF 1000 r3=some (t,r4)) (h5:bC aF r4=some (Z,r5)):
    Calls prog 184 #[.pointer (some ⟨g,0,none⟩)] w fun e w'=>e= .returned (.agg #[.int .i64 k,.string p,.string q,.string t,.int .i64 Z])∧Rd b r5 w'∧w.grownBy w' (some b):=by
 have s1:=gi h1;have s2:=eC h2;have s3:=eC h3;have s4:=eC Y;have CC:=cn hg.1;have H:=hid (jM h hg E hv);have g0:=H.out.box.cell;have HK:=hid (ic H.out.rd hs E H.out.v h1);clear hv h hg;go_enter func184,ntmps184
 go_wp2_with fail;refine HK.out.mono ?_
 rintro e w1 ⟨rfl,J,I⟩;have U:=hid (H.out.call I J);have c0:=U.out.cC.cell 0 rfl;have f0:=U.out.cC.fr 0;clear HK g0;go_wp2_with fail;obtain⟨w2,F⟩: ∃w2,w2=w1.setCell ⟨w.heap.size+1,0,none⟩ (.int .i64 k):=⟨_,rfl⟩
 rw[←F];have G:=hid ((U.out.set 0 (.int .i64 k)).drew);rw[←F]at G;have n1: ¬g=w.heap.size+1:=by omega
 have n2: ¬w.heap.size+1=g:=by omega
 have A:=hid (show∀(W:World) (i:Nat) (v:Value),W.cell? ⟨g,0,none⟩=some (.pointer (some ⟨b,0,none⟩))→(W.setCell ⟨w.heap.size+1,i,none⟩ v).cell? ⟨g,0,none⟩=some (.pointer (some ⟨b,0,none⟩))from fun W i v hW=>(World.cell?_of_block (w:=W) (a:=⟨g,0,none⟩) (Below.heap_setCell W _ v g (fun e=>n1 e))).trans hW);have C9:w2.cell? ⟨g,0,none⟩=some (.pointer (some ⟨b,0,none⟩)):=G.out.box.cell;clear F c0 f0 J I H U;go_cut [0,1,2] (fun x y z W=>x= .pointer (some ⟨g,0,none⟩)∧y= .pointer (some ⟨w.heap.size,0,none⟩)∧z= .pointer (some ⟨w.heap.size+1,0,none⟩)∧Hid (R3 w b g (w.heap.size+1) w.heap.size r4 [.int .i64 k,.string p,.string q,.string t,.int .i64 0] W))
 case first=>
  go_region_held3 (fun W=>W.cell? ⟨g,0,none⟩=some (.pointer (some ⟨b,0,none⟩))) (first|go_keep|exact A.out _ _ _ jz|exact A.out _ _ _ (A.out _ _ _ jz)|exact A.out _ _ _ (A.out _ _ _ (A.out _ _ _ jz))|exact A.out _ _ _ jy|exact A.out _ _ _ (A.out _ _ _ jy)) (first|(go_at_call 143;refine(eT G.out.rd (by omega) E G.out.v h2).mono ?_;rintro e wx ⟨rfl,C7,C4⟩;have V:=hid (G.out.call C4 C7);have jx:=V.out.box.cell)|(go_at_call 143;refine(eT V.out.rd (by omega) E V.out.v h3).mono ?_;rintro e wy ⟨rfl,C8,C5⟩;have j:=hid (V.out.call C5 C8);have jy:=j.out.box.cell;have CD:=j.out.cC.cell 1 rfl;have CG:=j.out.cC.fr 1;have CE:=j.out.cC.cell 2 rfl;have CH:=j.out.cC.fr 2;have CF:=j.out.cC.cell 3 rfl;have CI:=j.out.cC.fr 3)|(go_at_call 143;refine(eT j.out.rd (by omega) E j.out.v Y).mono ?_;rintro e wz ⟨rfl,u,o⟩;have d:=hid (j.out.call o u);have jz:=d.out.box.cell;have N:=d.out.cC.cell 1 rfl;have Q:=d.out.cC.fr 1;have O:=d.out.cC.cell 2 rfl;have S:=d.out.cC.fr 2;have P:=d.out.cC.cell 3 rfl;have T:=d.out.cC.fr 3)|(go_at_call 143;refine(eT (j.out.set 1 (.string p)).rd (by omega) E (j.out.set 1 (.string p)).v Y).mono ?_;rintro e wz ⟨rfl,u,o⟩;have d:=hid ((j.out.set 1 (.string p)).call o u);have jz:=d.out.box.cell;have N:=d.out.cC.cell 1 rfl;have Q:=d.out.cC.fr 1;have O:=d.out.cC.cell 2 rfl;have S:=d.out.cC.fr 2;have P:=d.out.cC.cell 3 rfl;have T:=d.out.cC.fr 3)|(go_at_call 143;refine(eT ((j.out.set 1 (.string p)).set 2 (.string q)).rd (by omega) E ((j.out.set 1 (.string p)).set 2 (.string q)).v Y).mono ?_;rintro e wz ⟨rfl,u,o⟩;have d:=hid (((j.out.set 1 (.string p)).set 2 (.string q)).call o u);have jz:=d.out.box.cell;have N:=d.out.cC.cell 1 rfl;have Q:=d.out.cC.fr 1;have O:=d.out.cC.cell 2 rfl;have S:=d.out.cC.fr 2;have P:=d.out.cC.cell 3 rfl;have T:=d.out.cC.fr 3))
  go_wp2_with fail;go_meet
  case rel=>exact⟨rfl,rfl,rfl,((d.out.set 1 (.string p)).set 2 (.string q)).set 3 (.string t)⟩
 case rest=>
  obtain⟨rfl,rfl,rfl,X⟩:=hcut
  have u0:=X.out.box.cell;have HN:=hid (ic X.out.rd (by omega) E X.out.v h5);clear G C9 A;go_wp2_with fail;refine HN.out.mono ?_
  rintro e w5 ⟨rfl,C6,C3⟩;have f:=hid (X.out.call C3 C6);have y0:=f.out.cC.cell 0 rfl;have y1:=f.out.cC.cell 1 rfl;have y2:=f.out.cC.cell 2 rfl;have y3:=f.out.cC.cell 3 rfl;have y4:=f.out.cC.cell 4 rfl;have z4:=f.out.cC.fr 4;have v0:=f.out.cR.cell 0 rfl;have v1:=f.out.cR.cell 1 rfl;have v2:=f.out.cR.cell 2 rfl;have v3:=f.out.cR.cell 3 rfl;have v4:=f.out.cR.cell 4 rfl;have x0:=f.out.cR.fr 0;have aD:=f.out.cR.fr 1;have x2:=f.out.cR.fr 2;have x3:=f.out.cR.fr 3;have x4:=f.out.cR.fr 4;have n3: ¬w.heap.size=w.heap.size+1:=by omega
  have n4: ¬w.heap.size+1=w.heap.size:=by omega
  clear HN u0;go_wp2_with fail;have hb:=f.out.bl;have M:b≠w.heap.size:=by omega
  have nC:b≠w.heap.size+1:=by omega
  have l1:w.heap.size≤w.heap.size+1:=by omega
  have K:=Nat.le_refl w.heap.size;refine bodyPost_ret (v:= .agg #[.int .i64 k,.string p,.string q,.string t,.int .i64 Z]) (by simp[results,results184,go_sem,n3,n4,v0,v1,v2,v3,v4]) rfl ⟨rfl,?_,?_⟩
  · exact(((((f.out.rd.set' nC _).set' M _).set' M _).set' M _).set' M _).set' M _
  · exact dB (dB (dB (dB (dB (dB f.out.fr l1 _) K _) K _) K _) K _) K _
theorem Ad (b g:Nat) (l G H I J K:List UInt8) (k E:Int) (p q t:ByteArray) (w:World) (h:Rd b l w) (d:cH w b g) (A:l.length≤cF) (j:5<b) (o:aR w)
    (y:bC aF l=none):
    Calls prog 184 #[.pointer (some ⟨g,0,none⟩)] w fun e w'=>el e∧w.grownBy w' (some b):=by
 have z:=cn d.1;have a:=hid (jM h d j o);have F:=a.out.box.cell;have u:=hid (lS a.out.rd A j a.out.v y);clear o h d;go_enter func184,ntmps184
 go_wp2_with fail;refine u.out.mono ?_
 rintro e M ⟨rfl,f⟩;exact dr rfl ⟨rfl,db a.out.fr f⟩
theorem Ae (b g:Nat) (l Q r2 r3 r4 r5:List UInt8) (k cb:Int) (p q t:ByteArray) (w:World) (h:Rd b l w) (H:cH w b g) (Z:l.length≤cF) (F:5<b) (P:aR w)
    (O:bC aF l=some (k,Q)) (X:bu aF 1000 Q=none):
    Calls prog 184 #[.pointer (some ⟨g,0,none⟩)] w fun e w'=>el e∧w.grownBy w' (some b):=by
 have s1:=gi O;have Y:=cn H.1;have j:=hid (jM h H F P);have V:=j.out.box.cell;have N:=hid (ic j.out.rd Z F j.out.v O);clear P h H;go_enter func184,ntmps184
 go_wp2_with fail;refine N.out.mono ?_
 rintro e w1 ⟨rfl,z,y⟩;have A:=hid (j.out.call y z);have T:=A.out.cC.cell 0 rfl;have U:=A.out.cC.fr 0;clear N V;go_wp2_with fail;obtain⟨E,f⟩: ∃E,E=w1.setCell ⟨w.heap.size+1,0,none⟩ (.int .i64 k):=⟨_,rfl⟩
 rw[←f];have u:=hid ((A.out.set 0 (.int .i64 k)).drew);rw[←f]at u;have n1: ¬g=w.heap.size+1:=by omega
 have n2: ¬w.heap.size+1=g:=by omega
 have KS:=hid (show∀(W:World) (i:Nat) (v:Value),W.cell? ⟨g,0,none⟩=some (.pointer (some ⟨b,0,none⟩))→(W.setCell ⟨w.heap.size+1,i,none⟩ v).cell? ⟨g,0,none⟩=some (.pointer (some ⟨b,0,none⟩))from fun W i v d=>(World.cell?_of_block (w:=W) (a:=⟨g,0,none⟩) (Below.heap_setCell W _ v g (fun e=>n1 e))).trans d);have J:E.cell? ⟨g,0,none⟩=some (.pointer (some ⟨b,0,none⟩)):=u.out.box.cell;clear f T U z y j A;have M:E.drew.cell? ⟨g,0,none⟩=some (.pointer (some ⟨b,0,none⟩)):=J;refine wp_region_held_drew (S:=fun W=>W.cell? ⟨g,0,none⟩=some (.pointer (some ⟨b,0,none⟩))) (by kernel_rfl) M (fun G=>?_)
 refine wpAnyH_take (i := 0) (oi := ⟨some 6, Op.load 210 (Operand.tmp 0), 210, "read.go:73", #[], none⟩) (v := .pointer (some ⟨b, 0, none⟩)) rfl (by kernel_rfl) (by kernel_rfl) (by kernel_rfl) (fun _ _ _ h => h) (Or.inl ⟨by rfl, fun W d => by (try dsimp only at d); go_simp⟩) G ?_
 try simp only[Act.put,List.setIfInBounds_toArray,List.set_cons_zero,List.set_cons_succ]
 refine wpAnyH_take (i := 2) (oi := ⟨some 8, Op.load 210 (Operand.tmp 0), 210, "read.go:73", #[], none⟩) (v := .pointer (some ⟨b, 0, none⟩)) rfl (by kernel_rfl) (by kernel_rfl) (by kernel_rfl) (fun _ _ _ h => h) (Or.inl ⟨by rfl, fun W d => by (try dsimp only at d); go_simp⟩) G ?_
 try simp only[Act.put,List.setIfInBounds_toArray,List.set_cons_zero,List.set_cons_succ]
 refine wpAnyH_take (i := 4) (oi := ⟨some 10, Op.load 210 (Operand.tmp 0), 210, "read.go:73", #[], none⟩) (v := .pointer (some ⟨b, 0, none⟩)) rfl (by kernel_rfl) (by kernel_rfl) (by kernel_rfl) (fun _ _ _ h => h) (Or.inl ⟨by rfl, fun W d => by (try dsimp only at d); go_simp⟩) G ?_
 try simp only[Act.put,List.setIfInBounds_toArray,List.set_cons_zero,List.set_cons_succ]
 refine wpAnyH_ready (rs:=[1]) (by kernel_rfl) (by simp) ?_
 refine AllReadyH.cons (o := ⟨some 7, Op.call { callee := Callee.value (Operand.func 143), args := #[Operand.tmp 6], argTypes := #[210] }, 9, "read.go:73", #[⟨0, Ground.data⟩], none⟩) rfl (fun K hK => ?_) AllReadyH.nil
 go_simp
 refine(lT u.out.rd (by omega) F u.out.v X).mono ?_
 rintro e wv ⟨rfl,I⟩;exact dr rfl ⟨rfl,db u.out.fr I⟩
theorem Af (b g:Nat) (l Z r2 r3 r4 r5:List UInt8) (k cb:Int) (p q t:ByteArray) (w:World) (h:Rd b l w) (O:cH w b g) (hs:l.length≤cF) (H:5<b) (Y:aR w)
    (V:bC aF l=some (k,Z)) (X:bu aF 1000 Z=some (p,r2)) (h3:bu aF 1000 r2=none):
    Calls prog 184 #[.pointer (some ⟨g,0,none⟩)] w fun e w'=>el e∧w.grownBy w' (some b):=by
 have s1:=gi V;have s2:=eC X;have C3:=cn O.1;have j:=hid (jM h O H Y);have g0:=j.out.box.cell;have U:=hid (ic j.out.rd hs H j.out.v V);clear Y h O;go_enter func184,ntmps184
 go_wp2_with fail;refine U.out.mono ?_
 rintro e w1 ⟨rfl,A,y⟩;have F:=hid (j.out.call y A);have c0:=F.out.cC.cell 0 rfl;have f0:=F.out.cC.fr 0;clear U g0;go_wp2_with fail;obtain⟨I,f⟩: ∃I,I=w1.setCell ⟨w.heap.size+1,0,none⟩ (.int .i64 k):=⟨_,rfl⟩
 rw[←f];have u:=hid ((F.out.set 0 (.int .i64 k)).drew);rw[←f]at u;have n1: ¬g=w.heap.size+1:=by omega
 have n2: ¬w.heap.size+1=g:=by omega
 have KS:=hid (show∀(W:World) (i:Nat) (v:Value),W.cell? ⟨g,0,none⟩=some (.pointer (some ⟨b,0,none⟩))→(W.setCell ⟨w.heap.size+1,i,none⟩ v).cell? ⟨g,0,none⟩=some (.pointer (some ⟨b,0,none⟩))from fun W i v d=>(World.cell?_of_block (w:=W) (a:=⟨g,0,none⟩) (Below.heap_setCell W _ v g (fun e=>n1 e))).trans d);have Q:I.cell? ⟨g,0,none⟩=some (.pointer (some ⟨b,0,none⟩)):=u.out.box.cell;clear f c0 f0 A y j F;have T:I.drew.cell? ⟨g,0,none⟩=some (.pointer (some ⟨b,0,none⟩)):=Q;refine wp_region_held_drew (S:=fun W=>W.cell? ⟨g,0,none⟩=some (.pointer (some ⟨b,0,none⟩))) (by kernel_rfl) T (fun M=>?_)
 refine wpAnyH_take (i := 0) (oi := ⟨some 6, Op.load 210 (Operand.tmp 0), 210, "read.go:73", #[], none⟩) (v := .pointer (some ⟨b, 0, none⟩)) rfl (by kernel_rfl) (by kernel_rfl) (by kernel_rfl) (fun _ _ _ h => h) (Or.inl ⟨by rfl, fun W d => by (try dsimp only at d); go_simp⟩) M ?_
 try simp only[Act.put,List.setIfInBounds_toArray,List.set_cons_zero,List.set_cons_succ]
 refine wpAnyH_take (i := 2) (oi := ⟨some 8, Op.load 210 (Operand.tmp 0), 210, "read.go:73", #[], none⟩) (v := .pointer (some ⟨b, 0, none⟩)) rfl (by kernel_rfl) (by kernel_rfl) (by kernel_rfl) (fun _ _ _ h => h) (Or.inl ⟨by rfl, fun W d => by (try dsimp only at d); go_simp⟩) M ?_
 try simp only[Act.put,List.setIfInBounds_toArray,List.set_cons_zero,List.set_cons_succ]
 refine wpAnyH_take (i := 4) (oi := ⟨some 10, Op.load 210 (Operand.tmp 0), 210, "read.go:73", #[], none⟩) (v := .pointer (some ⟨b, 0, none⟩)) rfl (by kernel_rfl) (by kernel_rfl) (by kernel_rfl) (fun _ _ _ h => h) (Or.inl ⟨by rfl, fun W d => by (try dsimp only at d); go_simp⟩) M ?_
 try simp only[Act.put,List.setIfInBounds_toArray,List.set_cons_zero,List.set_cons_succ]
 refine wpAnyH_ready (rs:=[1]) (by kernel_rfl) (by simp) ?_
 refine AllReadyH.cons (o := ⟨some 7, Op.call { callee := Callee.value (Operand.func 143), args := #[Operand.tmp 6], argTypes := #[210] }, 9, "read.go:73", #[⟨0, Ground.data⟩], none⟩) rfl (fun K J => ?_) AllReadyH.nil
 go_simp
 refine(eT u.out.rd (by omega) H u.out.v X).mono ?_
 rintro e C4 ⟨rfl,E,z⟩;have G:=hid (u.out.call z E);go_wp2_with fail;refine J.out _ _ G.out.box.cell (fun N=>?_)
 clear J K;try simp only[Act.put,List.setIfInBounds_toArray,List.set_cons_zero,List.set_cons_succ]
 refine wpAnyH_take (i := 6) (oi := ⟨some 12, Op.fieldAddr 55 (Operand.tmp 2) 1, 0, "read.go:73", #[⟨0, Ground.phase⟩, ⟨1, Ground.phase⟩, ⟨2, Ground.textOnly Departure.lateStores⟩, ⟨3, Ground.textOnly Departure.lateStoresUnsure⟩, ⟨4, Ground.textOnly Departure.lateStores⟩, ⟨5, Ground.textOnly Departure.lateStoresUnsure⟩], none⟩) (v := .pointer (some ⟨w.heap.size + 1, 1, none⟩)) rfl (by kernel_rfl) (by kernel_rfl) (by kernel_rfl) (fun _ _ _ h => h) (Or.inl ⟨by rfl, fun W d => by (try dsimp only at d); go_simp⟩) N ?_
 try simp only[Act.put,List.setIfInBounds_toArray,List.set_cons_zero,List.set_cons_succ]
 refine wpAnyH_ready (rs:=[3]) (by kernel_rfl) (by simp) ?_
 refine AllReadyH.cons (o := ⟨some 9, Op.call { callee := Callee.value (Operand.func 143), args := #[Operand.tmp 8], argTypes := #[210] }, 9, "read.go:73", #[⟨2, Ground.data⟩, ⟨1, Ground.chain⟩], none⟩) rfl (fun K J => ?_) AllReadyH.nil
 go_simp
 refine(lT G.out.rd (by omega) H G.out.v h3).mono ?_
 rintro e wv ⟨rfl,P⟩;exact dr rfl ⟨rfl,db G.out.fr P⟩
theorem Ag (b g:Nat) (l r1 r2 r3 r4 r5:List UInt8) (k cb:Int) (p q t:ByteArray) (w:World) (h:Rd b l w) (T:cH w b g) (hs:l.length≤cF) (z:5<b) (hv:aR w)
    (Z:bC aF l=some (k,r1)) (h2:bu aF 1000 r1=some (p,r2)) (h3:bu aF 1000 r2=some (q,r3)) (h4:bu aF 1000 r3=none):
    Calls prog 184 #[.pointer (some ⟨g,0,none⟩)] w fun e w'=>el e∧w.grownBy w' (some b):=by
 have s1:=gi Z;have s2:=eC h2;have s3:=eC h3;have C4:=cn T.1;have u:=hid (jM h T z hv);have g0:=u.out.box.cell;have Y:=hid (ic u.out.rd hs z u.out.v Z);clear hv h T;go_enter func184,ntmps184
 go_wp2_with fail;refine Y.out.mono ?_
 rintro e w1 ⟨rfl,G,A⟩;have J:=hid (u.out.call A G);have c0:=J.out.cC.cell 0 rfl;have f0:=J.out.cC.fr 0;clear Y g0;go_wp2_with fail;obtain⟨O,f⟩: ∃O,O=w1.setCell ⟨w.heap.size+1,0,none⟩ (.int .i64 k):=⟨_,rfl⟩
 rw[←f];have y:=hid ((J.out.set 0 (.int .i64 k)).drew);rw[←f]at y;have n1: ¬g=w.heap.size+1:=by omega
 have n2: ¬w.heap.size+1=g:=by omega
 have KS:=hid (show∀(W:World) (i:Nat) (v:Value),W.cell? ⟨g,0,none⟩=some (.pointer (some ⟨b,0,none⟩))→(W.setCell ⟨w.heap.size+1,i,none⟩ v).cell? ⟨g,0,none⟩=some (.pointer (some ⟨b,0,none⟩))from fun W i v d=>(World.cell?_of_block (w:=W) (a:=⟨g,0,none⟩) (Below.heap_setCell W _ v g (fun e=>n1 e))).trans d);have V:O.cell? ⟨g,0,none⟩=some (.pointer (some ⟨b,0,none⟩)):=y.out.box.cell;clear f c0 f0 G A u J;have X:O.drew.cell? ⟨g,0,none⟩=some (.pointer (some ⟨b,0,none⟩)):=V;refine wp_region_held_drew (S:=fun W=>W.cell? ⟨g,0,none⟩=some (.pointer (some ⟨b,0,none⟩))) (by kernel_rfl) X (fun P=>?_)
 refine wpAnyH_take (i := 0) (oi := ⟨some 6, Op.load 210 (Operand.tmp 0), 210, "read.go:73", #[], none⟩) (v := .pointer (some ⟨b, 0, none⟩)) rfl (by kernel_rfl) (by kernel_rfl) (by kernel_rfl) (fun _ _ _ h => h) (Or.inl ⟨by rfl, fun W d => by (try dsimp only at d); go_simp⟩) P ?_
 try simp only[Act.put,List.setIfInBounds_toArray,List.set_cons_zero,List.set_cons_succ]
 refine wpAnyH_take (i := 2) (oi := ⟨some 8, Op.load 210 (Operand.tmp 0), 210, "read.go:73", #[], none⟩) (v := .pointer (some ⟨b, 0, none⟩)) rfl (by kernel_rfl) (by kernel_rfl) (by kernel_rfl) (fun _ _ _ h => h) (Or.inl ⟨by rfl, fun W d => by (try dsimp only at d); go_simp⟩) P ?_
 try simp only[Act.put,List.setIfInBounds_toArray,List.set_cons_zero,List.set_cons_succ]
 refine wpAnyH_take (i := 4) (oi := ⟨some 10, Op.load 210 (Operand.tmp 0), 210, "read.go:73", #[], none⟩) (v := .pointer (some ⟨b, 0, none⟩)) rfl (by kernel_rfl) (by kernel_rfl) (by kernel_rfl) (fun _ _ _ h => h) (Or.inl ⟨by rfl, fun W d => by (try dsimp only at d); go_simp⟩) P ?_
 try simp only[Act.put,List.setIfInBounds_toArray,List.set_cons_zero,List.set_cons_succ]
 refine wpAnyH_ready (rs:=[1]) (by kernel_rfl) (by simp) ?_
 refine AllReadyH.cons (o := ⟨some 7, Op.call { callee := Callee.value (Operand.func 143), args := #[Operand.tmp 6], argTypes := #[210] }, 9, "read.go:73", #[⟨0, Ground.data⟩], none⟩) rfl (fun K j => ?_) AllReadyH.nil
 go_simp
 refine(eT y.out.rd (by omega) z y.out.v h2).mono ?_
 rintro e C5 ⟨rfl,H,E⟩;have M:=hid (y.out.call E H);go_wp2_with fail;refine j.out _ _ M.out.box.cell (fun Q=>?_)
 clear j K;try simp only[Act.put,List.setIfInBounds_toArray,List.set_cons_zero,List.set_cons_succ]
 refine wpAnyH_take (i := 6) (oi := ⟨some 12, Op.fieldAddr 55 (Operand.tmp 2) 1, 0, "read.go:73", #[⟨0, Ground.phase⟩, ⟨1, Ground.phase⟩, ⟨2, Ground.textOnly Departure.lateStores⟩, ⟨3, Ground.textOnly Departure.lateStoresUnsure⟩, ⟨4, Ground.textOnly Departure.lateStores⟩, ⟨5, Ground.textOnly Departure.lateStoresUnsure⟩], none⟩) (v := .pointer (some ⟨w.heap.size + 1, 1, none⟩)) rfl (by kernel_rfl) (by kernel_rfl) (by kernel_rfl) (fun _ _ _ h => h) (Or.inl ⟨by rfl, fun W d => by (try dsimp only at d); go_simp⟩) Q ?_
 try simp only[Act.put,List.setIfInBounds_toArray,List.set_cons_zero,List.set_cons_succ]
 refine wpAnyH_ready (rs:=[3]) (by kernel_rfl) (by simp) ?_
 refine AllReadyH.cons (o := ⟨some 9, Op.call { callee := Callee.value (Operand.func 143), args := #[Operand.tmp 8], argTypes := #[210] }, 9, "read.go:73", #[⟨2, Ground.data⟩, ⟨1, Ground.chain⟩], none⟩) rfl (fun K j => ?_) AllReadyH.nil
 go_simp
 refine(eT M.out.rd (by omega) z M.out.v h3).mono ?_
 rintro e C6 ⟨rfl,I,F⟩;have N:=hid (M.out.call F I);go_wp2_with fail;refine j.out _ _ N.out.box.cell (fun C3=>?_)
 clear j K;try simp only[Act.put,List.setIfInBounds_toArray,List.set_cons_zero,List.set_cons_succ]
 refine wpAnyH_ready (rs:=[5]) (by kernel_rfl) (by simp) ?_
 refine AllReadyH.cons (o := ⟨some 11, Op.call { callee := Callee.value (Operand.func 143), args := #[Operand.tmp 10], argTypes := #[210] }, 9, "read.go:73", #[⟨4, Ground.data⟩, ⟨3, Ground.chain⟩], none⟩) rfl (fun K j => ?_) AllReadyH.nil
 go_simp
 refine(lT N.out.rd (by omega) z N.out.v h4).mono ?_
 rintro e wv ⟨rfl,U⟩;exact dr rfl ⟨rfl,db N.out.fr U⟩
theorem Ah (b g:Nat) (l r1 r2 r3 r4 r5:List UInt8) (k cb:Int) (p q t:ByteArray) (w:World) (h:Rd b l w) (V:cH w b g) (hs:l.length≤cF) (A:5<b) (hv:aR w)
    (h1:bC aF l=some (k,r1)) (h2:bu aF 1000 r1=some (p,r2)) (h3:bu aF 1000 r2=some (q,r3)) (U:bu aF 1000 r3=some (t,r4)) (h5:bC aF r4=none):
    Calls prog 184 #[.pointer (some ⟨g,0,none⟩)] w fun e w'=>el e∧w.grownBy w' (some b):=by
 have s1:=gi h1;have s2:=eC h2;have s3:=eC h3;have s4:=eC U;have C6:=cn V.1;have G:=hid (jM h V A hv);have g0:=G.out.box.cell;have HK:=hid (ic G.out.rd hs A G.out.v h1);clear hv h V;go_enter func184,ntmps184
 go_wp2_with fail;refine HK.out.mono ?_
 rintro e w1 ⟨rfl,I,H⟩;have Q:=hid (G.out.call H I);have c0:=Q.out.cC.cell 0 rfl;have f0:=Q.out.cC.fr 0;clear HK g0;go_wp2_with fail;obtain⟨w2,E⟩: ∃w2,w2=w1.setCell ⟨w.heap.size+1,0,none⟩ (.int .i64 k):=⟨_,rfl⟩
 rw[←E];have F:=hid ((Q.out.set 0 (.int .i64 k)).drew);rw[←E]at F;have n1: ¬g=w.heap.size+1:=by omega
 have n2: ¬w.heap.size+1=g:=by omega
 have u:=hid (show∀(W:World) (i:Nat) (v:Value),W.cell? ⟨g,0,none⟩=some (.pointer (some ⟨b,0,none⟩))→(W.setCell ⟨w.heap.size+1,i,none⟩ v).cell? ⟨g,0,none⟩=some (.pointer (some ⟨b,0,none⟩))from fun W i v hW=>(World.cell?_of_block (w:=W) (a:=⟨g,0,none⟩) (Below.heap_setCell W _ v g (fun e=>n1 e))).trans hW);have C5:w2.cell? ⟨g,0,none⟩=some (.pointer (some ⟨b,0,none⟩)):=F.out.box.cell;clear E c0 f0 I H G Q;go_cut [0,1,2] (fun x y z W=>x= .pointer (some ⟨g,0,none⟩)∧y= .pointer (some ⟨w.heap.size,0,none⟩)∧z= .pointer (some ⟨w.heap.size+1,0,none⟩)∧Hid (R3 w b g (w.heap.size+1) w.heap.size r4 [.int .i64 k,.string p,.string q,.string t,.int .i64 0] W))
 case first=>
  go_region_held3 (fun W=>W.cell? ⟨g,0,none⟩=some (.pointer (some ⟨b,0,none⟩))) (first|go_keep|exact u.out _ _ _ jz|exact u.out _ _ _ (u.out _ _ _ jz)|exact u.out _ _ _ (u.out _ _ _ (u.out _ _ _ jz))|exact u.out _ _ _ jy|exact u.out _ _ _ (u.out _ _ _ jy)) (first|(go_at_call 143;refine(eT F.out.rd (by omega) A F.out.v h2).mono ?_;rintro e wx ⟨rfl,C3,Y⟩;have S:=hid (F.out.call Y C3);have jx:=S.out.box.cell)|(go_at_call 143;refine(eT S.out.rd (by omega) A S.out.v h3).mono ?_;rintro e wy ⟨rfl,C4,Z⟩;have f:=hid (S.out.call Z C4);have jy:=f.out.box.cell;have C7:=f.out.cC.cell 1 rfl;have CC:=f.out.cC.fr 1;have C8:=f.out.cC.cell 2 rfl;have CD:=f.out.cC.fr 2;have C9:=f.out.cC.cell 3 rfl;have CE:=f.out.cC.fr 3)|(go_at_call 143;refine(eT f.out.rd (by omega) A f.out.v U).mono ?_;rintro e wz ⟨rfl,o,j⟩;have d:=hid (f.out.call j o);have jz:=d.out.box.cell;have J:=d.out.cC.cell 1 rfl;have N:=d.out.cC.fr 1;have K:=d.out.cC.cell 2 rfl;have O:=d.out.cC.fr 2;have M:=d.out.cC.cell 3 rfl;have P:=d.out.cC.fr 3)|(go_at_call 143;refine(eT (f.out.set 1 (.string p)).rd (by omega) A (f.out.set 1 (.string p)).v U).mono ?_;rintro e wz ⟨rfl,o,j⟩;have d:=hid ((f.out.set 1 (.string p)).call j o);have jz:=d.out.box.cell;have J:=d.out.cC.cell 1 rfl;have N:=d.out.cC.fr 1;have K:=d.out.cC.cell 2 rfl;have O:=d.out.cC.fr 2;have M:=d.out.cC.cell 3 rfl;have P:=d.out.cC.fr 3)|(go_at_call 143;refine(eT ((f.out.set 1 (.string p)).set 2 (.string q)).rd (by omega) A ((f.out.set 1 (.string p)).set 2 (.string q)).v U).mono ?_;rintro e wz ⟨rfl,o,j⟩;have d:=hid (((f.out.set 1 (.string p)).set 2 (.string q)).call j o);have jz:=d.out.box.cell;have J:=d.out.cC.cell 1 rfl;have N:=d.out.cC.fr 1;have K:=d.out.cC.cell 2 rfl;have O:=d.out.cC.fr 2;have M:=d.out.cC.cell 3 rfl;have P:=d.out.cC.fr 3))
  go_wp2_with fail;go_meet
  case rel=>exact⟨rfl,rfl,rfl,((d.out.set 1 (.string p)).set 2 (.string q)).set 3 (.string t)⟩
 case rest=>
  obtain⟨rfl,rfl,rfl,T⟩:=hcut
  have u0:=T.out.box.cell;have HN:=hid (lS T.out.rd (by omega) A T.out.v h5);clear F C5 u;go_wp2_with fail;refine HN.out.mono ?_
  rintro e w5 ⟨rfl,X⟩;exact dr rfl ⟨rfl,db T.out.fr X⟩
end Go.Proofs.YtgamnckfmmbjdaaGreatDoor
