/- The program's reader: changes. -/
import Derived.Test.YtppdfeehhnofaaaGreatDoorHAZE
import Derived.Test.YtppdfeehhnofaaaGreatDoorHAZF
import Derived.Deep.RegionHeld3
import Derived.Deep.Cut
import Derived.Deep.CutRange
import Derived.Deep.DeepCutAuto
import Derived.Test.YtppdfeehhnofaaaGreatDoorHAH
import Derived.Test.YtppdfeehhnofaaaGreatDoorHAC
import Derived.Laws.OwnMore
set_option linter.unusedSimpArgs false
set_option linter.unusedVariables false
namespace Go.Proofs.YtppdfeehhnofaaaGreatDoor
open Go.RowKit

namespace Wr
def chP (g:Int→Bool) (m:Int):Ps Pp.Ch:=bindP (rdG g) fun k=>bindP (txtP g m) fun p=>bindP (txtP g m) fun q=>bindP (txtP g m) fun t=>bindP (rdG g) fun b=>pureP ⟨k,p,q,t,b⟩
end Wr
/-- What a reading answers. -/
def RdPost {α:Type} (b:Nat) (res:Option (α×List UInt8)) (V:α→Value→World→Prop) (e:Ending) (w':World):Prop:=match res with
 |none=>GaveUp e
 |some (x,r)=> ∃v,e= .returned v∧V x v w'∧Rd b r w'
theorem RdPost.no {α:Type} {b:Nat} {res:Option (α×List UInt8)} {V:α→Value→World→Prop} {e:Ending} {w':World} (h:res=none) (he:GaveUp e):RdPost b res V e w':=by rw[h];exact he
theorem RdPost.yes {α:Type} {b:Nat} {res:Option (α×List UInt8)} {V:α→Value→World→Prop} {e:Ending} {w':World} {x:α} {r:List UInt8} (v:Value) (h:res=some (x,r)) (he:e= .returned v) (hV:V x v w') (hr:Rd b r w'):RdPost b res V e w':=by rw[h];exact⟨v,he,hV,hr⟩
/-- A box that bears the reader's address. -/
def RBox (w:World) (b g:Nat):Prop:=w.heap[g]?=some (.cells #[.pointer (some ⟨b,0,none⟩)] 80 (0,0))∧g≠b
theorem RBox.nb {b g:Nat} {w w':World} (h:RBox w b g) (hw:w.grownBy w' (some b)):RBox w' b g:=⟨(hw.block g (heap_lt h.1) (fun e=>h.2 (by injection e))).trans h.1,h.2⟩
theorem RBox.below {b g:Nat} {w w':World} (h:RBox w b g) (hf:Below w.heap.size w w'):RBox w' b g:=⟨(hf.block g (heap_lt h.1)).trans h.1,h.2⟩
theorem RBox.cell {b g:Nat} {w:World} (h:RBox w b g):w.cell? ⟨g,0,none⟩=some (.pointer (some ⟨b,0,none⟩)):=by rw[Lib.cell_of_heap h.1];rfl
theorem Rd.nb {b b':Nat} {l:List UInt8} {w w':World} (h:Rd b l w) (hw:w.grownBy w' (some b')) (hne:b≠b'):Rd b l w':=(hw.block b h.lt (fun e=>hne (by injection e))).trans h
theorem RBox.nb' {b g c:Nat} {w w':World} (h:RBox w b g) (hw:w.grownBy w' (some c)) (hne:g≠c):RBox w' b g:=⟨(hw.block g (heap_lt h.1) (fun e=>hne (by injection e))).trans h.1,h.2⟩
abbrev zch:List Value:=[.int .i64 0,.string ⟨#[]⟩,.string ⟨#[]⟩,.string ⟨#[]⟩,.int .i64 0]
theorem Rd.set' {b c i:Nat} {l:List UInt8} {w:World} (h:Rd b l w) (hne:b≠c) (v:Value):Rd b l (w.setCell ⟨c,i,none⟩ v):=h.nb (nb_set w c i v) hne
/-- A reader at work on a record of its own. -/
structure R3 (w:World) (b g C R:Nat) (l:List UInt8) (cs:List Value) (W:World):Prop where
 rd:Rd b l W
 box:RBox W b g
 v:VarsW W
 cC:Cs W C cs
 cR:Cs W R zch
 fr:w.grownBy W (some b)
 bl:b<w.heap.size
 gl:g<w.heap.size
 Cl:w.heap.size≤C
 Rl:w.heap.size≤R
 ne:C≠R
 b6:5<b
theorem R3.call {w W W':World} {b g C R:Nat} {l r:List UInt8} {cs:List Value} (h:R3 w b g C R l cs W) (hn:W.grownBy W' (some b)) (hr:Rd b r W'):R3 w b g C R r cs W':=
 ⟨hr,h.box.nb hn,h.v.nb h.b6 (by have:=h.rd.lt;have:=h.b6;omega) hn,h.cC.nb hn (by have:=h.bl;have:=h.Cl;omega),h.cR.nb hn (by have:=h.bl;have:=h.Rl;omega),nb_tr h.fr hn,h.bl,h.gl,h.Cl,h.Rl,h.ne,h.b6⟩
theorem nb_new {w W:World} {b c i:Nat} (h:w.grownBy W (some b)) (hc:w.heap.size≤c) (v:Value):w.grownBy (W.setCell ⟨c,i,none⟩ v) (some b):=
 ⟨h.os,h.tape,h.output,by simpa using h.size,fun k hk hne=>(Below.heap_setCell W _ v k (fun e=>by simp at e;omega)).trans (h.block k hk hne)⟩
theorem R3.set {w W:World} {b g C R:Nat} {l:List UInt8} {cs:List Value} (h:R3 w b g C R l cs W) (i:Nat) (v:Value):R3 w b g C R l (cs.set i v) (W.setCell ⟨C,i,none⟩ v):=by
 have hb:=h.bl;have hg:=h.gl;have hC:=h.Cl;have hn:=nb_set W C i v;exact⟨h.rd.nb hn (by omega),h.box.nb' hn (by omega),h.v.nb (by have:=h.b6;omega) (by have:=h.rd.lt;have:=h.b6;omega) hn,h.cC.set i v,h.cR.nb hn h.ne.symm,nb_new h.fr h.Cl v,h.bl,h.gl,h.Cl,h.Rl,h.ne,h.b6⟩
theorem R3.drew {w W:World} {b g C R:Nat} {l:List UInt8} {cs:List Value} (h:R3 w b g C R l cs W):R3 w b g C R l cs W.drew:=
 h.call (nb_below b (Below.refl _ _).drew) h.rd
theorem r3_new {w:World} {b g:Nat} {l:List UInt8} (h:Rd b l w) (hg:RBox w b g) (h6:5<b) (hv:VarsW w):R3 w b g (w.heap.size+1) w.heap.size l zch ((w.alloc (.cells #[.int .i64 0,.string ⟨#[]⟩,.string ⟨#[]⟩,.string ⟨#[]⟩,.int .i64 0] 54)).alloc (.cells #[.int .i64 0,.string ⟨#[]⟩,.string ⟨#[]⟩,.string ⟨#[]⟩,.int .i64 0] 54)):=by
 have hbl:=h.lt;obtain⟨wa,hwa⟩: ∃wa,wa=w.alloc (.cells #[.int .i64 0,.string ⟨#[]⟩,.string ⟨#[]⟩,.string ⟨#[]⟩,.int .i64 0] 54):=⟨_,rfl⟩
 rw[←hwa];have sa:wa.heap.size=w.heap.size+1:=by rw[hwa];simp
 have hba:Below w.heap.size w wa:=by rw[hwa];exact below_alloc _ _
 have hbb:=below_alloc wa (.cells #[.int .i64 0,.string ⟨#[]⟩,.string ⟨#[]⟩,.string ⟨#[]⟩,.int .i64 0] 54);have hab:=hba.trans (hbb.mono (by omega));refine⟨h.below hab,hg.below hab,hv.belowB (by omega) hab,?_,?_,nb_below b hab,hbl,heap_lt hg.1,by omega,Nat.le_refl _,by omega,h6⟩
 · rw[←sa];exact Cs.new wa zch _
 · exact Cs.belowAt (show Cs wa w.heap.size zch by rw[hwa];exact Cs.new w zch _) hbb (by omega)
set_option maxHeartbeats 4000000 in
theorem rch1_ok (b g:Nat) (l r1 r2 r3 r4 r5:List UInt8) (k cb:Int) (p q t:ByteArray) (w:World) (h:Rd b l w) (hg:RBox w b g) (hs:l.length≤MaxL) (h6:5<b) (hv:VarsW w)
    (h1:Wr.rdG Wr.gN l=some (k,r1)) (h2:Wr.txtP Wr.gN 1000 r1=some (p,r2)) (h3:Wr.txtP Wr.gN 1000 r2=some (q,r3)) (h4:Wr.txtP Wr.gN 1000 r3=some (t,r4)) (h5:Wr.rdG Wr.gN r4=some (cb,r5)):
    Calls Tryz.prog 73 #[.pointer (some ⟨g,0,none⟩)] w fun e w'=>e= .returned (.agg #[.int .i64 k,.string p,.string q,.string t,.int .i64 cb])∧Rd b r5 w'∧w.grownBy w' (some b):=by
 have s1:=Wr.rd_len h1;have s2:=Wr.txt_rest h2;have s3:=Wr.txt_rest h3;have s4:=Wr.txt_rest h4;have hgl:=heap_lt hg.1;have H0:=hid (r3_new h hg h6 hv);have g0:=H0.out.box.cell;have HK:=hid (rnum_ok H0.out.rd hs h6 H0.out.v h1);clear hv h hg;go_enter Tryz.func73,Tryz.ntmps73
 go_wp2_with fail;refine HK.out.mono ?_
 rintro e w1 ⟨rfl,hr1,hn1⟩;have H1:=hid (H0.out.call hn1 hr1);have c0:=H1.out.cC.cell 0 rfl;have f0:=H1.out.cC.fr 0;clear HK g0;go_wp2_with fail;obtain⟨w2,hw2⟩: ∃w2,w2=w1.setCell ⟨w.heap.size+1,0,none⟩ (.int .i64 k):=⟨_,rfl⟩
 rw[←hw2];have HA:=hid ((H1.out.set 0 (.int .i64 k)).drew);rw[←hw2]at HA;have n1: ¬g=w.heap.size+1:=by omega
 have n2: ¬w.heap.size+1=g:=by omega
 have KS:=hid (show∀(W:World) (i:Nat) (v:Value),W.cell? ⟨g,0,none⟩=some (.pointer (some ⟨b,0,none⟩))→(W.setCell ⟨w.heap.size+1,i,none⟩ v).cell? ⟨g,0,none⟩=some (.pointer (some ⟨b,0,none⟩))from fun W i v hW=>(World.cell?_of_block (w:=W) (a:=⟨g,0,none⟩) (Below.heap_setCell W _ v g (fun e=>n1 e))).trans hW);have hx0:w2.cell? ⟨g,0,none⟩=some (.pointer (some ⟨b,0,none⟩)):=HA.out.box.cell;clear hw2 c0 f0 hr1 hn1 H0 H1;go_cut [0,1,2] (fun x y z W=>x= .pointer (some ⟨g,0,none⟩)∧y= .pointer (some ⟨w.heap.size,0,none⟩)∧z= .pointer (some ⟨w.heap.size+1,0,none⟩)∧Hid (R3 w b g (w.heap.size+1) w.heap.size r4 [.int .i64 k,.string p,.string q,.string t,.int .i64 0] W))
 case first=>
  go_region_held3 (fun W=>W.cell? ⟨g,0,none⟩=some (.pointer (some ⟨b,0,none⟩))) (first|go_keep|exact KS.out _ _ _ jz|exact KS.out _ _ _ (KS.out _ _ _ jz)|exact KS.out _ _ _ (KS.out _ _ _ (KS.out _ _ _ jz))|exact KS.out _ _ _ jy|exact KS.out _ _ _ (KS.out _ _ _ jy)) (first|(go_at_call 35;refine(rtxt_ok HA.out.rd (by omega) h6 HA.out.v h2).mono ?_;rintro e wx ⟨rfl,hrx,hnx⟩;have HB:=hid (HA.out.call hnx hrx);have jx:=HB.out.box.cell)|(go_at_call 35;refine(rtxt_ok HB.out.rd (by omega) h6 HB.out.v h3).mono ?_;rintro e wy ⟨rfl,hry,hny⟩;have HD:=hid (HB.out.call hny hry);have jy:=HD.out.box.cell;have yc1:=HD.out.cC.cell 1 rfl;have yf1:=HD.out.cC.fr 1;have yc2:=HD.out.cC.cell 2 rfl;have yf2:=HD.out.cC.fr 2;have yc3:=HD.out.cC.cell 3 rfl;have yf3:=HD.out.cC.fr 3)|(go_at_call 35;refine(rtxt_ok HD.out.rd (by omega) h6 HD.out.v h4).mono ?_;rintro e wz ⟨rfl,hrz,hnz⟩;have HE:=hid (HD.out.call hnz hrz);have jz:=HE.out.box.cell;have zc1:=HE.out.cC.cell 1 rfl;have zf1:=HE.out.cC.fr 1;have zc2:=HE.out.cC.cell 2 rfl;have zf2:=HE.out.cC.fr 2;have zc3:=HE.out.cC.cell 3 rfl;have zf3:=HE.out.cC.fr 3)|(go_at_call 35;refine(rtxt_ok (HD.out.set 1 (.string p)).rd (by omega) h6 (HD.out.set 1 (.string p)).v h4).mono ?_;rintro e wz ⟨rfl,hrz,hnz⟩;have HE:=hid ((HD.out.set 1 (.string p)).call hnz hrz);have jz:=HE.out.box.cell;have zc1:=HE.out.cC.cell 1 rfl;have zf1:=HE.out.cC.fr 1;have zc2:=HE.out.cC.cell 2 rfl;have zf2:=HE.out.cC.fr 2;have zc3:=HE.out.cC.cell 3 rfl;have zf3:=HE.out.cC.fr 3)|(go_at_call 35;refine(rtxt_ok ((HD.out.set 1 (.string p)).set 2 (.string q)).rd (by omega) h6 ((HD.out.set 1 (.string p)).set 2 (.string q)).v h4).mono ?_;rintro e wz ⟨rfl,hrz,hnz⟩;have HE:=hid (((HD.out.set 1 (.string p)).set 2 (.string q)).call hnz hrz);have jz:=HE.out.box.cell;have zc1:=HE.out.cC.cell 1 rfl;have zf1:=HE.out.cC.fr 1;have zc2:=HE.out.cC.cell 2 rfl;have zf2:=HE.out.cC.fr 2;have zc3:=HE.out.cC.cell 3 rfl;have zf3:=HE.out.cC.fr 3))
  go_wp2_with fail;go_meet
  case rel=>exact⟨rfl,rfl,rfl,((HE.out.set 1 (.string p)).set 2 (.string q)).set 3 (.string t)⟩
 case rest=>
  obtain⟨rfl,rfl,rfl,HF⟩:=hcut
  have u0:=HF.out.box.cell;have HN:=hid (rnum_ok HF.out.rd (by omega) h6 HF.out.v h5);clear HA hx0 KS;go_wp2_with fail;refine HN.out.mono ?_
  rintro e w5 ⟨rfl,hr5,hn5⟩;have H5:=hid (HF.out.call hn5 hr5);have y0:=H5.out.cC.cell 0 rfl;have y1:=H5.out.cC.cell 1 rfl;have y2:=H5.out.cC.cell 2 rfl;have y3:=H5.out.cC.cell 3 rfl;have y4:=H5.out.cC.cell 4 rfl;have z4:=H5.out.cC.fr 4;have v0:=H5.out.cR.cell 0 rfl;have v1:=H5.out.cR.cell 1 rfl;have v2:=H5.out.cR.cell 2 rfl;have v3:=H5.out.cR.cell 3 rfl;have v4:=H5.out.cR.cell 4 rfl;have x0:=H5.out.cR.fr 0;have x1:=H5.out.cR.fr 1;have x2:=H5.out.cR.fr 2;have x3:=H5.out.cR.fr 3;have x4:=H5.out.cR.fr 4;have n3: ¬w.heap.size=w.heap.size+1:=by omega
  have n4: ¬w.heap.size+1=w.heap.size:=by omega
  clear HN u0;go_wp2_with fail;have hb:=H5.out.bl;have nR:b≠w.heap.size:=by omega
  have nC:b≠w.heap.size+1:=by omega
  have l1:w.heap.size≤w.heap.size+1:=by omega
  have l0:=Nat.le_refl w.heap.size;refine bodyPost_ret (v:= .agg #[.int .i64 k,.string p,.string q,.string t,.int .i64 cb]) (by simp[results,Tryz.results73,go_sem,n3,n4,v0,v1,v2,v3,v4]) rfl ⟨rfl,?_,?_⟩
  · exact(((((H5.out.rd.set' nC _).set' nR _).set' nR _).set' nR _).set' nR _).set' nR _
  · exact nb_new (nb_new (nb_new (nb_new (nb_new (nb_new H5.out.fr l1 _) l0 _) l0 _) l0 _) l0 _) l0 _
set_option maxHeartbeats 4000000 in
theorem rch1_no1 (b g:Nat) (l r1 r2 r3 r4 r5:List UInt8) (k cb:Int) (p q t:ByteArray) (w:World) (h:Rd b l w) (hg:RBox w b g) (hs:l.length≤MaxL) (h6:5<b) (hv:VarsW w)
    (h1:Wr.rdG Wr.gN l=none):
    Calls Tryz.prog 73 #[.pointer (some ⟨g,0,none⟩)] w fun e w'=>GaveUp e∧w.grownBy w' (some b):=by
 have hgl:=heap_lt hg.1;have H0:=hid (r3_new h hg h6 hv);have g0:=H0.out.box.cell;have HK:=hid (rnum_no H0.out.rd hs h6 H0.out.v h1);clear hv h hg;go_enter Tryz.func73,Tryz.ntmps73
 go_wp2_with fail;refine HK.out.mono ?_
 rintro e w1 ⟨rfl,hn1⟩;exact bodyPost_panic rfl ⟨rfl,nb_tr H0.out.fr hn1⟩
set_option maxHeartbeats 4000000 in
theorem rch1_no2 (b g:Nat) (l r1 r2 r3 r4 r5:List UInt8) (k cb:Int) (p q t:ByteArray) (w:World) (h:Rd b l w) (hg:RBox w b g) (hs:l.length≤MaxL) (h6:5<b) (hv:VarsW w)
    (h1:Wr.rdG Wr.gN l=some (k,r1)) (h2:Wr.txtP Wr.gN 1000 r1=none):
    Calls Tryz.prog 73 #[.pointer (some ⟨g,0,none⟩)] w fun e w'=>GaveUp e∧w.grownBy w' (some b):=by
 have s1:=Wr.rd_len h1;have hgl:=heap_lt hg.1;have H0:=hid (r3_new h hg h6 hv);have g0:=H0.out.box.cell;have HK:=hid (rnum_ok H0.out.rd hs h6 H0.out.v h1);clear hv h hg;go_enter Tryz.func73,Tryz.ntmps73
 go_wp2_with fail;refine HK.out.mono ?_
 rintro e w1 ⟨rfl,hr1,hn1⟩;have H1:=hid (H0.out.call hn1 hr1);have c0:=H1.out.cC.cell 0 rfl;have f0:=H1.out.cC.fr 0;clear HK g0;go_wp2_with fail;obtain⟨w2,hw2⟩: ∃w2,w2=w1.setCell ⟨w.heap.size+1,0,none⟩ (.int .i64 k):=⟨_,rfl⟩
 rw[←hw2];have HA:=hid ((H1.out.set 0 (.int .i64 k)).drew);rw[←hw2]at HA;have n1: ¬g=w.heap.size+1:=by omega
 have n2: ¬w.heap.size+1=g:=by omega
 have KS:=hid (show∀(W:World) (i:Nat) (v:Value),W.cell? ⟨g,0,none⟩=some (.pointer (some ⟨b,0,none⟩))→(W.setCell ⟨w.heap.size+1,i,none⟩ v).cell? ⟨g,0,none⟩=some (.pointer (some ⟨b,0,none⟩))from fun W i v hW=>(World.cell?_of_block (w:=W) (a:=⟨g,0,none⟩) (Below.heap_setCell W _ v g (fun e=>n1 e))).trans hW);have hx0:w2.cell? ⟨g,0,none⟩=some (.pointer (some ⟨b,0,none⟩)):=HA.out.box.cell;clear hw2 c0 f0 hr1 hn1 H0 H1;have hx1:w2.drew.cell? ⟨g,0,none⟩=some (.pointer (some ⟨b,0,none⟩)):=hx0;refine wp_region_held_drew (S:=fun W=>W.cell? ⟨g,0,none⟩=some (.pointer (some ⟨b,0,none⟩))) (by kernel_rfl) hx1 (fun hS=>?_)
 refine wpAnyH_take (i := 0) (oi := ⟨some 6, Op.load 80 (Operand.tmp 0), 80, "read.go:73", #[], none⟩) (v := .pointer (some ⟨b, 0, none⟩)) rfl (by kernel_rfl) (by kernel_rfl) (by kernel_rfl) (fun _ _ _ h => h) (Or.inl ⟨by rfl, fun W hW => by (try dsimp only at hW); go_simp⟩) hS ?_
 try simp only[Act.put,List.setIfInBounds_toArray,List.set_cons_zero,List.set_cons_succ]
 refine wpAnyH_take (i := 2) (oi := ⟨some 8, Op.load 80 (Operand.tmp 0), 80, "read.go:73", #[], none⟩) (v := .pointer (some ⟨b, 0, none⟩)) rfl (by kernel_rfl) (by kernel_rfl) (by kernel_rfl) (fun _ _ _ h => h) (Or.inl ⟨by rfl, fun W hW => by (try dsimp only at hW); go_simp⟩) hS ?_
 try simp only[Act.put,List.setIfInBounds_toArray,List.set_cons_zero,List.set_cons_succ]
 refine wpAnyH_take (i := 4) (oi := ⟨some 10, Op.load 80 (Operand.tmp 0), 80, "read.go:73", #[], none⟩) (v := .pointer (some ⟨b, 0, none⟩)) rfl (by kernel_rfl) (by kernel_rfl) (by kernel_rfl) (fun _ _ _ h => h) (Or.inl ⟨by rfl, fun W hW => by (try dsimp only at hW); go_simp⟩) hS ?_
 try simp only[Act.put,List.setIfInBounds_toArray,List.set_cons_zero,List.set_cons_succ]
 refine wpAnyH_ready (rs:=[1]) (by kernel_rfl) (by simp) ?_
 refine AllReadyH.cons (o := ⟨some 7, Op.call { callee := Callee.value (Operand.func 35), args := #[Operand.tmp 6], argTypes := #[80] }, 9, "read.go:73", #[⟨0, Ground.data⟩], none⟩) rfl (fun K hK => ?_) AllReadyH.nil
 go_simp
 refine(rtxt_no HA.out.rd (by omega) h6 HA.out.v h2).mono ?_
 rintro e wv ⟨rfl,hnv⟩;exact bodyPost_panic rfl ⟨rfl,nb_tr HA.out.fr hnv⟩
set_option maxHeartbeats 4000000 in
theorem rch1_no3 (b g:Nat) (l r1 r2 r3 r4 r5:List UInt8) (k cb:Int) (p q t:ByteArray) (w:World) (h:Rd b l w) (hg:RBox w b g) (hs:l.length≤MaxL) (h6:5<b) (hv:VarsW w)
    (h1:Wr.rdG Wr.gN l=some (k,r1)) (h2:Wr.txtP Wr.gN 1000 r1=some (p,r2)) (h3:Wr.txtP Wr.gN 1000 r2=none):
    Calls Tryz.prog 73 #[.pointer (some ⟨g,0,none⟩)] w fun e w'=>GaveUp e∧w.grownBy w' (some b):=by
 have s1:=Wr.rd_len h1;have s2:=Wr.txt_rest h2;have hgl:=heap_lt hg.1;have H0:=hid (r3_new h hg h6 hv);have g0:=H0.out.box.cell;have HK:=hid (rnum_ok H0.out.rd hs h6 H0.out.v h1);clear hv h hg;go_enter Tryz.func73,Tryz.ntmps73
 go_wp2_with fail;refine HK.out.mono ?_
 rintro e w1 ⟨rfl,hr1,hn1⟩;have H1:=hid (H0.out.call hn1 hr1);have c0:=H1.out.cC.cell 0 rfl;have f0:=H1.out.cC.fr 0;clear HK g0;go_wp2_with fail;obtain⟨w2,hw2⟩: ∃w2,w2=w1.setCell ⟨w.heap.size+1,0,none⟩ (.int .i64 k):=⟨_,rfl⟩
 rw[←hw2];have HA:=hid ((H1.out.set 0 (.int .i64 k)).drew);rw[←hw2]at HA;have n1: ¬g=w.heap.size+1:=by omega
 have n2: ¬w.heap.size+1=g:=by omega
 have KS:=hid (show∀(W:World) (i:Nat) (v:Value),W.cell? ⟨g,0,none⟩=some (.pointer (some ⟨b,0,none⟩))→(W.setCell ⟨w.heap.size+1,i,none⟩ v).cell? ⟨g,0,none⟩=some (.pointer (some ⟨b,0,none⟩))from fun W i v hW=>(World.cell?_of_block (w:=W) (a:=⟨g,0,none⟩) (Below.heap_setCell W _ v g (fun e=>n1 e))).trans hW);have hx0:w2.cell? ⟨g,0,none⟩=some (.pointer (some ⟨b,0,none⟩)):=HA.out.box.cell;clear hw2 c0 f0 hr1 hn1 H0 H1;have hx1:w2.drew.cell? ⟨g,0,none⟩=some (.pointer (some ⟨b,0,none⟩)):=hx0;refine wp_region_held_drew (S:=fun W=>W.cell? ⟨g,0,none⟩=some (.pointer (some ⟨b,0,none⟩))) (by kernel_rfl) hx1 (fun hS=>?_)
 refine wpAnyH_take (i := 0) (oi := ⟨some 6, Op.load 80 (Operand.tmp 0), 80, "read.go:73", #[], none⟩) (v := .pointer (some ⟨b, 0, none⟩)) rfl (by kernel_rfl) (by kernel_rfl) (by kernel_rfl) (fun _ _ _ h => h) (Or.inl ⟨by rfl, fun W hW => by (try dsimp only at hW); go_simp⟩) hS ?_
 try simp only[Act.put,List.setIfInBounds_toArray,List.set_cons_zero,List.set_cons_succ]
 refine wpAnyH_take (i := 2) (oi := ⟨some 8, Op.load 80 (Operand.tmp 0), 80, "read.go:73", #[], none⟩) (v := .pointer (some ⟨b, 0, none⟩)) rfl (by kernel_rfl) (by kernel_rfl) (by kernel_rfl) (fun _ _ _ h => h) (Or.inl ⟨by rfl, fun W hW => by (try dsimp only at hW); go_simp⟩) hS ?_
 try simp only[Act.put,List.setIfInBounds_toArray,List.set_cons_zero,List.set_cons_succ]
 refine wpAnyH_take (i := 4) (oi := ⟨some 10, Op.load 80 (Operand.tmp 0), 80, "read.go:73", #[], none⟩) (v := .pointer (some ⟨b, 0, none⟩)) rfl (by kernel_rfl) (by kernel_rfl) (by kernel_rfl) (fun _ _ _ h => h) (Or.inl ⟨by rfl, fun W hW => by (try dsimp only at hW); go_simp⟩) hS ?_
 try simp only[Act.put,List.setIfInBounds_toArray,List.set_cons_zero,List.set_cons_succ]
 refine wpAnyH_ready (rs:=[1]) (by kernel_rfl) (by simp) ?_
 refine AllReadyH.cons (o := ⟨some 7, Op.call { callee := Callee.value (Operand.func 35), args := #[Operand.tmp 6], argTypes := #[80] }, 9, "read.go:73", #[⟨0, Ground.data⟩], none⟩) rfl (fun K hK => ?_) AllReadyH.nil
 go_simp
 refine(rtxt_ok HA.out.rd (by omega) h6 HA.out.v h2).mono ?_
 rintro e wx0 ⟨rfl,hrx0,hnx0⟩;have HB:=hid (HA.out.call hnx0 hrx0);go_wp2_with fail;refine hK.out _ _ HB.out.box.cell (fun hS0=>?_)
 clear hK K;try simp only[Act.put,List.setIfInBounds_toArray,List.set_cons_zero,List.set_cons_succ]
 refine wpAnyH_take (i := 6) (oi := ⟨some 12, Op.fieldAddr 54 (Operand.tmp 2) 1, 0, "read.go:73", #[⟨0, Ground.phase⟩, ⟨1, Ground.phase⟩, ⟨2, Ground.textOnly Departure.lateStores⟩, ⟨3, Ground.textOnly Departure.lateStoresUnsure⟩, ⟨4, Ground.textOnly Departure.lateStores⟩, ⟨5, Ground.textOnly Departure.lateStoresUnsure⟩], none⟩) (v := .pointer (some ⟨w.heap.size + 1, 1, none⟩)) rfl (by kernel_rfl) (by kernel_rfl) (by kernel_rfl) (fun _ _ _ h => h) (Or.inl ⟨by rfl, fun W hW => by (try dsimp only at hW); go_simp⟩) hS0 ?_
 try simp only[Act.put,List.setIfInBounds_toArray,List.set_cons_zero,List.set_cons_succ]
 refine wpAnyH_ready (rs:=[3]) (by kernel_rfl) (by simp) ?_
 refine AllReadyH.cons (o := ⟨some 9, Op.call { callee := Callee.value (Operand.func 35), args := #[Operand.tmp 8], argTypes := #[80] }, 9, "read.go:73", #[⟨2, Ground.data⟩, ⟨1, Ground.chain⟩], none⟩) rfl (fun K hK => ?_) AllReadyH.nil
 go_simp
 refine(rtxt_no HB.out.rd (by omega) h6 HB.out.v h3).mono ?_
 rintro e wv ⟨rfl,hnv⟩;exact bodyPost_panic rfl ⟨rfl,nb_tr HB.out.fr hnv⟩
set_option maxHeartbeats 4000000 in
theorem rch1_no4 (b g:Nat) (l r1 r2 r3 r4 r5:List UInt8) (k cb:Int) (p q t:ByteArray) (w:World) (h:Rd b l w) (hg:RBox w b g) (hs:l.length≤MaxL) (h6:5<b) (hv:VarsW w)
    (h1:Wr.rdG Wr.gN l=some (k,r1)) (h2:Wr.txtP Wr.gN 1000 r1=some (p,r2)) (h3:Wr.txtP Wr.gN 1000 r2=some (q,r3)) (h4:Wr.txtP Wr.gN 1000 r3=none):
    Calls Tryz.prog 73 #[.pointer (some ⟨g,0,none⟩)] w fun e w'=>GaveUp e∧w.grownBy w' (some b):=by
 have s1:=Wr.rd_len h1;have s2:=Wr.txt_rest h2;have s3:=Wr.txt_rest h3;have hgl:=heap_lt hg.1;have H0:=hid (r3_new h hg h6 hv);have g0:=H0.out.box.cell;have HK:=hid (rnum_ok H0.out.rd hs h6 H0.out.v h1);clear hv h hg;go_enter Tryz.func73,Tryz.ntmps73
 go_wp2_with fail;refine HK.out.mono ?_
 rintro e w1 ⟨rfl,hr1,hn1⟩;have H1:=hid (H0.out.call hn1 hr1);have c0:=H1.out.cC.cell 0 rfl;have f0:=H1.out.cC.fr 0;clear HK g0;go_wp2_with fail;obtain⟨w2,hw2⟩: ∃w2,w2=w1.setCell ⟨w.heap.size+1,0,none⟩ (.int .i64 k):=⟨_,rfl⟩
 rw[←hw2];have HA:=hid ((H1.out.set 0 (.int .i64 k)).drew);rw[←hw2]at HA;have n1: ¬g=w.heap.size+1:=by omega
 have n2: ¬w.heap.size+1=g:=by omega
 have KS:=hid (show∀(W:World) (i:Nat) (v:Value),W.cell? ⟨g,0,none⟩=some (.pointer (some ⟨b,0,none⟩))→(W.setCell ⟨w.heap.size+1,i,none⟩ v).cell? ⟨g,0,none⟩=some (.pointer (some ⟨b,0,none⟩))from fun W i v hW=>(World.cell?_of_block (w:=W) (a:=⟨g,0,none⟩) (Below.heap_setCell W _ v g (fun e=>n1 e))).trans hW);have hx0:w2.cell? ⟨g,0,none⟩=some (.pointer (some ⟨b,0,none⟩)):=HA.out.box.cell;clear hw2 c0 f0 hr1 hn1 H0 H1;have hx1:w2.drew.cell? ⟨g,0,none⟩=some (.pointer (some ⟨b,0,none⟩)):=hx0;refine wp_region_held_drew (S:=fun W=>W.cell? ⟨g,0,none⟩=some (.pointer (some ⟨b,0,none⟩))) (by kernel_rfl) hx1 (fun hS=>?_)
 refine wpAnyH_take (i := 0) (oi := ⟨some 6, Op.load 80 (Operand.tmp 0), 80, "read.go:73", #[], none⟩) (v := .pointer (some ⟨b, 0, none⟩)) rfl (by kernel_rfl) (by kernel_rfl) (by kernel_rfl) (fun _ _ _ h => h) (Or.inl ⟨by rfl, fun W hW => by (try dsimp only at hW); go_simp⟩) hS ?_
 try simp only[Act.put,List.setIfInBounds_toArray,List.set_cons_zero,List.set_cons_succ]
 refine wpAnyH_take (i := 2) (oi := ⟨some 8, Op.load 80 (Operand.tmp 0), 80, "read.go:73", #[], none⟩) (v := .pointer (some ⟨b, 0, none⟩)) rfl (by kernel_rfl) (by kernel_rfl) (by kernel_rfl) (fun _ _ _ h => h) (Or.inl ⟨by rfl, fun W hW => by (try dsimp only at hW); go_simp⟩) hS ?_
 try simp only[Act.put,List.setIfInBounds_toArray,List.set_cons_zero,List.set_cons_succ]
 refine wpAnyH_take (i := 4) (oi := ⟨some 10, Op.load 80 (Operand.tmp 0), 80, "read.go:73", #[], none⟩) (v := .pointer (some ⟨b, 0, none⟩)) rfl (by kernel_rfl) (by kernel_rfl) (by kernel_rfl) (fun _ _ _ h => h) (Or.inl ⟨by rfl, fun W hW => by (try dsimp only at hW); go_simp⟩) hS ?_
 try simp only[Act.put,List.setIfInBounds_toArray,List.set_cons_zero,List.set_cons_succ]
 refine wpAnyH_ready (rs:=[1]) (by kernel_rfl) (by simp) ?_
 refine AllReadyH.cons (o := ⟨some 7, Op.call { callee := Callee.value (Operand.func 35), args := #[Operand.tmp 6], argTypes := #[80] }, 9, "read.go:73", #[⟨0, Ground.data⟩], none⟩) rfl (fun K hK => ?_) AllReadyH.nil
 go_simp
 refine(rtxt_ok HA.out.rd (by omega) h6 HA.out.v h2).mono ?_
 rintro e wx0 ⟨rfl,hrx0,hnx0⟩;have HB:=hid (HA.out.call hnx0 hrx0);go_wp2_with fail;refine hK.out _ _ HB.out.box.cell (fun hS0=>?_)
 clear hK K;try simp only[Act.put,List.setIfInBounds_toArray,List.set_cons_zero,List.set_cons_succ]
 refine wpAnyH_take (i := 6) (oi := ⟨some 12, Op.fieldAddr 54 (Operand.tmp 2) 1, 0, "read.go:73", #[⟨0, Ground.phase⟩, ⟨1, Ground.phase⟩, ⟨2, Ground.textOnly Departure.lateStores⟩, ⟨3, Ground.textOnly Departure.lateStoresUnsure⟩, ⟨4, Ground.textOnly Departure.lateStores⟩, ⟨5, Ground.textOnly Departure.lateStoresUnsure⟩], none⟩) (v := .pointer (some ⟨w.heap.size + 1, 1, none⟩)) rfl (by kernel_rfl) (by kernel_rfl) (by kernel_rfl) (fun _ _ _ h => h) (Or.inl ⟨by rfl, fun W hW => by (try dsimp only at hW); go_simp⟩) hS0 ?_
 try simp only[Act.put,List.setIfInBounds_toArray,List.set_cons_zero,List.set_cons_succ]
 refine wpAnyH_ready (rs:=[3]) (by kernel_rfl) (by simp) ?_
 refine AllReadyH.cons (o := ⟨some 9, Op.call { callee := Callee.value (Operand.func 35), args := #[Operand.tmp 8], argTypes := #[80] }, 9, "read.go:73", #[⟨2, Ground.data⟩, ⟨1, Ground.chain⟩], none⟩) rfl (fun K hK => ?_) AllReadyH.nil
 go_simp
 refine(rtxt_ok HB.out.rd (by omega) h6 HB.out.v h3).mono ?_
 rintro e wx1 ⟨rfl,hrx1,hnx1⟩;have HD:=hid (HB.out.call hnx1 hrx1);go_wp2_with fail;refine hK.out _ _ HD.out.box.cell (fun hS1=>?_)
 clear hK K;try simp only[Act.put,List.setIfInBounds_toArray,List.set_cons_zero,List.set_cons_succ]
 refine wpAnyH_ready (rs:=[5]) (by kernel_rfl) (by simp) ?_
 refine AllReadyH.cons (o := ⟨some 11, Op.call { callee := Callee.value (Operand.func 35), args := #[Operand.tmp 10], argTypes := #[80] }, 9, "read.go:73", #[⟨4, Ground.data⟩, ⟨3, Ground.chain⟩], none⟩) rfl (fun K hK => ?_) AllReadyH.nil
 go_simp
 refine(rtxt_no HD.out.rd (by omega) h6 HD.out.v h4).mono ?_
 rintro e wv ⟨rfl,hnv⟩;exact bodyPost_panic rfl ⟨rfl,nb_tr HD.out.fr hnv⟩
set_option maxHeartbeats 4000000 in
theorem rch1_no5 (b g:Nat) (l r1 r2 r3 r4 r5:List UInt8) (k cb:Int) (p q t:ByteArray) (w:World) (h:Rd b l w) (hg:RBox w b g) (hs:l.length≤MaxL) (h6:5<b) (hv:VarsW w)
    (h1:Wr.rdG Wr.gN l=some (k,r1)) (h2:Wr.txtP Wr.gN 1000 r1=some (p,r2)) (h3:Wr.txtP Wr.gN 1000 r2=some (q,r3)) (h4:Wr.txtP Wr.gN 1000 r3=some (t,r4)) (h5:Wr.rdG Wr.gN r4=none):
    Calls Tryz.prog 73 #[.pointer (some ⟨g,0,none⟩)] w fun e w'=>GaveUp e∧w.grownBy w' (some b):=by
 have s1:=Wr.rd_len h1;have s2:=Wr.txt_rest h2;have s3:=Wr.txt_rest h3;have s4:=Wr.txt_rest h4;have hgl:=heap_lt hg.1;have H0:=hid (r3_new h hg h6 hv);have g0:=H0.out.box.cell;have HK:=hid (rnum_ok H0.out.rd hs h6 H0.out.v h1);clear hv h hg;go_enter Tryz.func73,Tryz.ntmps73
 go_wp2_with fail;refine HK.out.mono ?_
 rintro e w1 ⟨rfl,hr1,hn1⟩;have H1:=hid (H0.out.call hn1 hr1);have c0:=H1.out.cC.cell 0 rfl;have f0:=H1.out.cC.fr 0;clear HK g0;go_wp2_with fail;obtain⟨w2,hw2⟩: ∃w2,w2=w1.setCell ⟨w.heap.size+1,0,none⟩ (.int .i64 k):=⟨_,rfl⟩
 rw[←hw2];have HA:=hid ((H1.out.set 0 (.int .i64 k)).drew);rw[←hw2]at HA;have n1: ¬g=w.heap.size+1:=by omega
 have n2: ¬w.heap.size+1=g:=by omega
 have KS:=hid (show∀(W:World) (i:Nat) (v:Value),W.cell? ⟨g,0,none⟩=some (.pointer (some ⟨b,0,none⟩))→(W.setCell ⟨w.heap.size+1,i,none⟩ v).cell? ⟨g,0,none⟩=some (.pointer (some ⟨b,0,none⟩))from fun W i v hW=>(World.cell?_of_block (w:=W) (a:=⟨g,0,none⟩) (Below.heap_setCell W _ v g (fun e=>n1 e))).trans hW);have hx0:w2.cell? ⟨g,0,none⟩=some (.pointer (some ⟨b,0,none⟩)):=HA.out.box.cell;clear hw2 c0 f0 hr1 hn1 H0 H1;go_cut [0,1,2] (fun x y z W=>x= .pointer (some ⟨g,0,none⟩)∧y= .pointer (some ⟨w.heap.size,0,none⟩)∧z= .pointer (some ⟨w.heap.size+1,0,none⟩)∧Hid (R3 w b g (w.heap.size+1) w.heap.size r4 [.int .i64 k,.string p,.string q,.string t,.int .i64 0] W))
 case first=>
  go_region_held3 (fun W=>W.cell? ⟨g,0,none⟩=some (.pointer (some ⟨b,0,none⟩))) (first|go_keep|exact KS.out _ _ _ jz|exact KS.out _ _ _ (KS.out _ _ _ jz)|exact KS.out _ _ _ (KS.out _ _ _ (KS.out _ _ _ jz))|exact KS.out _ _ _ jy|exact KS.out _ _ _ (KS.out _ _ _ jy)) (first|(go_at_call 35;refine(rtxt_ok HA.out.rd (by omega) h6 HA.out.v h2).mono ?_;rintro e wx ⟨rfl,hrx,hnx⟩;have HB:=hid (HA.out.call hnx hrx);have jx:=HB.out.box.cell)|(go_at_call 35;refine(rtxt_ok HB.out.rd (by omega) h6 HB.out.v h3).mono ?_;rintro e wy ⟨rfl,hry,hny⟩;have HD:=hid (HB.out.call hny hry);have jy:=HD.out.box.cell;have yc1:=HD.out.cC.cell 1 rfl;have yf1:=HD.out.cC.fr 1;have yc2:=HD.out.cC.cell 2 rfl;have yf2:=HD.out.cC.fr 2;have yc3:=HD.out.cC.cell 3 rfl;have yf3:=HD.out.cC.fr 3)|(go_at_call 35;refine(rtxt_ok HD.out.rd (by omega) h6 HD.out.v h4).mono ?_;rintro e wz ⟨rfl,hrz,hnz⟩;have HE:=hid (HD.out.call hnz hrz);have jz:=HE.out.box.cell;have zc1:=HE.out.cC.cell 1 rfl;have zf1:=HE.out.cC.fr 1;have zc2:=HE.out.cC.cell 2 rfl;have zf2:=HE.out.cC.fr 2;have zc3:=HE.out.cC.cell 3 rfl;have zf3:=HE.out.cC.fr 3)|(go_at_call 35;refine(rtxt_ok (HD.out.set 1 (.string p)).rd (by omega) h6 (HD.out.set 1 (.string p)).v h4).mono ?_;rintro e wz ⟨rfl,hrz,hnz⟩;have HE:=hid ((HD.out.set 1 (.string p)).call hnz hrz);have jz:=HE.out.box.cell;have zc1:=HE.out.cC.cell 1 rfl;have zf1:=HE.out.cC.fr 1;have zc2:=HE.out.cC.cell 2 rfl;have zf2:=HE.out.cC.fr 2;have zc3:=HE.out.cC.cell 3 rfl;have zf3:=HE.out.cC.fr 3)|(go_at_call 35;refine(rtxt_ok ((HD.out.set 1 (.string p)).set 2 (.string q)).rd (by omega) h6 ((HD.out.set 1 (.string p)).set 2 (.string q)).v h4).mono ?_;rintro e wz ⟨rfl,hrz,hnz⟩;have HE:=hid (((HD.out.set 1 (.string p)).set 2 (.string q)).call hnz hrz);have jz:=HE.out.box.cell;have zc1:=HE.out.cC.cell 1 rfl;have zf1:=HE.out.cC.fr 1;have zc2:=HE.out.cC.cell 2 rfl;have zf2:=HE.out.cC.fr 2;have zc3:=HE.out.cC.cell 3 rfl;have zf3:=HE.out.cC.fr 3))
  go_wp2_with fail;go_meet
  case rel=>exact⟨rfl,rfl,rfl,((HE.out.set 1 (.string p)).set 2 (.string q)).set 3 (.string t)⟩
 case rest=>
  obtain⟨rfl,rfl,rfl,HF⟩:=hcut
  have u0:=HF.out.box.cell;have HN:=hid (rnum_no HF.out.rd (by omega) h6 HF.out.v h5);clear HA hx0 KS;go_wp2_with fail;refine HN.out.mono ?_
  rintro e w5 ⟨rfl,hn5⟩;exact bodyPost_panic rfl ⟨rfl,nb_tr HF.out.fr hn5⟩
end Go.Proofs.YtppdfeehhnofaaaGreatDoor
namespace Go.Proofs.YtppdfeehhnofaaaGreatDoor
open Go.RowKit

namespace Wr
/-- So many more are read behind those that are there. -/
def repA {α:Type} (p:Ps α) (n:Nat) (xs:List α) (l:List UInt8):Option (List α×List UInt8):=match repP p n l with
 |none=>none
 |some (ys,r)=>some (xs++ys,r)
theorem repA_nil {α:Type} (p:Ps α) (n:Nat) (l:List UInt8):repP p n l=repA p n [] l:=by
 unfold repA;split<;>simp_all
theorem repA_zero {α:Type} (p:Ps α) (xs:List α) (l:List UInt8):repA p 0 xs l=some (xs,l):=by simp[repA,repP,pureP]
theorem repA_no {α:Type} {p:Ps α} {n:Nat} {xs:List α} {l:List UInt8} (h:p l=none):repA p (n+1) xs l=none:=by simp[repA,repP,bindP,h]
theorem repA_yes {α:Type} {p:Ps α} {n:Nat} {xs:List α} {l r:List UInt8} {x:α} (h:p l=some (x,r)):repA p (n+1) xs l=repA p n (xs++[x]) r:=by
 unfold repA;rw[show repP p (n+1) l=bindP p (fun x=>bindP (repP p n) fun xs=>pureP (x::xs)) l from rfl,bind_some h];cases h2:repP p n r with
 |none=>rw[bind_none h2]
 |some z=>obtain⟨ys,r'⟩:=z;rw[bind_some h2];simp[pureP]
theorem lst_none {α:Type} {g:Int→Bool} {m:Int} {p:Ps α} {l:List UInt8} (h:cntP g m l=none):lstP g m p l=none:=bind_none h
theorem lst_some {α:Type} {g:Int→Bool} {m:Int} {p:Ps α} {l r:List UInt8} {n:Int} (h:cntP g m l=some (n,r)):lstP g m p l=repA p n.toNat [] r:=by
 rw[←repA_nil];exact bind_some h
/-- What is read is not longer than what there was. -/
def Shr {α:Type} (p:Ps α):Prop:= ∀l x r,p l=some (x,r)→r.length≤l.length
theorem shr_rd (g:Int→Bool):Shr (rdG g):=fun _ _ _ h=>rd_len h
theorem shr_txt (g:Int→Bool) (m:Int):Shr (txtP g m):=fun _ _ _ h=>txt_rest h
theorem shr_cnt (g:Int→Bool) (m:Int):Shr (cntP g m):=fun _ _ _ h=>cnt_len h
theorem shr_pure {α:Type} (x:α):Shr (pureP x):=fun l y r h=>by
 simp only[pureP,Option.some.injEq,Prod.mk.injEq]at h;rw[h.2];exact Nat.le_refl _
theorem shr_bind {α β:Type} {p:Ps α} {f:α→Ps β} (hp:Shr p) (hf: ∀x,Shr (f x)):Shr (bindP p f):=fun l y r h=>by
 unfold bindP at h;split at h
 · cases h
 · rename_i x r' hx
   exact Nat.le_trans (hf _ _ _ _ h) (hp _ _ _ hx)
theorem shr_rep {α:Type} {p:Ps α} (hp:Shr p): ∀n,Shr (repP p n)
 |0=>shr_pure _
 |n+1=>shr_bind hp fun _=>shr_bind (shr_rep hp n) fun _=>shr_pure _
theorem shr_lst {α:Type} {p:Ps α} (g:Int→Bool) (m:Int) (hp:Shr p):Shr (lstP g m p):=shr_bind (shr_cnt g m) fun _=>shr_rep hp _
theorem shr_yes (g:Int→Bool):Shr (yesP g):=shr_bind (shr_cnt g 1) fun _=>shr_pure _
theorem shr_ch (g:Int→Bool) (m:Int):Shr (chP g m):=shr_bind (shr_rd g) fun _=>shr_bind (shr_txt g m) fun _=>shr_bind (shr_txt g m) fun _=>shr_bind (shr_txt g m) fun _=>shr_bind (shr_rd g) fun _=>shr_pure _
end Wr

/-- The cells of an element. -/
def ElV (n:Nat) {α:Type} (V:α→List Value→World→Prop) (z:α×List Value) (W:World):Prop:=V z.1 z.2 W∧z.2.length=n∧ ∀u∈z.2,u.oneCell'=true
/-- A row of one's own that was read. -/
def RowV (B:Nat) (T:TypeId) (n:Nat) {α:Type} (V:α→List Value→World→Prop) (xs:List α) (v:Value) (W:World):Prop:=
 ∃Z:List (α×List Value),Z.map (·.1)=xs∧W.ownsRow B T n v Z.length (Z.map (·.2)).flatten∧ ∀z∈Z,ElV n V z W
theorem rowV_nil (B:Nat) (T:TypeId) (n:Nat) {α:Type} (V:α→List Value→World→Prop) (W:World):RowV B T n V [] (.slice none 0 0) W:=⟨[],rfl,World.ownsRow_nil _ _ _ _,by simp⟩
/-- One change that is read. -/
theorem rch1_any (b g:Nat) (l:List UInt8) (w:World) (h:Rd b l w) (hg:RBox w b g) (hs:l.length≤MaxL) (h6:5<b) (hv:VarsW w):
    Calls Tryz.prog 73 #[.pointer (some ⟨g,0,none⟩)] w fun e w'=>RdPost b (Wr.chP Wr.gN 1000 l) (fun c v _=>v= .agg #[.int .i64 c.k,.string c.p,.string c.q,.string c.t,.int .i64 c.b]) e w'∧w.grownBy w' (some b):=by
 unfold Wr.chP;cases h1:Wr.rdG Wr.gN l with
 |none=>exact(rch1_no1 b g l [] [] [] [] [] 0 0 ⟨#[]⟩ ⟨#[]⟩ ⟨#[]⟩ w h hg hs h6 hv h1).mono fun e w' hh=>⟨RdPost.no (Wr.bind_none h1) hh.1,hh.2⟩
 |some z1=>
 obtain⟨k,r1⟩:=z1
 rw[Wr.bind_some h1];cases h2:Wr.txtP Wr.gN 1000 r1 with
 |none=>exact(rch1_no2 b g l r1 [] [] [] [] k 0 ⟨#[]⟩ ⟨#[]⟩ ⟨#[]⟩ w h hg hs h6 hv h1 h2).mono fun e w' hh=>⟨RdPost.no (Wr.bind_none h2) hh.1,hh.2⟩
 |some z2=>
 obtain⟨p,r2⟩:=z2
 rw[Wr.bind_some h2];cases h3:Wr.txtP Wr.gN 1000 r2 with
 |none=>exact(rch1_no3 b g l r1 r2 [] [] [] k 0 p ⟨#[]⟩ ⟨#[]⟩ w h hg hs h6 hv h1 h2 h3).mono fun e w' hh=>⟨RdPost.no (Wr.bind_none h3) hh.1,hh.2⟩
 |some z3=>
 obtain⟨q,r3⟩:=z3
 rw[Wr.bind_some h3];cases h4:Wr.txtP Wr.gN 1000 r3 with
 |none=>exact(rch1_no4 b g l r1 r2 r3 [] [] k 0 p q ⟨#[]⟩ w h hg hs h6 hv h1 h2 h3 h4).mono fun e w' hh=>⟨RdPost.no (Wr.bind_none h4) hh.1,hh.2⟩
 |some z4=>
 obtain⟨t,r4⟩:=z4
 rw[Wr.bind_some h4];cases h5:Wr.rdG Wr.gN r4 with
 |none=>exact(rch1_no5 b g l r1 r2 r3 r4 [] k 0 p q t w h hg hs h6 hv h1 h2 h3 h4 h5).mono fun e w' hh=>⟨RdPost.no (Wr.bind_none h5) hh.1,hh.2⟩
 |some z5=>
 obtain⟨cb,r5⟩:=z5
 exact(rch1_ok b g l r1 r2 r3 r4 r5 k cb p q t w h hg hs h6 hv h1 h2 h3 h4 h5).mono fun e w' hh=>⟨RdPost.yes (x:=⟨k,p,q,t,cb⟩) _ (Wr.bind_some h5) hh.1 rfl hh.2.1,hh.2.2⟩
theorem ownsRow_nbX {w w':World} {base:Nat} {e:TypeId} {size:Nat} {v:Value} {n:Nat} {xs:List Value} {g:Nat} (h:w.ownsRow base e size v n xs) (hw:w.grownBy w' (some g)) (hg:g<base):w'.ownsRow base e size v n xs:=
 h.kept (row:=some g) hw (by
  cases hv:v.ownBlock with
  |none=>exact Or.inl rfl
  |some q=>exact Or.inr (fun he=>by injection he with he;have:=(h.lt q hv).1;omega))
theorem nb_then {w W W':World} {b:Nat} (h:w.grownBy W (some b)) (k:Below w.heap.size W W'):w.grownBy W' (some b):=⟨k.os.trans h.os,k.tape.trans h.tape,k.output.trans h.output,Nat.le_trans h.size k.size,fun x hx hn=>(k.block x hx).trans (h.block x hx hn)⟩
theorem Rd.belowB {b B:Nat} {l:List UInt8} {w w':World} (h:Rd b l w) (hb:Below B w w') (hB:b<B):Rd b l w':=(hb.block b hB).trans h
theorem RBox.belowB {b g B:Nat} {w w':World} (h:RBox w b g) (hb:Below B w w') (hB:g<B):RBox w' b g:=⟨(hb.block g hB).trans h.1,h.2⟩
/-- A row that was read stays, while other blocks are written. -/
theorem RowV.snoc {B:Nat} {T:TypeId} {n:Nat} {α:Type} {V:α→List Value→World→Prop} {Z:List (α×List Value)} {x:α} {r:List Value} {v:Value} {W:World} (ho:W.ownsRow B T n v (Z.length+1) ((Z.map (·.2)).flatten++r)) (h: ∀z∈Z,ElV n V z W) (hx:ElV n V (x,r) W):RowV B T n V (Z.map (·.1)++[x]) v W:=by
 refine⟨Z++[(x,r)],by simp,by simpa using ho,fun z hz=>?_⟩
 rcases List.mem_append.1 hz with h1|h1
 · exact h z h1
 · rw[List.mem_singleton]at h1;rw[h1];exact hx
theorem ownsRow_lowX {w:World} {B B':Nat} {e:TypeId} {size:Nat} {v:Value} {n:Nat} {xs:List Value} (h:w.ownsRow B e size v n xs) (hB:B'≤B):w.ownsRow B' e size v n xs:=by
 obtain⟨h1,h2⟩:=h
 refine⟨h1,?_⟩
 rcases h2 with h2|⟨g,cap,cur,hv,hg,r⟩
 · exact .inl h2
 · exact .inr ⟨g,cap,cur,hv,Nat.le_trans hB hg,r⟩
end Go.Proofs.YtppdfeehhnofaaaGreatDoor
namespace Go.Proofs.YtppdfeehhnofaaaGreatDoor
open Go.RowKit

/-- What may be appended: nil, or so many records that lie at an address. -/
def SrcC (w:World) (sx:Value) (m size:Nat) (news:List Value):Prop:=(sx= .slice none 0 0∧m=0∧news=[])∨ ∃ad c,sx= .slice (some ad) m c∧news.length=m*size∧(∀j u,news[j]?=some u→w.cell? (ad.add j)=some u)
theorem SrcC.own {w:World} {B:Nat} {e:TypeId} {size:Nat} {v:Value} {n:Nat} {xs:List Value} (h:w.ownsRow B e size v n xs):SrcC w v n size xs:=by
 have h':=h;obtain⟨hl,h2⟩:=h
 rcases h2 with⟨rfl,rfl⟩|⟨g,cap,cur,rfl,hg,hh,hn,hm,hz,htake⟩
 · exact Or.inl ⟨rfl,rfl,List.length_eq_zero_iff.1 (by rw[hl];simp)⟩
 · refine Or.inr ⟨⟨g,0,none⟩,cap,rfl,hl,fun j u hj=>?_⟩
   have hadd:(⟨g,0,none⟩:Addr).add j=⟨g,j,none⟩:=by unfold Addr.add;split<;>simp_all
   have hlt:j<n*size:=by
    have:=(List.getElem?_eq_some_iff.1 hj).1
    omega
   rw[hadd,h'.cellAt j hlt];exact hj
end Go.Proofs.YtppdfeehhnofaaaGreatDoor
