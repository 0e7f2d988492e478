/- What settle does: what is at each path, and what must go aside. -/
import Derived.Test.YtagibnejodgeeaaGreatDoorRUK
set_option linter.unusedSimpArgs false
set_option linter.unusedVariables false
namespace Go.Proofs.YtagibnejodgeeaaGreatDoor
open Go.RowKit Go.Maps Go.WideMaps

theorem Mg.sets_hit {f:List UInt8→Spo} {U:List En} {k:Nat} (hk:k<U.length) (h:(f U[k].path.data.toList).w≠0):Mg.sets f (U.take (k+1))=Mg.sets f (U.take k)++[Mg.enOf U[k].path (f U[k].path.data.toList)]:=by
 rw[Mg.sets,Mg.sets,List.take_succ_eq_append_getElem hk,List.filterMap_append];congr 1
 simp only[List.filterMap_cons,List.filterMap_nil,Mg.set1,if_neg h]
theorem Mg.sets_miss {f:List UInt8→Spo} {U:List En} {k:Nat} (hk:k<U.length) (h:(f U[k].path.data.toList).w=0):Mg.sets f (U.take (k+1))=Mg.sets f (U.take k):=by
 rw[Mg.sets,Mg.sets,List.take_succ_eq_append_getElem hk,List.filterMap_append];simp only[List.filterMap_cons,List.filterMap_nil,Mg.set1,if_pos h,List.append_nil]
theorem Mg.D_enOf (L:List En) (p:ByteArray) {s:Spo} (h:Mg.Ok s) (h0:s.w≠0):(Sp.D L).put (.string p.data.toList) (Sp.dat s.w s.t s.v)=Sp.D (L++[Mg.enOf p s]):=by
 have e:=Mg.spo_enOf (p:=p) h h0;rw[Sp.D_snoc,Sp.put];have e1:Sp.wh (Mg.enOf p s)=s.w:=congrArg Spo.w e;have e2:Sp.tx (Mg.enOf p s)=s.t:=congrArg Spo.t e;have e3:(Mg.enOf p s).ver=s.v:=rfl;rw[e1,e2,e3];rfl
/-- Behind a map of one's own that was written. -/
theorem JoinM.kept {B c:Nat} {w w':World} {j bm bt bn g:Nat} {vc:Value} {M T N:List En} {C:List (ByteArray×ByteArray)} (h:JoinM B c w j bm bt bn vc M T N C) (hw:w.grownBy w' (some g)) (h1:j≠g) (h2:bm≠g) (h3:bt≠g) (h4:bn≠g) (h5:vc.ownBlock≠some g):JoinM B c w' j bm bt bn vc M T N C:=by
 obtain⟨p1,⟨n1,l1,m1⟩,⟨n2,l2,m2⟩,⟨n3,l3,m3⟩,p5,p6,p7,p8,p9⟩:=h
 exact⟨(hw.block j (heap_lt p1) (fun e=>h1 (by injection e))).trans p1,⟨n1,l1,m1.kept hw (fun e=>h2 (by injection e))⟩,⟨n2,l2,m2.kept hw (fun e=>h3 (by injection e))⟩,⟨n3,l3,m3.kept hw (fun e=>h4 (by injection e))⟩,p5.kept (row:=some g) hw (Or.inr h5),p6,p7,p8,p9⟩
theorem box_ne_map' {w:World} {j b k:Nat} {vs:List Value} {D:DataW Unit} (h:Cs w j vs) (hm:w.ownsMap Tryz.prog 9 Sp.rd b k D):j≠b:=by
 obtain⟨T,h⟩:=h
 exact box_ne_map h hm
theorem go_wanted {P:Program} {o:Oper} {a:Act} {w:World} {ops:Array Oper} {K:Act→World→Prop} {Q:Exit→Act→World→Prop} (h:Region.wanted o (yielded ops a.tmps)=true) (h2:Oper.wp P o a w K Q):if Region.wanted o (yielded ops a.tmps)=true then Oper.wp P o a w K Q else K (a.put o.dst undef) w:=by
 rw[if_pos h];exact h2
theorem Tryz.makeSpots0 (w:World):(Instr.makeMap 52 none).run Tryz.prog w= .ok (.map (some w.heap.size)) (w.alloc (.map #[] 0)):=by
 simp[Instr.makeMap,run_underlying Tryz.underlying52,asInt,asIntOf,Result.andThen]
set_option maxRecDepth 100000 in
set_option maxHeartbeats 4000000 in
theorem settle_any {A:Nat} {w:World} {j bm bt bn bb nb:Nat} {vc:Value} {B M T:List En} (h:JoinM A 0 w j bm bt bn vc M T [] []) (hb:w.ownsMap Tryz.prog 9 Sp.rd bb nb (Sp.D B)) (hbn:bb≠bn) (hnb:nb≤1000) (gB:Pp.Good B) (gM:Pp.Good M) (gT:Pp.Good T):
    Calls Tryz.prog 58 #[.pointer (some ⟨j,0,none⟩),.map (some bb)] w fun e w'=> ∃ba na,e= .returned (.map (some ba))∧w'.ownsMap Tryz.prog 9 Sp.rd ba na (Sp.D (Mg.asi0 B M T))∧na≤180∧w.heap.size≤ba∧JoinM A 180 w' j bm bt bn vc M T (Mg.now0 B M T) []∧Below A w w':=by
 have HJ:=hid h;have HB:=hid gB.rise;have HM:=hid gM.rise;have HT:=hid gT.rise;have hAw:A≤w.heap.size:=by have:=h.lej;have:=heap_lt h.box;omega
 obtain⟨wz,hwz⟩: ∃wz,wz=w.alloc (.map #[] 0):=⟨_,rfl⟩
 have hbz:Below w.heap.size w wz:=by rw[hwz];exact(Below.refl _ _).alloc (Nat.le_refl _) _
 have hul:=Mg.uni_len B M T;have lB:=gB.len;have lM:=gM.len;have lT:=gT.len;have hmm:=Tryz.makeSpots0
 have hpl: ∀i (hi:i<(Mg.uni B M T).length),(Mg.uni B M T)[i].path.size≤maxLen:=by
  intro i hi;have:=Mg.uni_len80 gB gM gT (List.getElem_mem hi)
  unfold maxLen;omega
 have HPL:=hid hpl;have HO:=hid (show wz.ownsMap Tryz.prog 9 Sp.rd w.heap.size 0 (Sp.D [])from by rw[hwz];exact World.ownsMap_made w Tryz.prog 9 Sp.rd);have HJz:=hid (HJ.out.below hbz);have HBz:=hid (omap_below hb hbz hb.lt);have HBl:Hid (bb<w.heap.size):=hb.lt;clear h hb hpl gB gM gT;go_enter Tryz.func58,Tryz.ntmps58
 go_wp2_with fail;rw[←hwz];clear hmm;refine(jpaths_any (HJz.out.join (by omega)) HBz.out HB.out HM.out HT.out hnb lB lM lT).mono ?_
 rintro e w1 ⟨v,rfl,hrow,hb1⟩;obtain⟨a,cap,rfl⟩:=ownsRow_shape hrow
 have HR1:=hid hrow;have HO1:=hid (omap_below HO.out hb1 HO.out.lt);have HJ1:=hid (HJz.out.below hb1);have HB1:=hid (omap_below HBz.out hb1 HBz.out.lt);have hwzs:wz.heap.size=w.heap.size+1:=by rw[hwz];simp
 have hbw1:Below w.heap.size w w1:=below_tr hbz hb1;clear hrow hwz;obtain⟨U,HU⟩: ∃U,Hid (U=Mg.uni B M T):=⟨_,rfl⟩
 have hUl:(Mg.uni B M T).length=U.length:=by rw[HU.out]
 rw[←HU.out]at HR1 HPL;rw[hUl]at hul⊢;go_wp2_with fail;go_loopw [15] (fun x wr=> ∃(k na:Nat),k≤U.length∧x= .int .i64 k∧na≤k∧Hid (wr.ownsMap Tryz.prog 9 Sp.rd w.heap.size na (Sp.D (Mg.sets (Mg.fG B M T) (U.take k))))∧Hid (JoinM A k wr j bm bt bn vc M T (Mg.sets (Mg.fS B M T) (U.take k)) [])∧Hid (wr.ownsMap Tryz.prog 9 Sp.rd bb nb (Sp.D B))∧Hid (wr.ownsRow wz.heap.size 9 1 (.slice a U.length cap) U.length (U.map (fun e=>Value.string e.path)))∧Below A w wr) (fun x _=>U.length-(intOf x).toNat)
 case atStart=>exact⟨0,0,Nat.zero_le _,rfl,Nat.le_refl _,HO1,HJ1,HB1,HR1,hbw1.mono hAw⟩
 case round=>
  obtain⟨k,na,hk,rfl,hna,HOk,HJk,HBk,HRk,hbel⟩:=hrel
  by_cases hlt:k<U.length
  · obtain⟨g,rfl⟩:=row_some HRk.out (by omega)
    have hcell:=HRk.out.cellAt k (by rw[Nat.mul_one];omega);rw[List.getElem?_map,List.getElem?_eq_getElem hlt,Option.map_some]at hcell;have hlt':(k:Int)<U.length:=by omega
    have hps:U[k].path.size≤maxLen:=HPL.out k hlt;have HS1:Hid ((Mg.fS B M T U[k].path.data.toList).w≠0→Mg.sets (Mg.fS B M T) (U.take (k+1))=Mg.sets (Mg.fS B M T) (U.take k)++[Mg.enOf U[k].path (Mg.fS B M T U[k].path.data.toList)]):=Mg.sets_hit hlt;have HS2:Hid ((Mg.fS B M T U[k].path.data.toList).w=0→Mg.sets (Mg.fS B M T) (U.take (k+1))=Mg.sets (Mg.fS B M T) (U.take k)):=Mg.sets_miss hlt;have HG1:Hid ((Mg.fG B M T U[k].path.data.toList).w≠0→Mg.sets (Mg.fG B M T) (U.take (k+1))=Mg.sets (Mg.fG B M T) (U.take k)++[Mg.enOf U[k].path (Mg.fG B M T U[k].path.data.toList)]):=Mg.sets_hit hlt;have HG2:Hid ((Mg.fG B M T U[k].path.data.toList).w=0→Mg.sets (Mg.fG B M T) (U.take (k+1))=Mg.sets (Mg.fG B M T) (U.take k)):=Mg.sets_miss hlt;generalize U[k].path=p at*;have hoS:Hid (Mg.Ok (Mg.fS B M T p.data.toList)):=Mg.fS_ok B M T _;have hoG:Hid (Mg.Ok (Mg.fG B M T p.data.toList)):=Mg.fG_ok B M T _;have hdr:Below wr.heap.size wr wr.drew:=(Below.refl _ _).drew;have k1:=spotSt (omap_below HBk.out hdr HBk.out.lt) (Sp.apart_rise HB.out) p hps;obtain⟨n1,l1,m1⟩:=HJk.out.mine
    obtain⟨n2,l2,m2⟩:=HJk.out.theirs
    have k2:=spotSt (omap_below m1 hdr m1.lt) (Sp.apart_rise HM.out) p hps;have k3:=spotSt (omap_below m2 hdr m2.lt) (Sp.apart_rise HT.out) p hps;have hbx:Cs wr j [.map (some bm),.map (some bt),.map (some bn),vc]:=⟨_,HJk.out.box⟩
    have c0:=hbx.cell 0 rfl;have c1:=hbx.cell 1 rfl;have HBX:=hid hbx;have HK1:=hid (show∀w':World,Below wr.heap.size wr w'→(Instr.lookup 52 (.map (some bb)) (.string p) false).run Tryz.prog w'= .ok (.agg #[.int .i64 (Mg.st B p.data.toList).w,.string (Mg.st B p.data.toList).t,.int .i64 (Mg.st B p.data.toList).v]) w' from fun w' hw=>spotSt (omap_below HBk.out hw HBk.out.lt) (Sp.apart_rise HB.out) p hps);have HK2:=hid (show∀w':World,Below wr.heap.size wr w'→(Instr.lookup 52 (.map (some bm)) (.string p) false).run Tryz.prog w'= .ok (.agg #[.int .i64 (Mg.st M p.data.toList).w,.string (Mg.st M p.data.toList).t,.int .i64 (Mg.st M p.data.toList).v]) w' from fun w' hw=>spotSt (omap_below m1 hw m1.lt) (Sp.apart_rise HM.out) p hps);have HK3:=hid (show∀w':World,Below wr.heap.size wr w'→(Instr.lookup 52 (.map (some bt)) (.string p) false).run Tryz.prog w'= .ok (.agg #[.int .i64 (Mg.st T p.data.toList).w,.string (Mg.st T p.data.toList).t,.int .i64 (Mg.st T p.data.toList).v]) w' from fun w' hw=>spotSt (omap_below m2 hw m2.lt) (Sp.apart_rise HT.out) p hps);have HQ1:=hid (show Mg.fS B M T p.data.toList=Mg.stays (Mg.st B p.data.toList) (Mg.st M p.data.toList) (Mg.st T p.data.toList)from rfl);have HQ2:=hid (show Mg.fG B M T p.data.toList=Mg.goes (Mg.st B p.data.toList) (Mg.st M p.data.toList) (Mg.st T p.data.toList)from rfl);generalize Mg.st B p.data.toList=xb at*;generalize Mg.st M p.data.toList=xm at*;generalize Mg.st T p.data.toList=xt at*;clear m1 m2 hbx;go_wp2_with fail;clear hcell c0 c1 k1 k2 k3;generalize Mg.fS B M T p.data.toList=xs at*;generalize Mg.fG B M T p.data.toList=xg at*;refine Code.wp_mono (Q:=fun e a w'=>e=Exit.normal∧ ∃(b8 b9:Nat) (y19 y20 y21 y22 y23 y24 y25 y26 y27 y28 y29 y30 y31 y32 y33 y34 y35 y36 y37:Value),wr.heap.size≤b8∧wr.heap.size≤b9∧b8≠b9∧Below wr.heap.size wr w'∧Hid (Cs w' b8 [.int .i64 xs.w,.string xs.t,.int .i64 xs.v])∧Hid (Cs w' b9 [.int .i64 xg.w,.string xg.t,.int .i64 xg.v])∧a=⟨#[Value.pointer (some ⟨j,0,none⟩),Value.map (some bb),undef,undef,Value.map none,Value.map (some w.heap.size),undef,Value.string p,Value.pointer (some ⟨b8,0,none⟩),Value.pointer (some ⟨b9,0,none⟩),Value.map (some w.heap.size),Value.pointer (some ⟨j,0,none⟩),Value.map (some bb),Value.slice (some ⟨g,0,none⟩) U.length cap,Value.int .i64 U.length,Value.int .i64 k,Value.bool true,Value.pointer (some ⟨g,k,none⟩),Value.string p,y19,y20,y21,y22,y23,y24,y25,y26,y27,y28,y29,y30,y31,y32,y33,y34,y35,y36,y37,u38,u39,u40,u41,u42,u43,u44,u45,u46,u47,u48,u49,u50,u51,u52,u53,undef],[]⟩) ?_ ?_
    · rintro e a w2 ⟨rfl,b8,b9,y19,y20,y21,y22,y23,y24,y25,y26,y27,y28,y29,y30,y31,y32,y33,y34,y35,y36,y37,hb8,hb9,hne,hb2,HX8,HX9,rfl⟩
      obtain⟨sw,st,sv⟩:=xs
      obtain⟨gw,gt,gv⟩:=xg
      simp only at HX8 HX9 HS1 HS2 HG1 HG2;clear HQ1 HQ2 HK1 HK2 HK3 HBX hdr;have HJ2:=hid (HJk.out.below hb2);have HO2:=hid (omap_below HOk.out hb2 HOk.out.lt);have HB2:=hid (omap_below HBk.out hb2 HBk.out.lt);have HR2:=hid (HRk.out.kept9 hb2);have hbw2:Below A w w2:=hbel.trans (hb2.mono (Nat.le_trans hAw hbel.size));have hkw:=hbel.size;have hsz2:=hb2.size;clear hb2 HJk HOk HBk HRk hbel;have hszA:A≤w2.heap.size:=Nat.le_trans hAw (Nat.le_trans hkw hsz2);have hbx:Cs w2 j [.map (some bm),.map (some bt),.map (some bn),vc]:=⟨_,HJ2.out.box⟩
      have hjg:j≠w.heap.size:=Nat.ne_of_lt (heap_lt HJ.out.box);have c2:=hbx.cell 2 rfl;have hbnA:=HJ2.out.len;obtain⟨nn1,ll1,mm1⟩:=HJ.out.now
      have hbnl:bn<w.heap.size:=mm1.lt;obtain⟨nn2,ll2,mm2⟩:=HJ.out.mine
      have hbml:bm<w.heap.size:=mm2.lt;obtain⟨nn3,ll3,mm3⟩:=HJ.out.theirs
      have hbtl:bt<w.heap.size:=mm3.lt;have hbbl:=HBl.out;have hvb:vc.ownBlock≠some w.heap.size:=own_ne_map HJ2.out.row HO2.out;clear mm1 mm2 mm3;have hszA:A≤w2.heap.size:=Nat.le_trans hAw (Nat.le_trans hkw hsz2);have hbx:Cs w2 j [.map (some bm),.map (some bt),.map (some bn),vc]:=⟨_,HJ2.out.box⟩
      have hjg:j≠w.heap.size:=Nat.ne_of_lt (heap_lt HJ.out.box);have c2:=hbx.cell 2 rfl;have hbnA:=HJ2.out.len;obtain⟨nn1,ll1,mm1⟩:=HJ.out.now
      have hbnl:bn<w.heap.size:=mm1.lt;obtain⟨nn2,ll2,mm2⟩:=HJ.out.mine
      have hbml:bm<w.heap.size:=mm2.lt;obtain⟨nn3,ll3,mm3⟩:=HJ.out.theirs
      have hbtl:bt<w.heap.size:=mm3.lt;have hbbl:=HBl.out;have hvb:vc.ownBlock≠some w.heap.size:=own_ne_map HJ2.out.row HO2.out;clear mm1 mm2 mm3;by_cases hs0:sw=0
      · subst hs0
        have HSS:=hid (HS2.out rfl)
        have HJ3:=hid (show JoinM A (k+1) w2 j bm bt bn vc M T (Mg.sets (Mg.fS B M T) (U.take (k+1))) []from by
         rw[HSS.out];obtain⟨p1,p2,p3,⟨n3,l3,m3⟩,p5,p6,p7,p8,p9⟩:=HJ2.out
         exact⟨p1,p2,p3,⟨n3,by omega,m3⟩,p5,p6,p7,p8,p9⟩)
        have x0:=HX8.out.cell 0 rfl;have z0:=HX9.out.cell 0 rfl;by_cases hg0:gw=0
        · subst hg0
          have HGG:=hid (show w2.ownsMap Tryz.prog 9 Sp.rd w.heap.size na (Sp.D (Mg.sets (Mg.fG B M T) (U.take (k+1))))from by rw[HG2.out rfl];exact HO2.out);clear HS1 HS2 HG1 HG2;go_wp2_with fail;refine⟨⟨k+1,na,by omega,rfl,by omega,HGG,HJ3,HB2,HR2,hbw2⟩,?_⟩
          simp[intOf]
          omega
        · have hg1:(gw !=0)=true:=by simpa using hg0
          have z1:=HX9.out.cell 1 rfl;have z2:=HX9.out.cell 2 rfl;obtain⟨w4,hrun4,hown4,hgr4⟩:=HO2.out.update (string_keyed Tryz.underlying9) Tryz.underlying52 (by unfold maxLen;omega) (keyOf_string_mk Tryz.underlying9 hps) (Sp.rd_mk gw gt gv)
          have HGG:=hid (show w4.ownsMap Tryz.prog 9 Sp.rd w.heap.size (na+1) (Sp.D (Mg.sets (Mg.fG B M T) (U.take (k+1))))from by
           rw[HG1.out hg0,←Mg.D_enOf _ _ hoG.out hg0];exact hown4)
          have HJ4:=hid (HJ3.out.kept hgr4 hjg (by omega) (by omega) (by omega) hvb);have HB4:=hid (HB2.out.kept hgr4 (fun e=>by injection e with e;omega));have HR4:=hid (HR2.out.kept (row:=some w.heap.size) hgr4 (Or.inr (own_ne_map HR2.out HO2.out)));have hbw4:Below A w w4:=hbw2.grown hgr4 (Nat.le_trans hAw (by have:=hbw2.size;omega)) (fun k hk=>by injection hk with hk;omega);clear HS1 HS2 HG1 HG2 hown4 hgr4;go_wp2_with fail;refine⟨⟨k+1,na+1,by omega,rfl,by omega,HGG,HJ4,HB4,HR4,hbw4⟩,?_⟩
          simp[intOf]
          omega
      · have hs1:(sw !=0)=true:=by simpa using hs0
        have HSS:=hid (HS1.out hs0);have x0:=HX8.out.cell 0 rfl;have x1:=HX8.out.cell 1 rfl;have x2:=HX8.out.cell 2 rfl;have hdr:Below w2.heap.size w2 w2.drew:=(Below.refl _ _).drew;have HJd:=hid (HJ2.out.below hdr);have HOd:=hid (omap_below HO2.out hdr HO2.out.lt);have HBd:=hid (omap_below HB2.out hdr HB2.out.lt);have HRd:=hid (HR2.out.kept9 hdr);have HX9d:=hid (HX9.out.below hdr);have HX8d:=hid (HX8.out.below hdr);have hbwd:Below A w w2.drew:=hbw2.trans (hdr.mono hszA);have hszd:A≤w2.drew.heap.size:=hszA;obtain⟨n3,l3,m3⟩:=HJd.out.now
        obtain⟨w3,hrun3,hown3,hgr3⟩:=m3.update (string_keyed Tryz.underlying9) Tryz.underlying52 (by unfold maxLen;omega) (keyOf_string_mk Tryz.underlying9 hps) (Sp.rd_mk sw st sv)
        have HO3:=hid hown3
        have HJ3:=hid (show JoinM A (k+1) w3 j bm bt bn vc M T (Mg.sets (Mg.fS B M T) (U.take (k+1))) []from HJd.out.upd hgr3 ⟨n3+1,by omega,by
         rw[HSS.out,←Mg.D_enOf _ _ hoS.out hs0];exact HO3.out⟩)
        have HOO3:=hid (HOd.out.kept hgr3 (fun e=>by injection e with e;omega));have HBB3:=hid (HBd.out.kept hgr3 (fun e=>hbn (by injection e)));have HRR3:=hid (HRd.out.kept (row:=some bn) hgr3 (Or.inr (own_ne_map HRd.out m3)));have hbw3:Below A w w3:=hbwd.grown hgr3 hszd (fun k hk=>by injection hk with hk;omega);have HX93:=hid (HX9d.out.nb hgr3 (fun e=>(box_ne_map' HX9d.out m3) e));have hvb3:vc.ownBlock≠some w.heap.size:=hvb;clear hown3 hgr3 HO3 m3 HJd HOd HBd HRd HX8d HX9d;go_wp2_with fail;go_region
        clear x0 x1 x2 c2 hrun3;have z0:=HX93.out.cell 0 rfl;by_cases hg0:gw=0
        · subst hg0
          have HGG:=hid (show w3.ownsMap Tryz.prog 9 Sp.rd w.heap.size na (Sp.D (Mg.sets (Mg.fG B M T) (U.take (k+1))))from by rw[HG2.out rfl];exact HOO3.out);clear HS1 HS2 HG1 HG2;go_wp2_with fail;refine⟨⟨k+1,na,by omega,rfl,by omega,HGG,HJ3,HBB3,HRR3,hbw3⟩,?_⟩
          simp[intOf]
          omega
        · have hg1:(gw !=0)=true:=by simpa using hg0
          have z1:=HX93.out.cell 1 rfl;have z2:=HX93.out.cell 2 rfl;obtain⟨w4,hrun4,hown4,hgr4⟩:=HOO3.out.update (string_keyed Tryz.underlying9) Tryz.underlying52 (by unfold maxLen;omega) (keyOf_string_mk Tryz.underlying9 hps) (Sp.rd_mk gw gt gv)
          have HGG:=hid (show w4.ownsMap Tryz.prog 9 Sp.rd w.heap.size (na+1) (Sp.D (Mg.sets (Mg.fG B M T) (U.take (k+1))))from by
           rw[HG1.out hg0,←Mg.D_enOf _ _ hoG.out hg0];exact hown4)
          have HJ4:=hid (HJ3.out.kept hgr4 hjg (by omega) (by omega) (by omega) hvb);have HB4:=hid (HBB3.out.kept hgr4 (fun e=>by injection e with e;omega));have HR4:=hid (HRR3.out.kept (row:=some w.heap.size) hgr4 (Or.inr (own_ne_map HRR3.out HOO3.out)));have hbw4:Below A w w4:=hbw3.grown hgr4 (Nat.le_trans hAw (by have:=hbw3.size;omega)) (fun k hk=>by injection hk with hk;omega);clear HS1 HS2 HG1 HG2 hown4 hgr4;go_wp2_with fail;refine⟨⟨k+1,na+1,by omega,rfl,by omega,HGG,HJ4,HB4,HR4,hbw4⟩,?_⟩
          simp[intOf]
          omega
    refine wp_region_held_drew (S:=fun W=>Below wr.heap.size wr W) (by kernel_rfl) hdr (fun hHeld=>?_)
    --REGION
    refine wpAnyH_take (i:=0) (oi:=⟨some 20,Op.move (Operand.tmp 1),_,_,_,none⟩) (v:= .map (some bb)) rfl (by kernel_rfl) (by kernel_rfl) (by kernel_rfl) (fun _ _ _ h=>by cases h.1) (Or.inl ⟨by rfl,?_⟩) hHeld ?_
    · intro w' hS'
      go_simp
    simp only[Act.put,List.setIfInBounds_toArray,List.set_cons_zero,List.set_cons_succ];refine wpAnyH_take (i:=1) (oi:=⟨some 21,Op.move (Operand.tmp 7),_,_,_,none⟩) (v:= .string p) rfl (by kernel_rfl) (by kernel_rfl) (by kernel_rfl) (fun _ _ _ h=>by cases h.1) (Or.inl ⟨by rfl,?_⟩) hHeld ?_
    · intro w' hS'
      go_simp
    simp only[Act.put,List.setIfInBounds_toArray,List.set_cons_zero,List.set_cons_succ];refine wpAnyH_take (i:=3) (oi:=⟨some 23,Op.move (Operand.tmp 0),_,_,_,none⟩) (v:= .pointer (some ⟨j,0,none⟩)) rfl (by kernel_rfl) (by kernel_rfl) (by kernel_rfl) (fun _ _ _ h=>by cases h.1) (Or.inl ⟨by rfl,?_⟩) hHeld ?_
    · intro w' hS'
      go_simp
    simp only[Act.put,List.setIfInBounds_toArray,List.set_cons_zero,List.set_cons_succ];refine wpAnyH_take (i:=4) (oi:=⟨some 24,Op.nilCheck (Operand.tmp 23),_,_,_,none⟩) (v:= .pointer (some ⟨j,0,none⟩)) rfl (by kernel_rfl) (by kernel_rfl) (by kernel_rfl) (fun _ _ _ h=>by cases h.1) (Or.inl ⟨by rfl,?_⟩) hHeld ?_
    · intro w' hS'
      go_simp
    simp only[Act.put,List.setIfInBounds_toArray,List.set_cons_zero,List.set_cons_succ];refine wpAnyH_take (i:=5) (oi:=⟨some 25,Op.fieldAddr 55 (Operand.tmp 24) 0,_,_,_,none⟩) (v:= .pointer (some ⟨j,0,none⟩)) rfl (by kernel_rfl) (by kernel_rfl) (by kernel_rfl) (fun _ _ _ h=>by cases h.1) (Or.inl ⟨by rfl,?_⟩) hHeld ?_
    · intro w' hS'
      go_simp
    simp only[Act.put,List.setIfInBounds_toArray,List.set_cons_zero,List.set_cons_succ];refine wpAnyH_take (i:=7) (oi:=⟨some 27,Op.move (Operand.tmp 7),_,_,_,none⟩) (v:= .string p) rfl (by kernel_rfl) (by kernel_rfl) (by kernel_rfl) (fun _ _ _ h=>by cases h.1) (Or.inl ⟨by rfl,?_⟩) hHeld ?_
    · intro w' hS'
      go_simp
    simp only[Act.put,List.setIfInBounds_toArray,List.set_cons_zero,List.set_cons_succ];refine wpAnyH_take (i:=9) (oi:=⟨some 29,Op.move (Operand.tmp 0),_,_,_,none⟩) (v:= .pointer (some ⟨j,0,none⟩)) rfl (by kernel_rfl) (by kernel_rfl) (by kernel_rfl) (fun _ _ _ h=>by cases h.1) (Or.inl ⟨by rfl,?_⟩) hHeld ?_
    · intro w' hS'
      go_simp
    simp only[Act.put,List.setIfInBounds_toArray,List.set_cons_zero,List.set_cons_succ];refine wpAnyH_take (i:=10) (oi:=⟨some 30,Op.nilCheck (Operand.tmp 29),_,_,_,none⟩) (v:= .pointer (some ⟨j,0,none⟩)) rfl (by kernel_rfl) (by kernel_rfl) (by kernel_rfl) (fun _ _ _ h=>by cases h.1) (Or.inl ⟨by rfl,?_⟩) hHeld ?_
    · intro w' hS'
      go_simp
    simp only[Act.put,List.setIfInBounds_toArray,List.set_cons_zero,List.set_cons_succ];refine wpAnyH_take (i:=11) (oi:=⟨some 31,Op.fieldAddr 55 (Operand.tmp 30) 1,_,_,_,none⟩) (v:= .pointer (some ⟨j,1,none⟩)) rfl (by kernel_rfl) (by kernel_rfl) (by kernel_rfl) (fun _ _ _ h=>by cases h.1) (Or.inl ⟨by rfl,?_⟩) hHeld ?_
    · intro w' hS'
      go_simp
    simp only[Act.put,List.setIfInBounds_toArray,List.set_cons_zero,List.set_cons_succ];refine wpAnyH_take (i:=13) (oi:=⟨some 33,Op.move (Operand.tmp 7),_,_,_,none⟩) (v:= .string p) rfl (by kernel_rfl) (by kernel_rfl) (by kernel_rfl) (fun _ _ _ h=>by cases h.1) (Or.inl ⟨by rfl,?_⟩) hHeld ?_
    · intro w' hS'
      go_simp
    simp only[Act.put,List.setIfInBounds_toArray,List.set_cons_zero,List.set_cons_succ];refine wpAnyH_take (i:=6) (oi:=⟨some 26,Op.load 52 (Operand.tmp 25),_,_,_,none⟩) (v:= .map (some bm)) rfl (by kernel_rfl) (by kernel_rfl) (by kernel_rfl) (fun _ _ _ h=>by cases h.1) (Or.inl ⟨by rfl,?_⟩) hHeld ?_
    · intro w' hS'
      have c0:=(HBX.out.below hS').cell 0 rfl;go_simp
    simp only[Act.put,List.setIfInBounds_toArray,List.set_cons_zero,List.set_cons_succ];refine wpAnyH_take (i:=12) (oi:=⟨some 32,Op.load 52 (Operand.tmp 31),_,_,_,none⟩) (v:= .map (some bt)) rfl (by kernel_rfl) (by kernel_rfl) (by kernel_rfl) (fun _ _ _ h=>by cases h.1) (Or.inl ⟨by rfl,?_⟩) hHeld ?_
    · intro w' hS'
      have c1:=(HBX.out.below hS').cell 1 rfl;go_simp
    simp only[Act.put,List.setIfInBounds_toArray,List.set_cons_zero,List.set_cons_succ];refine wpAnyH_take (i:=2) (oi:=⟨some 22,Op.lookup 52 (Operand.tmp 20) (Operand.tmp 21) false,_,_,_,none⟩) (v:= .agg #[.int .i64 xb.w,.string xb.t,.int .i64 xb.v]) rfl (by kernel_rfl) (by kernel_rfl) (by kernel_rfl) (fun _ _ _ h=>by cases h.1) (Or.inl ⟨by rfl,?_⟩) hHeld ?_
    · intro w' hS'
      have k1:=HK1.out w' hS';go_simp
    simp only[Act.put,List.setIfInBounds_toArray,List.set_cons_zero,List.set_cons_succ];refine wpAnyH_take (i:=8) (oi:=⟨some 28,Op.lookup 52 (Operand.tmp 26) (Operand.tmp 27) false,_,_,_,none⟩) (v:= .agg #[.int .i64 xm.w,.string xm.t,.int .i64 xm.v]) rfl (by kernel_rfl) (by kernel_rfl) (by kernel_rfl) (fun _ _ _ h=>by cases h.1) (Or.inl ⟨by rfl,?_⟩) hHeld ?_
    · intro w' hS'
      have k2:=HK2.out w' hS';go_simp
    simp only[Act.put,List.setIfInBounds_toArray,List.set_cons_zero,List.set_cons_succ];refine wpAnyH_take (i:=14) (oi:=⟨some 34,Op.lookup 52 (Operand.tmp 32) (Operand.tmp 33) false,_,_,_,none⟩) (v:= .agg #[.int .i64 xt.w,.string xt.t,.int .i64 xt.v]) rfl (by kernel_rfl) (by kernel_rfl) (by kernel_rfl) (fun _ _ _ h=>by cases h.1) (Or.inl ⟨by rfl,?_⟩) hHeld ?_
    · intro w' hS'
      have k3:=HK3.out w' hS';go_simp
    simp only[Act.put,List.setIfInBounds_toArray,List.set_cons_zero,List.set_cons_succ];generalize wr.drew=W at hHeld⊢;refine wpAnyH_ready (rs:=[15,19,20]) (by kernel_rfl) (by simp) ?_
    refine AllReadyH.cons (o:=⟨some 35,Op.call ⟨Callee.value (Operand.func 83),#[Operand.tmp 22,Operand.tmp 28,Operand.tmp 34],#[89,89,89]⟩,_,_,_,none⟩) rfl (fun K hK=>?_) ?_
    · refine go_wanted rfl ?_
      go_simp
      refine(settled_any xb xm xt _).mono ?_
      rintro e Wc ⟨rfl,hbc⟩;rw[←HQ1.out,←HQ2.out];have hBc:Below wr.heap.size wr Wc:=hHeld.trans (hbc.mono hHeld.size);refine hK.out _ _ hBc (fun hHeld=>?_)
      clear hK K hbc;try simp only[Act.put,List.setIfInBounds_toArray,List.set_cons_zero,List.set_cons_succ]
      refine wpAnyH_take (i:=16) (oi:=⟨some 19,Op.move (Operand.tmp 35),_,_,_,none⟩) (v:= .tuple #[.agg #[.int .i64 xs.w,.string xs.t,.int .i64 xs.v],.agg #[.int .i64 xg.w,.string xg.t,.int .i64 xg.v]]) rfl (by kernel_rfl) (by kernel_rfl) (by kernel_rfl) (fun _ _ _ h=>by cases h.1) (Or.inl ⟨by rfl,?_⟩) hHeld ?_
      · intro w' hS'
        go_simp
        exact⟨rfl,rfl⟩
      simp only[Act.put,List.setIfInBounds_toArray,List.set_cons_zero,List.set_cons_succ];refine wpAnyH_take (i:=17) (oi:=⟨some 36,Op.extract (Operand.tmp 19) 0,_,_,_,none⟩) (v:= .agg #[.int .i64 xs.w,.string xs.t,.int .i64 xs.v]) rfl (by kernel_rfl) (by kernel_rfl) (by kernel_rfl) (fun _ _ _ h=>by cases h.1) (Or.inl ⟨by rfl,?_⟩) hHeld ?_
      · intro w' hS'
        go_simp
      simp only[Act.put,List.setIfInBounds_toArray,List.set_cons_zero,List.set_cons_succ];refine wpAnyH_take (i:=18) (oi:=⟨some 37,Op.extract (Operand.tmp 19) 1,_,_,_,none⟩) (v:= .agg #[.int .i64 xg.w,.string xg.t,.int .i64 xg.v]) rfl (by kernel_rfl) (by kernel_rfl) (by kernel_rfl) (fun _ _ _ h=>by cases h.1) (Or.inl ⟨by rfl,?_⟩) hHeld ?_
      · intro w' hS'
        go_simp
      simp only[Act.put,List.setIfInBounds_toArray,List.set_cons_zero,List.set_cons_succ];refine wpAnyH_ready (rs:=[19,20]) (by kernel_rfl) (by simp) ?_
      refine AllReadyH.cons (o:=⟨some 8,Op.alloc 89,_,_,_,none⟩) rfl (fun K hK=>?_) ?_
      · have HZ19:=hid (Cs.new Wc [.int .i64 0,.string ⟨#[]⟩,.int .i64 0] 89)
        have hA19:wr.heap.size≤Wc.heap.size:=hHeld.size;have hBc:Below wr.heap.size wr (Wc.alloc (.cells #[.int .i64 0,.string ⟨#[]⟩,.int .i64 0] 89)):=hHeld.alloc hHeld.size _;refine go_wanted rfl ?_
        go_simp
        refine hK.out _ _ hBc (fun hHeld=>?_)
        clear hK K;try simp only[Act.put,List.setIfInBounds_toArray,List.set_cons_zero,List.set_cons_succ]
        replace HZ19:Hid (Cs (Wc.alloc (.cells #[.int .i64 0,.string ⟨#[]⟩,.int .i64 0] 89)) Wc.heap.size [.int .i64 0,.string ⟨#[]⟩,.int .i64 0]):=HZ19;generalize (Wc.alloc (.cells #[.int .i64 0,.string ⟨#[]⟩,.int .i64 0] 89))=Wca at HZ19 hHeld⊢;clear hBc;refine wpAnyH_ready (rs:=[20]) (by kernel_rfl) (by simp) ?_
        refine AllReadyH.cons (o:=⟨some 9,Op.alloc 89,_,_,_,none⟩) rfl (fun K hK=>?_) ?_
        · have HZ20:=hid (Cs.new Wca [.int .i64 0,.string ⟨#[]⟩,.int .i64 0] 89)
          have hA20:wr.heap.size≤Wca.heap.size:=hHeld.size;have hne19:Wc.heap.size≠Wca.heap.size:=Nat.ne_of_lt HZ19.out.lt;have hne20:=hne19.symm;have HZ19:=hid (HZ19.out.below ((Below.refl _ _).alloc (Nat.le_refl _) (.cells #[.int .i64 0,.string ⟨#[]⟩,.int .i64 0] 89)));have hBc:Below wr.heap.size wr (Wca.alloc (.cells #[.int .i64 0,.string ⟨#[]⟩,.int .i64 0] 89)):=hHeld.alloc hHeld.size _;refine go_wanted rfl ?_
          go_simp
          refine hK.out _ _ hBc (fun hHeld=>?_)
          clear hK K;try simp only[Act.put,List.setIfInBounds_toArray,List.set_cons_zero,List.set_cons_succ]
          replace HZ20:Hid (Cs (Wca.alloc (.cells #[.int .i64 0,.string ⟨#[]⟩,.int .i64 0] 89)) Wca.heap.size [.int .i64 0,.string ⟨#[]⟩,.int .i64 0]):=HZ20;generalize (Wca.alloc (.cells #[.int .i64 0,.string ⟨#[]⟩,.int .i64 0] 89))=Wcab at HZ20 hHeld HZ19⊢;clear hBc;refine wpAnyH_ready (rs:=[21]) (by kernel_rfl) (by simp) ?_
          refine AllReadyH.cons (o:=⟨none,Op.store 89 (Operand.tmp 8) (Operand.tmp 36),_,_,_,none⟩) rfl (fun K hK=>?_) AllReadyH.nil
          have y0:=HZ19.out.cell 0 rfl;have g0:=HZ19.out.fr 0;have y1:=HZ19.out.cell 1 rfl;have g1:=HZ19.out.fr 1;have y2:=HZ19.out.cell 2 rfl;have g2:=HZ19.out.fr 2;refine go_wanted rfl ?_
          go_simp
          clear y0 y1 y2 g0 g1 g2;have HZ19:=hid (((HZ19.out.set 0 (.int .i64 xs.w)).set 1 (.string xs.t)).set 2 (.int .i64 xs.v));have HZ20:=hid (((HZ20.out.other (b':=Wc.heap.size) (o:=0) hne20 (.int .i64 xs.w)).other (b':=Wc.heap.size) (o:=1) hne20 (.string xs.t)).other (b':=Wc.heap.size) (o:=2) hne20 (.int .i64 xs.v));refine hK.out _ _ (((hHeld.setCell (p:=⟨Wc.heap.size,0,none⟩) hA19 _).setCell (p:=⟨Wc.heap.size,1,none⟩) hA19 _).setCell (p:=⟨Wc.heap.size,2,none⟩) hA19 _) (fun hHeld=>?_)
          clear hK K;try simp only[Act.put,List.setIfInBounds_toArray,List.set_cons_zero,List.set_cons_succ]
          refine wpAnyH_ready (rs:=[22]) (by kernel_rfl) (by simp) ?_
          refine AllReadyH.cons (o:=⟨none,Op.store 89 (Operand.tmp 9) (Operand.tmp 37),_,_,_,none⟩) rfl (fun K hK=>?_) AllReadyH.nil
          have y0:=HZ20.out.cell 0 rfl;have g0:=HZ20.out.fr 0;have y1:=HZ20.out.cell 1 rfl;have g1:=HZ20.out.fr 1;have y2:=HZ20.out.cell 2 rfl;have g2:=HZ20.out.fr 2;refine go_wanted rfl ?_
          go_simp
          clear y0 y1 y2 g0 g1 g2;have HZ20:=hid (((HZ20.out.set 0 (.int .i64 xg.w)).set 1 (.string xg.t)).set 2 (.int .i64 xg.v));have HZ19:=hid (((HZ19.out.other (b':=Wca.heap.size) (o:=0) hne19 (.int .i64 xg.w)).other (b':=Wca.heap.size) (o:=1) hne19 (.string xg.t)).other (b':=Wca.heap.size) (o:=2) hne19 (.int .i64 xg.v));refine hK.out _ _ (((hHeld.setCell (p:=⟨Wca.heap.size,0,none⟩) hA20 _).setCell (p:=⟨Wca.heap.size,1,none⟩) hA20 _).setCell (p:=⟨Wca.heap.size,2,none⟩) hA20 _) (fun hHeld=>?_)
          clear hK K;try simp only[Act.put,List.setIfInBounds_toArray,List.set_cons_zero,List.set_cons_succ]
          refine wpAnyH_done (by kernel_rfl) ?_ _
          exact⟨rfl,Wc.heap.size,Wca.heap.size,_,_,_,_,_,_,_,_,_,_,_,_,_,_,_,_,_,_,_,hA19,hA20,hne20.symm,hHeld,HZ19,HZ20,rfl⟩
        exact AllReadyH.nil
      refine AllReadyH.cons (o:=⟨some 9,Op.alloc 89,_,_,_,none⟩) rfl (fun K hK=>?_) ?_
      · have HZ20:=hid (Cs.new Wc [.int .i64 0,.string ⟨#[]⟩,.int .i64 0] 89)
        have hA20:wr.heap.size≤Wc.heap.size:=hHeld.size;have hBc:Below wr.heap.size wr (Wc.alloc (.cells #[.int .i64 0,.string ⟨#[]⟩,.int .i64 0] 89)):=hHeld.alloc hHeld.size _;refine go_wanted rfl ?_
        go_simp
        refine hK.out _ _ hBc (fun hHeld=>?_)
        clear hK K;try simp only[Act.put,List.setIfInBounds_toArray,List.set_cons_zero,List.set_cons_succ]
        replace HZ20:Hid (Cs (Wc.alloc (.cells #[.int .i64 0,.string ⟨#[]⟩,.int .i64 0] 89)) Wc.heap.size [.int .i64 0,.string ⟨#[]⟩,.int .i64 0]):=HZ20;generalize (Wc.alloc (.cells #[.int .i64 0,.string ⟨#[]⟩,.int .i64 0] 89))=Wcb at HZ20 hHeld⊢;clear hBc;refine wpAnyH_ready (rs:=[19]) (by kernel_rfl) (by simp) ?_
        refine AllReadyH.cons (o:=⟨some 8,Op.alloc 89,_,_,_,none⟩) rfl (fun K hK=>?_) ?_
        · have HZ19:=hid (Cs.new Wcb [.int .i64 0,.string ⟨#[]⟩,.int .i64 0] 89)
          have hA19:wr.heap.size≤Wcb.heap.size:=hHeld.size;have hne20:Wc.heap.size≠Wcb.heap.size:=Nat.ne_of_lt HZ20.out.lt;have hne19:=hne20.symm;have HZ20:=hid (HZ20.out.below ((Below.refl _ _).alloc (Nat.le_refl _) (.cells #[.int .i64 0,.string ⟨#[]⟩,.int .i64 0] 89)));have hBc:Below wr.heap.size wr (Wcb.alloc (.cells #[.int .i64 0,.string ⟨#[]⟩,.int .i64 0] 89)):=hHeld.alloc hHeld.size _;refine go_wanted rfl ?_
          go_simp
          refine hK.out _ _ hBc (fun hHeld=>?_)
          clear hK K;try simp only[Act.put,List.setIfInBounds_toArray,List.set_cons_zero,List.set_cons_succ]
          replace HZ19:Hid (Cs (Wcb.alloc (.cells #[.int .i64 0,.string ⟨#[]⟩,.int .i64 0] 89)) Wcb.heap.size [.int .i64 0,.string ⟨#[]⟩,.int .i64 0]):=HZ19;generalize (Wcb.alloc (.cells #[.int .i64 0,.string ⟨#[]⟩,.int .i64 0] 89))=Wcba at HZ19 hHeld HZ20⊢;clear hBc;refine wpAnyH_ready (rs:=[21]) (by kernel_rfl) (by simp) ?_
          refine AllReadyH.cons (o:=⟨none,Op.store 89 (Operand.tmp 8) (Operand.tmp 36),_,_,_,none⟩) rfl (fun K hK=>?_) AllReadyH.nil
          have y0:=HZ19.out.cell 0 rfl;have g0:=HZ19.out.fr 0;have y1:=HZ19.out.cell 1 rfl;have g1:=HZ19.out.fr 1;have y2:=HZ19.out.cell 2 rfl;have g2:=HZ19.out.fr 2;refine go_wanted rfl ?_
          go_simp
          clear y0 y1 y2 g0 g1 g2;have HZ19:=hid (((HZ19.out.set 0 (.int .i64 xs.w)).set 1 (.string xs.t)).set 2 (.int .i64 xs.v));have HZ20:=hid (((HZ20.out.other (b':=Wcb.heap.size) (o:=0) hne20 (.int .i64 xs.w)).other (b':=Wcb.heap.size) (o:=1) hne20 (.string xs.t)).other (b':=Wcb.heap.size) (o:=2) hne20 (.int .i64 xs.v));refine hK.out _ _ (((hHeld.setCell (p:=⟨Wcb.heap.size,0,none⟩) hA19 _).setCell (p:=⟨Wcb.heap.size,1,none⟩) hA19 _).setCell (p:=⟨Wcb.heap.size,2,none⟩) hA19 _) (fun hHeld=>?_)
          clear hK K;try simp only[Act.put,List.setIfInBounds_toArray,List.set_cons_zero,List.set_cons_succ]
          refine wpAnyH_ready (rs:=[22]) (by kernel_rfl) (by simp) ?_
          refine AllReadyH.cons (o:=⟨none,Op.store 89 (Operand.tmp 9) (Operand.tmp 37),_,_,_,none⟩) rfl (fun K hK=>?_) AllReadyH.nil
          have y0:=HZ20.out.cell 0 rfl;have g0:=HZ20.out.fr 0;have y1:=HZ20.out.cell 1 rfl;have g1:=HZ20.out.fr 1;have y2:=HZ20.out.cell 2 rfl;have g2:=HZ20.out.fr 2;refine go_wanted rfl ?_
          go_simp
          clear y0 y1 y2 g0 g1 g2;have HZ20:=hid (((HZ20.out.set 0 (.int .i64 xg.w)).set 1 (.string xg.t)).set 2 (.int .i64 xg.v));have HZ19:=hid (((HZ19.out.other (b':=Wc.heap.size) (o:=0) hne19 (.int .i64 xg.w)).other (b':=Wc.heap.size) (o:=1) hne19 (.string xg.t)).other (b':=Wc.heap.size) (o:=2) hne19 (.int .i64 xg.v));refine hK.out _ _ (((hHeld.setCell (p:=⟨Wc.heap.size,0,none⟩) hA20 _).setCell (p:=⟨Wc.heap.size,1,none⟩) hA20 _).setCell (p:=⟨Wc.heap.size,2,none⟩) hA20 _) (fun hHeld=>?_)
          clear hK K;try simp only[Act.put,List.setIfInBounds_toArray,List.set_cons_zero,List.set_cons_succ]
          refine wpAnyH_done (by kernel_rfl) ?_ _
          exact⟨rfl,Wcb.heap.size,Wc.heap.size,_,_,_,_,_,_,_,_,_,_,_,_,_,_,_,_,_,_,_,hA19,hA20,hne20.symm,hHeld,HZ19,HZ20,rfl⟩
        exact AllReadyH.nil
      exact AllReadyH.nil
    refine AllReadyH.cons (o:=⟨some 8,Op.alloc 89,_,_,_,none⟩) rfl (fun K hK=>?_) ?_
    · have HZ19:=hid (Cs.new W [.int .i64 0,.string ⟨#[]⟩,.int .i64 0] 89)
      have hA19:wr.heap.size≤W.heap.size:=hHeld.size;have hBc:Below wr.heap.size wr (W.alloc (.cells #[.int .i64 0,.string ⟨#[]⟩,.int .i64 0] 89)):=hHeld.alloc hHeld.size _;refine go_wanted rfl ?_
      go_simp
      refine hK.out _ _ hBc (fun hHeld=>?_)
      clear hK K;try simp only[Act.put,List.setIfInBounds_toArray,List.set_cons_zero,List.set_cons_succ]
      replace HZ19:Hid (Cs (W.alloc (.cells #[.int .i64 0,.string ⟨#[]⟩,.int .i64 0] 89)) W.heap.size [.int .i64 0,.string ⟨#[]⟩,.int .i64 0]):=HZ19;generalize (W.alloc (.cells #[.int .i64 0,.string ⟨#[]⟩,.int .i64 0] 89))=Wa at HZ19 hHeld⊢;clear hBc;refine wpAnyH_ready (rs:=[15,20]) (by kernel_rfl) (by simp) ?_
      refine AllReadyH.cons (o:=⟨some 35,Op.call ⟨Callee.value (Operand.func 83),#[Operand.tmp 22,Operand.tmp 28,Operand.tmp 34],#[89,89,89]⟩,_,_,_,none⟩) rfl (fun K hK=>?_) ?_
      · refine go_wanted rfl ?_
        go_simp
        refine(settled_any xb xm xt _).mono ?_
        rintro e Wac ⟨rfl,hbc⟩;rw[←HQ1.out,←HQ2.out];have hBc:Below wr.heap.size wr Wac:=hHeld.trans (hbc.mono hHeld.size);have HZ19:=hid (HZ19.out.below hbc);refine hK.out _ _ hBc (fun hHeld=>?_)
        clear hK K hbc;try simp only[Act.put,List.setIfInBounds_toArray,List.set_cons_zero,List.set_cons_succ]
        refine wpAnyH_take (i:=16) (oi:=⟨some 19,Op.move (Operand.tmp 35),_,_,_,none⟩) (v:= .tuple #[.agg #[.int .i64 xs.w,.string xs.t,.int .i64 xs.v],.agg #[.int .i64 xg.w,.string xg.t,.int .i64 xg.v]]) rfl (by kernel_rfl) (by kernel_rfl) (by kernel_rfl) (fun _ _ _ h=>by cases h.1) (Or.inl ⟨by rfl,?_⟩) hHeld ?_
        · intro w' hS'
          go_simp
          exact⟨rfl,rfl⟩
        simp only[Act.put,List.setIfInBounds_toArray,List.set_cons_zero,List.set_cons_succ];refine wpAnyH_take (i:=17) (oi:=⟨some 36,Op.extract (Operand.tmp 19) 0,_,_,_,none⟩) (v:= .agg #[.int .i64 xs.w,.string xs.t,.int .i64 xs.v]) rfl (by kernel_rfl) (by kernel_rfl) (by kernel_rfl) (fun _ _ _ h=>by cases h.1) (Or.inl ⟨by rfl,?_⟩) hHeld ?_
        · intro w' hS'
          go_simp
        simp only[Act.put,List.setIfInBounds_toArray,List.set_cons_zero,List.set_cons_succ];refine wpAnyH_take (i:=18) (oi:=⟨some 37,Op.extract (Operand.tmp 19) 1,_,_,_,none⟩) (v:= .agg #[.int .i64 xg.w,.string xg.t,.int .i64 xg.v]) rfl (by kernel_rfl) (by kernel_rfl) (by kernel_rfl) (fun _ _ _ h=>by cases h.1) (Or.inl ⟨by rfl,?_⟩) hHeld ?_
        · intro w' hS'
          go_simp
        simp only[Act.put,List.setIfInBounds_toArray,List.set_cons_zero,List.set_cons_succ];refine wpAnyH_ready (rs:=[20]) (by kernel_rfl) (by simp) ?_
        refine AllReadyH.cons (o:=⟨some 9,Op.alloc 89,_,_,_,none⟩) rfl (fun K hK=>?_) ?_
        · have HZ20:=hid (Cs.new Wac [.int .i64 0,.string ⟨#[]⟩,.int .i64 0] 89)
          have hA20:wr.heap.size≤Wac.heap.size:=hHeld.size;have hne19:W.heap.size≠Wac.heap.size:=Nat.ne_of_lt HZ19.out.lt;have hne20:=hne19.symm;have HZ19:=hid (HZ19.out.below ((Below.refl _ _).alloc (Nat.le_refl _) (.cells #[.int .i64 0,.string ⟨#[]⟩,.int .i64 0] 89)));have hBc:Below wr.heap.size wr (Wac.alloc (.cells #[.int .i64 0,.string ⟨#[]⟩,.int .i64 0] 89)):=hHeld.alloc hHeld.size _;refine go_wanted rfl ?_
          go_simp
          refine hK.out _ _ hBc (fun hHeld=>?_)
          clear hK K;try simp only[Act.put,List.setIfInBounds_toArray,List.set_cons_zero,List.set_cons_succ]
          replace HZ20:Hid (Cs (Wac.alloc (.cells #[.int .i64 0,.string ⟨#[]⟩,.int .i64 0] 89)) Wac.heap.size [.int .i64 0,.string ⟨#[]⟩,.int .i64 0]):=HZ20;generalize (Wac.alloc (.cells #[.int .i64 0,.string ⟨#[]⟩,.int .i64 0] 89))=Wacb at HZ20 hHeld HZ19⊢;clear hBc;refine wpAnyH_ready (rs:=[21]) (by kernel_rfl) (by simp) ?_
          refine AllReadyH.cons (o:=⟨none,Op.store 89 (Operand.tmp 8) (Operand.tmp 36),_,_,_,none⟩) rfl (fun K hK=>?_) AllReadyH.nil
          have y0:=HZ19.out.cell 0 rfl;have g0:=HZ19.out.fr 0;have y1:=HZ19.out.cell 1 rfl;have g1:=HZ19.out.fr 1;have y2:=HZ19.out.cell 2 rfl;have g2:=HZ19.out.fr 2;refine go_wanted rfl ?_
          go_simp
          clear y0 y1 y2 g0 g1 g2;have HZ19:=hid (((HZ19.out.set 0 (.int .i64 xs.w)).set 1 (.string xs.t)).set 2 (.int .i64 xs.v));have HZ20:=hid (((HZ20.out.other (b':=W.heap.size) (o:=0) hne20 (.int .i64 xs.w)).other (b':=W.heap.size) (o:=1) hne20 (.string xs.t)).other (b':=W.heap.size) (o:=2) hne20 (.int .i64 xs.v));refine hK.out _ _ (((hHeld.setCell (p:=⟨W.heap.size,0,none⟩) hA19 _).setCell (p:=⟨W.heap.size,1,none⟩) hA19 _).setCell (p:=⟨W.heap.size,2,none⟩) hA19 _) (fun hHeld=>?_)
          clear hK K;try simp only[Act.put,List.setIfInBounds_toArray,List.set_cons_zero,List.set_cons_succ]
          refine wpAnyH_ready (rs:=[22]) (by kernel_rfl) (by simp) ?_
          refine AllReadyH.cons (o:=⟨none,Op.store 89 (Operand.tmp 9) (Operand.tmp 37),_,_,_,none⟩) rfl (fun K hK=>?_) AllReadyH.nil
          have y0:=HZ20.out.cell 0 rfl;have g0:=HZ20.out.fr 0;have y1:=HZ20.out.cell 1 rfl;have g1:=HZ20.out.fr 1;have y2:=HZ20.out.cell 2 rfl;have g2:=HZ20.out.fr 2;refine go_wanted rfl ?_
          go_simp
          clear y0 y1 y2 g0 g1 g2;have HZ20:=hid (((HZ20.out.set 0 (.int .i64 xg.w)).set 1 (.string xg.t)).set 2 (.int .i64 xg.v));have HZ19:=hid (((HZ19.out.other (b':=Wac.heap.size) (o:=0) hne19 (.int .i64 xg.w)).other (b':=Wac.heap.size) (o:=1) hne19 (.string xg.t)).other (b':=Wac.heap.size) (o:=2) hne19 (.int .i64 xg.v));refine hK.out _ _ (((hHeld.setCell (p:=⟨Wac.heap.size,0,none⟩) hA20 _).setCell (p:=⟨Wac.heap.size,1,none⟩) hA20 _).setCell (p:=⟨Wac.heap.size,2,none⟩) hA20 _) (fun hHeld=>?_)
          clear hK K;try simp only[Act.put,List.setIfInBounds_toArray,List.set_cons_zero,List.set_cons_succ]
          refine wpAnyH_done (by kernel_rfl) ?_ _
          exact⟨rfl,W.heap.size,Wac.heap.size,_,_,_,_,_,_,_,_,_,_,_,_,_,_,_,_,_,_,_,hA19,hA20,hne20.symm,hHeld,HZ19,HZ20,rfl⟩
        exact AllReadyH.nil
      refine AllReadyH.cons (o:=⟨some 9,Op.alloc 89,_,_,_,none⟩) rfl (fun K hK=>?_) ?_
      · have HZ20:=hid (Cs.new Wa [.int .i64 0,.string ⟨#[]⟩,.int .i64 0] 89)
        have hA20:wr.heap.size≤Wa.heap.size:=hHeld.size;have hne19:W.heap.size≠Wa.heap.size:=Nat.ne_of_lt HZ19.out.lt;have hne20:=hne19.symm;have HZ19:=hid (HZ19.out.below ((Below.refl _ _).alloc (Nat.le_refl _) (.cells #[.int .i64 0,.string ⟨#[]⟩,.int .i64 0] 89)));have hBc:Below wr.heap.size wr (Wa.alloc (.cells #[.int .i64 0,.string ⟨#[]⟩,.int .i64 0] 89)):=hHeld.alloc hHeld.size _;refine go_wanted rfl ?_
        go_simp
        refine hK.out _ _ hBc (fun hHeld=>?_)
        clear hK K;try simp only[Act.put,List.setIfInBounds_toArray,List.set_cons_zero,List.set_cons_succ]
        replace HZ20:Hid (Cs (Wa.alloc (.cells #[.int .i64 0,.string ⟨#[]⟩,.int .i64 0] 89)) Wa.heap.size [.int .i64 0,.string ⟨#[]⟩,.int .i64 0]):=HZ20;generalize (Wa.alloc (.cells #[.int .i64 0,.string ⟨#[]⟩,.int .i64 0] 89))=Wab at HZ20 hHeld HZ19⊢;clear hBc;refine wpAnyH_ready (rs:=[15]) (by kernel_rfl) (by simp) ?_
        refine AllReadyH.cons (o:=⟨some 35,Op.call ⟨Callee.value (Operand.func 83),#[Operand.tmp 22,Operand.tmp 28,Operand.tmp 34],#[89,89,89]⟩,_,_,_,none⟩) rfl (fun K hK=>?_) ?_
        · refine go_wanted rfl ?_
          go_simp
          refine(settled_any xb xm xt _).mono ?_
          rintro e Wabc ⟨rfl,hbc⟩;rw[←HQ1.out,←HQ2.out];have hBc:Below wr.heap.size wr Wabc:=hHeld.trans (hbc.mono hHeld.size);have HZ19:=hid (HZ19.out.below hbc);have HZ20:=hid (HZ20.out.below hbc);refine hK.out _ _ hBc (fun hHeld=>?_)
          clear hK K hbc;try simp only[Act.put,List.setIfInBounds_toArray,List.set_cons_zero,List.set_cons_succ]
          refine wpAnyH_take (i:=16) (oi:=⟨some 19,Op.move (Operand.tmp 35),_,_,_,none⟩) (v:= .tuple #[.agg #[.int .i64 xs.w,.string xs.t,.int .i64 xs.v],.agg #[.int .i64 xg.w,.string xg.t,.int .i64 xg.v]]) rfl (by kernel_rfl) (by kernel_rfl) (by kernel_rfl) (fun _ _ _ h=>by cases h.1) (Or.inl ⟨by rfl,?_⟩) hHeld ?_
          · intro w' hS'
            go_simp
            exact⟨rfl,rfl⟩
          simp only[Act.put,List.setIfInBounds_toArray,List.set_cons_zero,List.set_cons_succ];refine wpAnyH_take (i:=17) (oi:=⟨some 36,Op.extract (Operand.tmp 19) 0,_,_,_,none⟩) (v:= .agg #[.int .i64 xs.w,.string xs.t,.int .i64 xs.v]) rfl (by kernel_rfl) (by kernel_rfl) (by kernel_rfl) (fun _ _ _ h=>by cases h.1) (Or.inl ⟨by rfl,?_⟩) hHeld ?_
          · intro w' hS'
            go_simp
          simp only[Act.put,List.setIfInBounds_toArray,List.set_cons_zero,List.set_cons_succ];refine wpAnyH_take (i:=18) (oi:=⟨some 37,Op.extract (Operand.tmp 19) 1,_,_,_,none⟩) (v:= .agg #[.int .i64 xg.w,.string xg.t,.int .i64 xg.v]) rfl (by kernel_rfl) (by kernel_rfl) (by kernel_rfl) (fun _ _ _ h=>by cases h.1) (Or.inl ⟨by rfl,?_⟩) hHeld ?_
          · intro w' hS'
            go_simp
          simp only[Act.put,List.setIfInBounds_toArray,List.set_cons_zero,List.set_cons_succ];refine wpAnyH_ready (rs:=[21]) (by kernel_rfl) (by simp) ?_
          refine AllReadyH.cons (o:=⟨none,Op.store 89 (Operand.tmp 8) (Operand.tmp 36),_,_,_,none⟩) rfl (fun K hK=>?_) AllReadyH.nil
          have y0:=HZ19.out.cell 0 rfl;have g0:=HZ19.out.fr 0;have y1:=HZ19.out.cell 1 rfl;have g1:=HZ19.out.fr 1;have y2:=HZ19.out.cell 2 rfl;have g2:=HZ19.out.fr 2;refine go_wanted rfl ?_
          go_simp
          clear y0 y1 y2 g0 g1 g2;have HZ19:=hid (((HZ19.out.set 0 (.int .i64 xs.w)).set 1 (.string xs.t)).set 2 (.int .i64 xs.v));have HZ20:=hid (((HZ20.out.other (b':=W.heap.size) (o:=0) hne20 (.int .i64 xs.w)).other (b':=W.heap.size) (o:=1) hne20 (.string xs.t)).other (b':=W.heap.size) (o:=2) hne20 (.int .i64 xs.v));refine hK.out _ _ (((hHeld.setCell (p:=⟨W.heap.size,0,none⟩) hA19 _).setCell (p:=⟨W.heap.size,1,none⟩) hA19 _).setCell (p:=⟨W.heap.size,2,none⟩) hA19 _) (fun hHeld=>?_)
          clear hK K;try simp only[Act.put,List.setIfInBounds_toArray,List.set_cons_zero,List.set_cons_succ]
          refine wpAnyH_ready (rs:=[22]) (by kernel_rfl) (by simp) ?_
          refine AllReadyH.cons (o:=⟨none,Op.store 89 (Operand.tmp 9) (Operand.tmp 37),_,_,_,none⟩) rfl (fun K hK=>?_) AllReadyH.nil
          have y0:=HZ20.out.cell 0 rfl;have g0:=HZ20.out.fr 0;have y1:=HZ20.out.cell 1 rfl;have g1:=HZ20.out.fr 1;have y2:=HZ20.out.cell 2 rfl;have g2:=HZ20.out.fr 2;refine go_wanted rfl ?_
          go_simp
          clear y0 y1 y2 g0 g1 g2;have HZ20:=hid (((HZ20.out.set 0 (.int .i64 xg.w)).set 1 (.string xg.t)).set 2 (.int .i64 xg.v));have HZ19:=hid (((HZ19.out.other (b':=Wa.heap.size) (o:=0) hne19 (.int .i64 xg.w)).other (b':=Wa.heap.size) (o:=1) hne19 (.string xg.t)).other (b':=Wa.heap.size) (o:=2) hne19 (.int .i64 xg.v));refine hK.out _ _ (((hHeld.setCell (p:=⟨Wa.heap.size,0,none⟩) hA20 _).setCell (p:=⟨Wa.heap.size,1,none⟩) hA20 _).setCell (p:=⟨Wa.heap.size,2,none⟩) hA20 _) (fun hHeld=>?_)
          clear hK K;try simp only[Act.put,List.setIfInBounds_toArray,List.set_cons_zero,List.set_cons_succ]
          refine wpAnyH_done (by kernel_rfl) ?_ _
          exact⟨rfl,W.heap.size,Wa.heap.size,_,_,_,_,_,_,_,_,_,_,_,_,_,_,_,_,_,_,_,hA19,hA20,hne20.symm,hHeld,HZ19,HZ20,rfl⟩
        exact AllReadyH.nil
      exact AllReadyH.nil
    refine AllReadyH.cons (o:=⟨some 9,Op.alloc 89,_,_,_,none⟩) rfl (fun K hK=>?_) ?_
    · have HZ20:=hid (Cs.new W [.int .i64 0,.string ⟨#[]⟩,.int .i64 0] 89)
      have hA20:wr.heap.size≤W.heap.size:=hHeld.size;have hBc:Below wr.heap.size wr (W.alloc (.cells #[.int .i64 0,.string ⟨#[]⟩,.int .i64 0] 89)):=hHeld.alloc hHeld.size _;refine go_wanted rfl ?_
      go_simp
      refine hK.out _ _ hBc (fun hHeld=>?_)
      clear hK K;try simp only[Act.put,List.setIfInBounds_toArray,List.set_cons_zero,List.set_cons_succ]
      replace HZ20:Hid (Cs (W.alloc (.cells #[.int .i64 0,.string ⟨#[]⟩,.int .i64 0] 89)) W.heap.size [.int .i64 0,.string ⟨#[]⟩,.int .i64 0]):=HZ20;generalize (W.alloc (.cells #[.int .i64 0,.string ⟨#[]⟩,.int .i64 0] 89))=Wb at HZ20 hHeld⊢;clear hBc;refine wpAnyH_ready (rs:=[15,19]) (by kernel_rfl) (by simp) ?_
      refine AllReadyH.cons (o:=⟨some 35,Op.call ⟨Callee.value (Operand.func 83),#[Operand.tmp 22,Operand.tmp 28,Operand.tmp 34],#[89,89,89]⟩,_,_,_,none⟩) rfl (fun K hK=>?_) ?_
      · refine go_wanted rfl ?_
        go_simp
        refine(settled_any xb xm xt _).mono ?_
        rintro e Wbc ⟨rfl,hbc⟩;rw[←HQ1.out,←HQ2.out];have hBc:Below wr.heap.size wr Wbc:=hHeld.trans (hbc.mono hHeld.size);have HZ20:=hid (HZ20.out.below hbc);refine hK.out _ _ hBc (fun hHeld=>?_)
        clear hK K hbc;try simp only[Act.put,List.setIfInBounds_toArray,List.set_cons_zero,List.set_cons_succ]
        refine wpAnyH_take (i:=16) (oi:=⟨some 19,Op.move (Operand.tmp 35),_,_,_,none⟩) (v:= .tuple #[.agg #[.int .i64 xs.w,.string xs.t,.int .i64 xs.v],.agg #[.int .i64 xg.w,.string xg.t,.int .i64 xg.v]]) rfl (by kernel_rfl) (by kernel_rfl) (by kernel_rfl) (fun _ _ _ h=>by cases h.1) (Or.inl ⟨by rfl,?_⟩) hHeld ?_
        · intro w' hS'
          go_simp
          exact⟨rfl,rfl⟩
        simp only[Act.put,List.setIfInBounds_toArray,List.set_cons_zero,List.set_cons_succ];refine wpAnyH_take (i:=17) (oi:=⟨some 36,Op.extract (Operand.tmp 19) 0,_,_,_,none⟩) (v:= .agg #[.int .i64 xs.w,.string xs.t,.int .i64 xs.v]) rfl (by kernel_rfl) (by kernel_rfl) (by kernel_rfl) (fun _ _ _ h=>by cases h.1) (Or.inl ⟨by rfl,?_⟩) hHeld ?_
        · intro w' hS'
          go_simp
        simp only[Act.put,List.setIfInBounds_toArray,List.set_cons_zero,List.set_cons_succ];refine wpAnyH_take (i:=18) (oi:=⟨some 37,Op.extract (Operand.tmp 19) 1,_,_,_,none⟩) (v:= .agg #[.int .i64 xg.w,.string xg.t,.int .i64 xg.v]) rfl (by kernel_rfl) (by kernel_rfl) (by kernel_rfl) (fun _ _ _ h=>by cases h.1) (Or.inl ⟨by rfl,?_⟩) hHeld ?_
        · intro w' hS'
          go_simp
        simp only[Act.put,List.setIfInBounds_toArray,List.set_cons_zero,List.set_cons_succ];refine wpAnyH_ready (rs:=[19]) (by kernel_rfl) (by simp) ?_
        refine AllReadyH.cons (o:=⟨some 8,Op.alloc 89,_,_,_,none⟩) rfl (fun K hK=>?_) ?_
        · have HZ19:=hid (Cs.new Wbc [.int .i64 0,.string ⟨#[]⟩,.int .i64 0] 89)
          have hA19:wr.heap.size≤Wbc.heap.size:=hHeld.size;have hne20:W.heap.size≠Wbc.heap.size:=Nat.ne_of_lt HZ20.out.lt;have hne19:=hne20.symm;have HZ20:=hid (HZ20.out.below ((Below.refl _ _).alloc (Nat.le_refl _) (.cells #[.int .i64 0,.string ⟨#[]⟩,.int .i64 0] 89)));have hBc:Below wr.heap.size wr (Wbc.alloc (.cells #[.int .i64 0,.string ⟨#[]⟩,.int .i64 0] 89)):=hHeld.alloc hHeld.size _;refine go_wanted rfl ?_
          go_simp
          refine hK.out _ _ hBc (fun hHeld=>?_)
          clear hK K;try simp only[Act.put,List.setIfInBounds_toArray,List.set_cons_zero,List.set_cons_succ]
          replace HZ19:Hid (Cs (Wbc.alloc (.cells #[.int .i64 0,.string ⟨#[]⟩,.int .i64 0] 89)) Wbc.heap.size [.int .i64 0,.string ⟨#[]⟩,.int .i64 0]):=HZ19;generalize (Wbc.alloc (.cells #[.int .i64 0,.string ⟨#[]⟩,.int .i64 0] 89))=Wbca at HZ19 hHeld HZ20⊢;clear hBc;refine wpAnyH_ready (rs:=[21]) (by kernel_rfl) (by simp) ?_
          refine AllReadyH.cons (o:=⟨none,Op.store 89 (Operand.tmp 8) (Operand.tmp 36),_,_,_,none⟩) rfl (fun K hK=>?_) AllReadyH.nil
          have y0:=HZ19.out.cell 0 rfl;have g0:=HZ19.out.fr 0;have y1:=HZ19.out.cell 1 rfl;have g1:=HZ19.out.fr 1;have y2:=HZ19.out.cell 2 rfl;have g2:=HZ19.out.fr 2;refine go_wanted rfl ?_
          go_simp
          clear y0 y1 y2 g0 g1 g2;have HZ19:=hid (((HZ19.out.set 0 (.int .i64 xs.w)).set 1 (.string xs.t)).set 2 (.int .i64 xs.v));have HZ20:=hid (((HZ20.out.other (b':=Wbc.heap.size) (o:=0) hne20 (.int .i64 xs.w)).other (b':=Wbc.heap.size) (o:=1) hne20 (.string xs.t)).other (b':=Wbc.heap.size) (o:=2) hne20 (.int .i64 xs.v));refine hK.out _ _ (((hHeld.setCell (p:=⟨Wbc.heap.size,0,none⟩) hA19 _).setCell (p:=⟨Wbc.heap.size,1,none⟩) hA19 _).setCell (p:=⟨Wbc.heap.size,2,none⟩) hA19 _) (fun hHeld=>?_)
          clear hK K;try simp only[Act.put,List.setIfInBounds_toArray,List.set_cons_zero,List.set_cons_succ]
          refine wpAnyH_ready (rs:=[22]) (by kernel_rfl) (by simp) ?_
          refine AllReadyH.cons (o:=⟨none,Op.store 89 (Operand.tmp 9) (Operand.tmp 37),_,_,_,none⟩) rfl (fun K hK=>?_) AllReadyH.nil
          have y0:=HZ20.out.cell 0 rfl;have g0:=HZ20.out.fr 0;have y1:=HZ20.out.cell 1 rfl;have g1:=HZ20.out.fr 1;have y2:=HZ20.out.cell 2 rfl;have g2:=HZ20.out.fr 2;refine go_wanted rfl ?_
          go_simp
          clear y0 y1 y2 g0 g1 g2;have HZ20:=hid (((HZ20.out.set 0 (.int .i64 xg.w)).set 1 (.string xg.t)).set 2 (.int .i64 xg.v));have HZ19:=hid (((HZ19.out.other (b':=W.heap.size) (o:=0) hne19 (.int .i64 xg.w)).other (b':=W.heap.size) (o:=1) hne19 (.string xg.t)).other (b':=W.heap.size) (o:=2) hne19 (.int .i64 xg.v));refine hK.out _ _ (((hHeld.setCell (p:=⟨W.heap.size,0,none⟩) hA20 _).setCell (p:=⟨W.heap.size,1,none⟩) hA20 _).setCell (p:=⟨W.heap.size,2,none⟩) hA20 _) (fun hHeld=>?_)
          clear hK K;try simp only[Act.put,List.setIfInBounds_toArray,List.set_cons_zero,List.set_cons_succ]
          refine wpAnyH_done (by kernel_rfl) ?_ _
          exact⟨rfl,Wbc.heap.size,W.heap.size,_,_,_,_,_,_,_,_,_,_,_,_,_,_,_,_,_,_,_,hA19,hA20,hne20.symm,hHeld,HZ19,HZ20,rfl⟩
        exact AllReadyH.nil
      refine AllReadyH.cons (o:=⟨some 8,Op.alloc 89,_,_,_,none⟩) rfl (fun K hK=>?_) ?_
      · have HZ19:=hid (Cs.new Wb [.int .i64 0,.string ⟨#[]⟩,.int .i64 0] 89)
        have hA19:wr.heap.size≤Wb.heap.size:=hHeld.size;have hne20:W.heap.size≠Wb.heap.size:=Nat.ne_of_lt HZ20.out.lt;have hne19:=hne20.symm;have HZ20:=hid (HZ20.out.below ((Below.refl _ _).alloc (Nat.le_refl _) (.cells #[.int .i64 0,.string ⟨#[]⟩,.int .i64 0] 89)));have hBc:Below wr.heap.size wr (Wb.alloc (.cells #[.int .i64 0,.string ⟨#[]⟩,.int .i64 0] 89)):=hHeld.alloc hHeld.size _;refine go_wanted rfl ?_
        go_simp
        refine hK.out _ _ hBc (fun hHeld=>?_)
        clear hK K;try simp only[Act.put,List.setIfInBounds_toArray,List.set_cons_zero,List.set_cons_succ]
        replace HZ19:Hid (Cs (Wb.alloc (.cells #[.int .i64 0,.string ⟨#[]⟩,.int .i64 0] 89)) Wb.heap.size [.int .i64 0,.string ⟨#[]⟩,.int .i64 0]):=HZ19;generalize (Wb.alloc (.cells #[.int .i64 0,.string ⟨#[]⟩,.int .i64 0] 89))=Wba at HZ19 hHeld HZ20⊢;clear hBc;refine wpAnyH_ready (rs:=[15]) (by kernel_rfl) (by simp) ?_
        refine AllReadyH.cons (o:=⟨some 35,Op.call ⟨Callee.value (Operand.func 83),#[Operand.tmp 22,Operand.tmp 28,Operand.tmp 34],#[89,89,89]⟩,_,_,_,none⟩) rfl (fun K hK=>?_) ?_
        · refine go_wanted rfl ?_
          go_simp
          refine(settled_any xb xm xt _).mono ?_
          rintro e Wbac ⟨rfl,hbc⟩;rw[←HQ1.out,←HQ2.out];have hBc:Below wr.heap.size wr Wbac:=hHeld.trans (hbc.mono hHeld.size);have HZ19:=hid (HZ19.out.below hbc);have HZ20:=hid (HZ20.out.below hbc);refine hK.out _ _ hBc (fun hHeld=>?_)
          clear hK K hbc;try simp only[Act.put,List.setIfInBounds_toArray,List.set_cons_zero,List.set_cons_succ]
          refine wpAnyH_take (i:=16) (oi:=⟨some 19,Op.move (Operand.tmp 35),_,_,_,none⟩) (v:= .tuple #[.agg #[.int .i64 xs.w,.string xs.t,.int .i64 xs.v],.agg #[.int .i64 xg.w,.string xg.t,.int .i64 xg.v]]) rfl (by kernel_rfl) (by kernel_rfl) (by kernel_rfl) (fun _ _ _ h=>by cases h.1) (Or.inl ⟨by rfl,?_⟩) hHeld ?_
          · intro w' hS'
            go_simp
            exact⟨rfl,rfl⟩
          simp only[Act.put,List.setIfInBounds_toArray,List.set_cons_zero,List.set_cons_succ];refine wpAnyH_take (i:=17) (oi:=⟨some 36,Op.extract (Operand.tmp 19) 0,_,_,_,none⟩) (v:= .agg #[.int .i64 xs.w,.string xs.t,.int .i64 xs.v]) rfl (by kernel_rfl) (by kernel_rfl) (by kernel_rfl) (fun _ _ _ h=>by cases h.1) (Or.inl ⟨by rfl,?_⟩) hHeld ?_
          · intro w' hS'
            go_simp
          simp only[Act.put,List.setIfInBounds_toArray,List.set_cons_zero,List.set_cons_succ];refine wpAnyH_take (i:=18) (oi:=⟨some 37,Op.extract (Operand.tmp 19) 1,_,_,_,none⟩) (v:= .agg #[.int .i64 xg.w,.string xg.t,.int .i64 xg.v]) rfl (by kernel_rfl) (by kernel_rfl) (by kernel_rfl) (fun _ _ _ h=>by cases h.1) (Or.inl ⟨by rfl,?_⟩) hHeld ?_
          · intro w' hS'
            go_simp
          simp only[Act.put,List.setIfInBounds_toArray,List.set_cons_zero,List.set_cons_succ];refine wpAnyH_ready (rs:=[21]) (by kernel_rfl) (by simp) ?_
          refine AllReadyH.cons (o:=⟨none,Op.store 89 (Operand.tmp 8) (Operand.tmp 36),_,_,_,none⟩) rfl (fun K hK=>?_) AllReadyH.nil
          have y0:=HZ19.out.cell 0 rfl;have g0:=HZ19.out.fr 0;have y1:=HZ19.out.cell 1 rfl;have g1:=HZ19.out.fr 1;have y2:=HZ19.out.cell 2 rfl;have g2:=HZ19.out.fr 2;refine go_wanted rfl ?_
          go_simp
          clear y0 y1 y2 g0 g1 g2;have HZ19:=hid (((HZ19.out.set 0 (.int .i64 xs.w)).set 1 (.string xs.t)).set 2 (.int .i64 xs.v));have HZ20:=hid (((HZ20.out.other (b':=Wb.heap.size) (o:=0) hne20 (.int .i64 xs.w)).other (b':=Wb.heap.size) (o:=1) hne20 (.string xs.t)).other (b':=Wb.heap.size) (o:=2) hne20 (.int .i64 xs.v));refine hK.out _ _ (((hHeld.setCell (p:=⟨Wb.heap.size,0,none⟩) hA19 _).setCell (p:=⟨Wb.heap.size,1,none⟩) hA19 _).setCell (p:=⟨Wb.heap.size,2,none⟩) hA19 _) (fun hHeld=>?_)
          clear hK K;try simp only[Act.put,List.setIfInBounds_toArray,List.set_cons_zero,List.set_cons_succ]
          refine wpAnyH_ready (rs:=[22]) (by kernel_rfl) (by simp) ?_
          refine AllReadyH.cons (o:=⟨none,Op.store 89 (Operand.tmp 9) (Operand.tmp 37),_,_,_,none⟩) rfl (fun K hK=>?_) AllReadyH.nil
          have y0:=HZ20.out.cell 0 rfl;have g0:=HZ20.out.fr 0;have y1:=HZ20.out.cell 1 rfl;have g1:=HZ20.out.fr 1;have y2:=HZ20.out.cell 2 rfl;have g2:=HZ20.out.fr 2;refine go_wanted rfl ?_
          go_simp
          clear y0 y1 y2 g0 g1 g2;have HZ20:=hid (((HZ20.out.set 0 (.int .i64 xg.w)).set 1 (.string xg.t)).set 2 (.int .i64 xg.v));have HZ19:=hid (((HZ19.out.other (b':=W.heap.size) (o:=0) hne19 (.int .i64 xg.w)).other (b':=W.heap.size) (o:=1) hne19 (.string xg.t)).other (b':=W.heap.size) (o:=2) hne19 (.int .i64 xg.v));refine hK.out _ _ (((hHeld.setCell (p:=⟨W.heap.size,0,none⟩) hA20 _).setCell (p:=⟨W.heap.size,1,none⟩) hA20 _).setCell (p:=⟨W.heap.size,2,none⟩) hA20 _) (fun hHeld=>?_)
          clear hK K;try simp only[Act.put,List.setIfInBounds_toArray,List.set_cons_zero,List.set_cons_succ]
          refine wpAnyH_done (by kernel_rfl) ?_ _
          exact⟨rfl,Wb.heap.size,W.heap.size,_,_,_,_,_,_,_,_,_,_,_,_,_,_,_,_,_,_,_,hA19,hA20,hne20.symm,hHeld,HZ19,HZ20,rfl⟩
        exact AllReadyH.nil
      exact AllReadyH.nil
    exact AllReadyH.nil
    --END
  · have hke:k=U.length:=by omega
    subst hke;go_wp2_with fail;go_ret;refine⟨_,na,rfl,?_,by omega,Nat.le_refl _,?_,hbel⟩
    · rw[Mg.asi0,←HU.out]
      have:=HOk.out
      rw[List.take_length]at this;exact this
    · rw[Mg.now0,←HU.out]
      have:=HJk.out
      rw[List.take_length]at this;obtain⟨p1,p2,p3,⟨n3,l3,m3⟩,p5,p6,p7,p8,p9⟩:=this
      exact⟨p1,p2,p3,⟨n3,by omega,m3⟩,p5,p6,p7,p8,p9⟩
end Go.Proofs.YtagibnejodgeeaaGreatDoor
