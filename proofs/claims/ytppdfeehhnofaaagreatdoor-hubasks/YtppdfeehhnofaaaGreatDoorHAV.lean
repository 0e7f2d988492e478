/- What upload.going answers, for every uploads, time and names. -/
import Derived.Test.YtppdfeehhnofaaaGreatDoorHAU
import Derived.Test.YtppdfeehhnofaaaGreatDoorHAP
import Derived.Deep.RegionHeld3
set_option linter.unusedSimpArgs false
set_option linter.unusedVariables false
namespace Go.Proofs.YtppdfeehhnofaaaGreatDoor
open Go.RowKit

theorem OwnS.below {B:Nat} {w w':World} {u:Value} {L:List Se} (h:OwnS B w u L) (hw:Below w.heap.size w w'):OwnS B w' u L:=by
 rcases h with h|⟨g,cap,h1,h2,h3,h4⟩
 · exact Or.inl h
 · exact Or.inr ⟨g,cap,h1,h2,h3,h4.1.below hw,h4.2.1.below hw,h4.2.2⟩
theorem OwnS.lies {B:Nat} {w:World} {u:Value} {L:List Se} (h:OwnS B w u L) (hn:L.length≤1000):LiesS w u L:=by
 rcases h with⟨rfl,rfl⟩|⟨g,cap,rfl,h2,h3,h4⟩
 · exact liesS_nil _
 · exact h4.1.lies h3 (by omega)
theorem OwnS.mono {B B':Nat} {w:World} {u:Value} {L:List Se} (h:OwnS B w u L) (hB:B'≤B):OwnS B' w u L:=by
 rcases h with h|⟨g,cap,h1,h2,h3,h4⟩
 · exact Or.inl h
 · exact Or.inr ⟨g,cap,h1,Nat.le_trans hB h2,h3,h4⟩
namespace Pp
/-- Is a session over? -/
def ovr (now:Int) (s:Se):Bool:=decide (s.ti<now)
/-- Those that are not over. -/
def swL (now:Int) (G:List Se):List Se:=G.filter fun s=> !ovr now s
def goE (G:List Se) (x l r now:Int) (ns:List ByteArray):Int:=if uchE G x l r=0 then(if inR 0 now 1099511627776=true then nmsE ns else 3)else uchE G x l r
theorem go_cases (G:List Se) (x l r now:Int) (ns:List ByteArray):(¬uchE G x l r=0∧goE G x l r now ns=uchE G x l r)∨(uchE G x l r=0∧inR 0 now 1099511627776=false∧goE G x l r now ns=3)∨(uchE G x l r=0∧inR 0 now 1099511627776=true∧nmsE ns=1∧goE G x l r now ns=1)∨(uchE G x l r=0∧inR 0 now 1099511627776=true∧nmsE ns=0∧goE G x l r now ns=0):=by
 by_cases h:uchE G x l r=0
 · right
   cases h2:inR 0 now 1099511627776 with
   |false=>left;exact⟨h,rfl,by rw[goE,if_pos h,h2];rfl⟩
   |true=>
    right
    have h3:nmsE ns=0∨nmsE ns=1:=by
     rw[nmsE];split
     · exact Or.inl rfl
     · exact Or.inr rfl
    rcases h3 with h3|h3
    · right;exact⟨h,rfl,h3,by rw[goE,if_pos h,h2,if_pos rfl,h3]⟩
    · left;exact⟨h,rfl,h3,by rw[goE,if_pos h,h2,if_pos rfl,h3]⟩
 · left;exact⟨h,by rw[goE,if_neg h]⟩
theorem swL_len (now:Int) (G:List Se):(swL now G).length≤G.length:=List.length_filter_le _ _
end Pp

set_option maxHeartbeats 1000000 in
theorem names_nil (w:World):Calls Tryz.prog 77 #[.slice none 0 0] w fun e w'=>e= .returned (.int .i64 (Pp.nmsE []))∧Below w.heap.size w w':=by
 go_enter Tryz.func77,Tryz.ntmps77
 go_wp2_with fail;go_loopw [9] (fun i wr=>i= .int .i64 0∧wr=w) (fun i _=>0)
 case atStart=>exact⟨rfl,rfl⟩
 case round=>
  obtain⟨rfl,rfl⟩:=hrel
  go_wp2_with fail;go_ret;exact⟨rfl,Below.refl _ _⟩
set_option maxHeartbeats 1000000 in
theorem going1_any (s:Se) (now:Int) (b:Nat) (w:World) (hb:b<w.heap.size) (hc:w.cell? ⟨b,0,none⟩=some (.int .i64 now)):
    Calls Tryz.prog 170 #[.agg #[.int .i64 s.nu,.string s.wh,.string s.tx,.int .i64 s.si,.int .i64 s.ti],.pointer (some ⟨b,0,none⟩)] w fun r w'=>r= .returned (.bool (Pp.ovr now s))∧Below w.heap.size w w':=by
 have hc2: ∀o,(w.alloc o).cell? ⟨b,0,none⟩=some (.int .i64 now):=fun o=>(((Below.refl w.heap.size w).alloc (Nat.le_refl _) o).cell (p:=⟨b,0,none⟩) hb).trans hc
 have HE:Hid (decide (s.ti<now)=Pp.ovr now s):=rfl;go_enter Tryz.func170,Tryz.ntmps170
 go_wp2;go_ret;exact⟨Pp.ret_bool HE.out,(Below.refl _ _).alloc (Nat.le_refl _) _⟩
/-- A row of names that is handed to a variadic function: nil, or in a block. -/
def Nms (w:World) (v:Value) (ns:List ByteArray):Prop:=(v= .slice none 0 0∧ns=[])∨ ∃g cap,v= .slice (some ⟨g,0,none⟩) ns.length cap∧g<w.heap.size∧ ∀i (h:i<ns.length),w.cell? ⟨g,0+i,none⟩=some (.string ns[i])
theorem Nms.below {w w':World} {v:Value} {ns:List ByteArray} (h:Nms w v ns) (hw:Below w.heap.size w w'):Nms w' v ns:=by
 rcases h with h|⟨g,cap,h1,h2,h3⟩
 · exact Or.inl h
 · exact Or.inr ⟨g,cap,h1,Nat.lt_of_lt_of_le h2 hw.size,fun i hi=>(hw.cell (p:=⟨g,0+i,none⟩) h2).trans (h3 i hi)⟩
theorem unames_any (ns:List ByteArray) (v:Value) (w:World) (hv:Nms w v ns) (hs: ∀s∈ns,s.size≤150000000000000) (hl:ns.length≤1000):
    Calls Tryz.prog 77 #[v] w fun e w'=>e= .returned (.int .i64 (Pp.nmsE ns))∧Below w.heap.size w w':=by
 rcases hv with⟨rfl,rfl⟩|⟨g,cap,rfl,h2,h3⟩
 · exact names_nil w
 · exact names_any ns g 0 cap w h2 (fun i h=>Nat.le_trans (hs _ (List.getElem_mem h)) (by decide)) hl h3
/-- A box of four cells that may be written. -/
theorem RowS.nb {W W':World} {g b:Nat} {d:List Se} (h:RowS W g d) (hw:W.grownBy W' (some b)) (hne:g≠b):RowS W' g d:=
 ⟨Nat.lt_of_lt_of_le h.1 hw.size,fun i hi c hc=>⟨(Nb.cell hw (p:=⟨g,i*5+c,none⟩) h.1 hne).trans (h.2 i hi c hc).1,(Nb.frozen hw (p:=⟨g,i*5+c,none⟩) h.1 hne).trans (h.2 i hi c hc).2⟩⟩
theorem Nb.set4 (W:World) (b:Nat) (a0 a1 a2 a3:Value):W.grownBy ((((W.setCell ⟨b,0,none⟩ a0).setCell ⟨b,1,none⟩ a1).setCell ⟨b,2,none⟩ a2).setCell ⟨b,3,none⟩ a3) (some b):=
 Nb.trans (Nb.trans (Nb.trans (Nb.setCell W b 0 a0) (Nb.setCell _ b 1 a1)) (Nb.setCell _ b 2 a2)) (Nb.setCell _ b 3 a3)
set_option maxRecDepth 100000 in
set_option maxHeartbeats 2000000 in
theorem going_any (G:List Se) (v:Value) (x l r now:Int) (ns:List ByteArray) (nv:Value) (w:World) (hv:LiesS w v G) (hs:SizedS G) (hnv:Nms w nv ns) (hns: ∀s∈ns,s.size≤150000000000000) (hnl:ns.length≤1000):
    Calls Tryz.prog 129 #[.agg #[v,.int .i64 x,.int .i64 l,.int .i64 r],.int .i64 now,nv] w fun e w'=>(¬Pp.goE G x l r now ns=0∧e= .returned (.tuple #[.agg #[.slice none 0 0,.int .i64 0,.int .i64 0,.int .i64 0],.int .i64 (Pp.goE G x l r now ns)])∧Below w.heap.size w w')∨
     (Pp.goE G x l r now ns=0∧ ∃u,e= .returned (.tuple #[.agg #[u,.int .i64 x,.int .i64 l,.int .i64 r],.int .i64 0])∧OwnS w.heap.size w' u (Pp.swL now G)∧Below w.heap.size w w'):=by
 have HV:=ghid hv;have HS:=ghid hs;have HN:=ghid hnv;clear hv hs hnv;obtain⟨w3,hw3⟩: ∃w3,w3=((w.alloc (.cells #[v,.int .i64 x,.int .i64 l,.int .i64 r] 26)).alloc (.cells #[.int .i64 now] 3)).alloc (.cells #[.slice none 0 0,.int .i64 0,.int .i64 0,.int .i64 0] 26):=⟨_,rfl⟩
 have B3:=hid (show Below w.heap.size w w3 from by rw[hw3];exact(((Below.refl _ _).alloc (Nat.le_refl _) _).alloc (by simp) _).alloc (by simp;omega) _);have HU3:=hid (show Bx w3 w.heap.size v (.int .i64 x) (.int .i64 l) (.int .i64 r)from by rw[hw3];exact((Bx.new w _ _ _ _ _).below ((Below.refl _ _).alloc (Nat.le_refl _) _)).below ((Below.refl _ _).alloc (Nat.le_refl _) _))
 have HR3:=hid (show Bx w3 (w.heap.size+2) (.slice none 0 0) (.int .i64 0) (.int .i64 0) (.int .i64 0)from by
  have:=Bx.new ((w.alloc (.cells #[v,.int .i64 x,.int .i64 l,.int .i64 r] 26)).alloc (.cells #[.int .i64 now] 3)) (.slice none 0 0) (.int .i64 0) (.int .i64 0) (.int .i64 0) 26
  rw[hw3];simpa using this)
 have HN3:=hid (show w3.cell? ⟨w.heap.size+1,0,none⟩=some (.int .i64 now)from by rw[hw3];simp[go_sem]);have hsz3:w3.heap.size=w.heap.size+3:=by rw[hw3];simp
 rcases Pp.go_cases G x l r now ns with⟨h0,hE⟩|⟨h0,h1,hE⟩|⟨h0,h1,h2,hE⟩|⟨h0,h1,h2,hE⟩
 · have HE:=ghid hE
   have hz:(Pp.uchE G x l r==0)=false:=by simpa using h0
   have HNZ:=ghid h0;clear hE h0;go_enter Tryz.func129,Tryz.ntmps129
   go_wp2_with fail;rw[←hw3];clear hw3;refine(ucheck_any G _ x l r _ (HV.out.below B3.out) HS.out).mono ?_
   rintro e w4 ⟨rfl,hb4⟩;have hR:=HR3.out.below hb4;have hb04:=B3.out.trans (hb4.mono B3.out.size);obtain⟨hRb,⟨c0,c1,c2,c3⟩,f0,f1,f2,f3⟩:=hR
   clear hb4;generalize Pp.uchE G x l r=y at*;go_wp2_with fail;refine bodyPost_ret (v:= .tuple #[.agg #[.slice none 0 0,.int .i64 0,.int .i64 0,.int .i64 0],.int .i64 y]) (by simp[results,Tryz.results129,go_sem,c0,c1,c2,c3,hRb]) rfl (Or.inl ⟨by rw[HE.out];exact HNZ.out,by rw[HE.out],?_⟩)
   exact below_set4 hb04 (by omega)
 · have HE:=ghid hE
   have H0:=ghid h0;have H1:=ghid h1;clear hE h0 h1;go_enter Tryz.func129,Tryz.ntmps129
   go_wp2_with fail;rw[←hw3];clear hw3;refine(ucheck_any G _ x l r _ (HV.out.below B3.out) HS.out).mono ?_
   rintro e w4 ⟨rfl,hb4⟩;rw[H0.out];have hR:=HR3.out.below hb4;have hU:=HU3.out.below hb4;have hb04:=B3.out.trans (hb4.mono B3.out.size);have n4:=(hb4.cell (p:=⟨w.heap.size+1,0,none⟩) (by show w.heap.size+1<w3.heap.size;omega)).trans HN3.out;have hsz4:=hb4.size;clear hb4;go_wp2_with fail;refine(isFrom_any 0 now 1099511627776 _).mono ?_
   rintro e w5 ⟨rfl,hw⟩;rw[hw,H1.out];clear hw w5;obtain⟨hRb,⟨c0,c1,c2,c3⟩,f0,f1,f2,f3⟩:=hR
   go_wp2_with fail;refine bodyPost_ret (v:= .tuple #[.agg #[.slice none 0 0,.int .i64 0,.int .i64 0,.int .i64 0],.int .i64 3]) (by simp[results,Tryz.results129,go_sem,c0,c1,c2,c3,hRb]) rfl (Or.inl ⟨by rw[HE.out];decide,by rw[HE.out],?_⟩)
   exact below_set4 hb04 (by omega)
 · have HE:=ghid hE
   have H0:=ghid h0;have H1:=ghid h1;have H2:=ghid h2;clear hE h0 h1 h2;go_enter Tryz.func129,Tryz.ntmps129
   go_wp2_with fail;rw[←hw3];clear hw3;refine(ucheck_any G _ x l r _ (HV.out.below B3.out) HS.out).mono ?_
   rintro e w4 ⟨rfl,hb4⟩;rw[H0.out];have hR:=HR3.out.below hb4;have hU:=HU3.out.below hb4;have hb04:=B3.out.trans (hb4.mono B3.out.size);have n4:=(hb4.cell (p:=⟨w.heap.size+1,0,none⟩) (by show w.heap.size+1<w3.heap.size;omega)).trans HN3.out;have hsz4:=hb4.size;clear hb4;go_wp2_with fail;refine(isFrom_any 0 now 1099511627776 _).mono ?_
   rintro e w5 ⟨rfl,hw⟩;rw[hw,H1.out];clear hw w5;go_wp2_with fail;refine(unames_any ns nv _ (HN.out.below hb04) hns hnl).mono ?_
   rintro e w5 ⟨rfl,hb5⟩;rw[H2.out];have hR5:=hR.below hb5;have hU5:=hU.below hb5;have hb05:=below_trans hb04 hb5;have n5:=(hb5.cell (p:=⟨w.heap.size+1,0,none⟩) (by show w.heap.size+1<w4.heap.size;omega)).trans n4;have hsz5:=hb5.size;clear hb5 hR hU n4 hb04;obtain⟨hRb,⟨c0,c1,c2,c3⟩,f0,f1,f2,f3⟩:=hR5
   go_wp2_with fail;refine bodyPost_ret (v:= .tuple #[.agg #[.slice none 0 0,.int .i64 0,.int .i64 0,.int .i64 0],.int .i64 1]) (by simp[results,Tryz.results129,go_sem,c0,c1,c2,c3,hRb]) rfl (Or.inl ⟨by rw[HE.out];decide,by rw[HE.out],?_⟩)
   exact below_set4 hb05 (by omega)
 · have HE:=ghid hE
   have H0:=ghid h0;have H1:=ghid h1;have H2:=ghid h2;obtain⟨hl20,_⟩:=Pp.bnd_zero (Pp.uch_zero h0).1
   clear hE h0 h1 h2;go_enter Tryz.func129,Tryz.ntmps129
   go_wp2_with fail;rw[←hw3];clear hw3;refine(ucheck_any G _ x l r _ (HV.out.below B3.out) HS.out).mono ?_
   rintro e w4 ⟨rfl,hb4⟩;rw[H0.out];have hR:=HR3.out.below hb4;have hU:=HU3.out.below hb4;have hb04:=B3.out.trans (hb4.mono B3.out.size);have n4:=(hb4.cell (p:=⟨w.heap.size+1,0,none⟩) (by show w.heap.size+1<w3.heap.size;omega)).trans HN3.out;have hsz4:=hb4.size;clear hb4;go_wp2_with fail;refine(isFrom_any 0 now 1099511627776 _).mono ?_
   rintro e w5 ⟨rfl,hw⟩;rw[hw,H1.out];clear hw w5;go_wp2_with fail;refine(unames_any ns nv _ (HN.out.below hb04) hns hnl).mono ?_
   rintro e w5 ⟨rfl,hb5⟩;rw[H2.out];have hR5:=hR.below hb5;have hU5:=hU.below hb5;have hb05:=below_trans hb04 hb5;have n5:=(hb5.cell (p:=⟨w.heap.size+1,0,none⟩) (by show w.heap.size+1<w4.heap.size;omega)).trans n4;have hsz5:=hb5.size;clear hb5 hR hU n4 hb04;have hU5k:=hU5;obtain⟨hUb,⟨u0,u1,u2,u3⟩,g0,g1,g2,g3⟩:=hU5
   go_wp2_with fail;refine(sclone_any G _ _ (HV.out.below hb05) (by omega)).mono ?_
   rintro e w6 ⟨uc,rfl,hown,hb6⟩;have hR6:=hR5.below hb6;have hU6:=hU5k.below hb6;have hb06:=below_trans hb05 hb6;have n6:=(hb6.cell (p:=⟨w.heap.size+1,0,none⟩) (by show w.heap.size+1<w5.heap.size;omega)).trans n5;have hsz6:=hb6.size;have HOWN:=ghid hown;clear hb6 hR5 hU5k n5 hb05 hUb u0 u1 u2 u3 g0 g1 g2 g3 hown;rcases HOWN.out with⟨rfl,hG⟩|⟨g,cap,rfl,hgb,hgc,hrow,hblk,hcm⟩
   · have HSW:=hid (show Pp.swL now G=[]from by rw[hG];rfl)
     clear hG HOWN;go_wp2_with fail;refine(deleteFunc_nil _ _ _).mono ?_
     rintro e w7 ⟨rfl,hb7⟩;have hR7:=hR6.below hb7;have hU7:=hU6.below hb7;have hb07:=below_trans hb06 hb7;clear hb7 hR6 hU6 hb06;obtain⟨hUb,⟨u0,u1,u2,u3⟩,g0,g1,g2,g3⟩:=hU7
     obtain⟨hRb,⟨c0,c1,c2,c3⟩,f0,f1,f2,f3⟩:=hR7
     go_wp2_with fail;refine bodyPost_ret (v:= .tuple #[.agg #[.slice none 0 0,.int .i64 x,.int .i64 l,.int .i64 r],.int .i64 0]) (by simp[results,Tryz.results129,go_sem,c0,c1,c2,c3,u0,u1,u2,u3,hRb,hUb]) rfl (Or.inr ⟨HE.out,_,rfl,?_,?_⟩)
     · rw[HSW.out];exact Or.inl ⟨rfl,rfl⟩
     · exact below_set4 (hb07.setCell (p:=⟨w.heap.size,0,none⟩) (Nat.le_refl _) _) (by omega)
   · have hTell:TellsS w6 g 170 #[.pointer (some ⟨w.heap.size+1,0,none⟩)] (Pp.ovr now):=
      ⟨enters_of Tryz.func170 (by kernel_rfl) rfl,fun W hW s=>going1_any s now (w.heap.size+1) W (Nat.lt_of_lt_of_le (by omega) hW.size) ((Nb.cell hW (p:=⟨w.heap.size+1,0,none⟩) (by show w.heap.size+1<w6.heap.size;omega) (by show w.heap.size+1≠g;omega)).trans n6)⟩
     have HT:=ghid hTell;have HROW:=ghid hrow;clear hTell hrow HOWN;go_wp2_with fail;refine(deleteFunc_any G g cap _ _ (Pp.ovr now) _ HROW.out HT.out (by omega) hgc).mono ?_
     rintro e w7 ⟨rfl,hrow7,hnb7,hkb7⟩;have hblk7:=hkb7 _ _ hblk;have hR7:=hR6.nb hnb7 (by omega);have hU7:=hU6.nb hnb7 (by omega);have hb07:Below w.heap.size w w7:=hb06.trans (Nb.to hnb7 hb06.size (by omega));have HROW7:=ghid hrow7;have hfl:(G.filter fun s=> !Pp.ovr now s).length≤G.length:=List.length_filter_le _ _;have HBLK7:=ghid hblk7;clear hnb7 hR6 hU6 hb06 hrow7 hkb7 hblk hblk7;obtain⟨hUb,⟨u0,u1,u2,u3⟩,g0,g1,g2,g3⟩:=hU7
     obtain⟨hRb,⟨c0,c1,c2,c3⟩,f0,f1,f2,f3⟩:=hR7
     go_wp2_with fail;refine bodyPost_ret (v:= .tuple #[.agg #[.slice (some ⟨g,0,none⟩) (G.filter fun s=> !Pp.ovr now s).length cap,.int .i64 x,.int .i64 l,.int .i64 r],.int .i64 0]) (by simp[results,Tryz.results129,go_sem,c0,c1,c2,c3,u0,u1,u2,u3,hRb,hUb]) rfl (Or.inr ⟨HE.out,_,rfl,?_,?_⟩)
     · exact Or.inr ⟨g,cap,rfl,by omega,Nat.le_trans hfl hgc,(HROW7.out.nb (Nb.setCell w7 w.heap.size 0 _) (by omega)).nb (Nb.set4 _ (w.heap.size+2) _ _ _ _) (by omega),(HBLK7.out.nb (Nb.setCell w7 w.heap.size 0 _) (by omega)).nb (Nb.set4 _ (w.heap.size+2) _ _ _ _) (by omega),hcm⟩
     · exact below_set4 (hb07.setCell (p:=⟨w.heap.size,0,none⟩) (Nat.le_refl _) _) (by omega)
end Go.Proofs.YtppdfeehhnofaaaGreatDoor
namespace Go.Proofs.YtppdfeehhnofaaaGreatDoor
open Go.RowKit

namespace Pp
/-- Open, where going has no error. -/
def opE (G:List Se) (x l r:Int) (p:ByteArray) (size now:Int):Int:=if¬goE G x l r now [p]=0 then goE G x l r now [p]else if size<0∨300<size∨1099511627776≤x then 3 else if 20≤(swL now G).length then 2 else if r<takS (swL now G) p+size then 10 else 0
theorem op_cases (G:List Se) (x l r:Int) (p:ByteArray) (size now:Int):(¬goE G x l r now [p]=0∧opE G x l r p size now=goE G x l r now [p])∨
    (goE G x l r now [p]=0∧size<0∧opE G x l r p size now=3)∨(goE G x l r now [p]=0∧0≤size∧300<size∧opE G x l r p size now=3)∨(goE G x l r now [p]=0∧0≤size∧size≤300∧1099511627776≤x∧opE G x l r p size now=3)∨
    (goE G x l r now [p]=0∧0≤size∧size≤300∧x<1099511627776∧20≤(swL now G).length∧opE G x l r p size now=2)∨(goE G x l r now [p]=0∧0≤size∧size≤300∧x<1099511627776∧(swL now G).length<20∧r<takS (swL now G) p+size∧opE G x l r p size now=10)∨
    (goE G x l r now [p]=0∧0≤size∧size≤300∧x<1099511627776∧(swL now G).length<20∧takS (swL now G) p+size≤r∧opE G x l r p size now=0):=by
 by_cases h0:goE G x l r now [p]=0
 · right
   have e:opE G x l r p size now=if size<0∨300<size∨1099511627776≤x then 3 else if 20≤(swL now G).length then 2 else if r<takS (swL now G) p+size then 10 else 0:=by rw[opE,if_neg (fun k=>k h0)]
   by_cases h1:size<0
   · left;exact⟨h0,h1,by rw[e,if_pos (Or.inl h1)]⟩
   · right
     by_cases h2:300<size
     · left;exact⟨h0,by omega,h2,by rw[e,if_pos (Or.inr (Or.inl h2))]⟩
     · right
       by_cases h3:1099511627776≤x
       · left;exact⟨h0,by omega,by omega,h3,by rw[e,if_pos (Or.inr (Or.inr h3))]⟩
       · right
         rw[if_neg (by omega)]at e;by_cases h4:20≤(swL now G).length
         · left;exact⟨h0,by omega,by omega,by omega,h4,by rw[e,if_pos h4]⟩
         · right
           rw[if_neg h4]at e;by_cases h5:r<takS (swL now G) p+size
           · left;exact⟨h0,by omega,by omega,by omega,by omega,h5,by rw[e,if_pos h5]⟩
           · right;exact⟨h0,by omega,by omega,by omega,by omega,by omega,by rw[e,if_neg h5]⟩
 · left;exact⟨h0,by rw[opE,if_pos h0]⟩
theorem go_zero {G:List Se} {x l r now:Int} {ns:List ByteArray} (h:goE G x l r now ns=0):uchE G x l r=0∧(0≤now∧now≤1099511627776)∧nmsE ns=0:=by
 rcases go_cases G x l r now ns with⟨h0,hE⟩|⟨h0,h1,hE⟩|⟨h0,h1,h2,hE⟩|⟨h0,h1,h2,hE⟩
 · rw[h]at hE;exact absurd hE.symm h0
 · rw[h]at hE;cases hE
 · rw[h]at hE;cases hE
 · exact⟨h0,inR_yes h1,h2⟩
def newS (x:Int) (p:ByteArray) (size till:Int):Se:=⟨x,p,⟨#[]⟩,size,till⟩
end Pp
end Go.Proofs.YtppdfeehhnofaaaGreatDoor
namespace Go.Proofs.YtppdfeehhnofaaaGreatDoor
open Go.RowKit

set_option maxRecDepth 100000 in
set_option maxHeartbeats 4000000 in
theorem open_e1 (G:List Se) (v:Value) (x l r:Int) (p:ByteArray) (size now:Int) (w:World) (hv:LiesS w v G) (hs:SizedS G) (hp:p.size≤150000000000000) (h0: ¬Pp.goE G x l r now [p]=0):
    Calls Tryz.prog 95 #[.agg #[v,.int .i64 x,.int .i64 l,.int .i64 r],.string p,.int .i64 size,.int .i64 now] w fun e w'=>e= .returned (.tuple #[.agg #[.slice none 0 0,.int .i64 0,.int .i64 0,.int .i64 0],.int .i64 0,.int .i64 (Pp.goE G x l r now [p])])∧Below w.heap.size w w':=by
 have HV:=ghid hv;have HS:=ghid hs;clear hv hs;obtain⟨w3,hw3⟩: ∃w3,w3=((w.alloc (.cells #[v,.int .i64 x,.int .i64 l,.int .i64 r] 26)).alloc (.cells #[.slice none 0 0,.int .i64 0,.int .i64 0,.int .i64 0] 26)).alloc (.cells #[.string p] 9):=⟨_,rfl⟩
 have B3:=hid (show Below w.heap.size w w3 from by rw[hw3];exact(((Below.refl _ _).alloc (Nat.le_refl _) _).alloc (by simp) _).alloc (by simp;omega) _)
 have HR3:=hid (show Bx w3 (w.heap.size+1) (.slice none 0 0) (.int .i64 0) (.int .i64 0) (.int .i64 0)from by
  have:=(Bx.new (w.alloc (.cells #[v,.int .i64 x,.int .i64 l,.int .i64 r] 26)) (.slice none 0 0) (.int .i64 0) (.int .i64 0) (.int .i64 0) 26).below ((Below.refl _ _).alloc (Nat.le_refl _) (.cells #[.string p] 9))
  rw[hw3];simpa using this)
 have HN3:=hid (show Nms w3 (.slice (some ⟨w.heap.size+2,0,none⟩) 1 1) [p]from Or.inr ⟨w.heap.size+2,1,rfl,by rw[hw3];simp,fun i hi=>by
  match i,hi with
  |0,_=>rw[hw3];simp[go_sem]⟩)
 have hsz3:w3.heap.size=w.heap.size+3:=by rw[hw3];simp
 have hns: ∀s∈[p],s.size≤150000000000000:=fun s h=>by rw[List.mem_singleton.1 h];exact hp
 have HNZ:=ghid h0;have hz:(Pp.goE G x l r now [p]==0)=false:=by simpa using h0
 clear h0;go_enter Tryz.func95,Tryz.ntmps95
 go_wp2_with fail;rw[←hw3];clear hw3;refine(going_any G _ x l r now [p] _ _ (HV.out.below B3.out) HS.out HN3.out hns (by simp)).mono ?_
 rintro e w4 (⟨_,rfl,hb4⟩|⟨hh,_⟩);rotate_left
 · exact absurd hh HNZ.out
 have hb04:=B3.out.trans (hb4.mono B3.out.size);obtain⟨hRb,⟨c0,c1,c2,c3⟩,f0,f1,f2,f3⟩:=HR3.out.below hb4
 have hsz4:=hb4.size;clear hb4;generalize hy:Pp.goE G x l r now [p]=y at*;go_wp2_with fail;refine bodyPost_ret (v:= .tuple #[.agg #[.slice none 0 0,.int .i64 0,.int .i64 0,.int .i64 0],.int .i64 0,.int .i64 y]) (by simp[results,Tryz.results95,go_sem,c0,c1,c2,c3,hRb]) rfl ⟨by rw[hy],?_⟩
 exact(below_set4 (b:=w.heap.size+1) (hb04) (by omega)).alloc (by simp;omega) _
set_option maxRecDepth 100000 in
set_option maxHeartbeats 4000000 in
theorem open_e2 (G:List Se) (v:Value) (x l r:Int) (p:ByteArray) (size now:Int) (w:World) (hv:LiesS w v G) (hs:SizedS G) (hp:p.size≤150000000000000) (h0:Pp.goE G x l r now [p]=0) (h1:size<0):
    Calls Tryz.prog 95 #[.agg #[v,.int .i64 x,.int .i64 l,.int .i64 r],.string p,.int .i64 size,.int .i64 now] w fun e w'=>e= .returned (.tuple #[.agg #[.slice none 0 0,.int .i64 0,.int .i64 0,.int .i64 0],.int .i64 0,.int .i64 3])∧Below w.heap.size w w':=by
 have HV:=ghid hv;have HS:=ghid hs;clear hv hs;obtain⟨w3,hw3⟩: ∃w3,w3=((w.alloc (.cells #[v,.int .i64 x,.int .i64 l,.int .i64 r] 26)).alloc (.cells #[.slice none 0 0,.int .i64 0,.int .i64 0,.int .i64 0] 26)).alloc (.cells #[.string p] 9):=⟨_,rfl⟩
 have B3:=hid (show Below w.heap.size w w3 from by rw[hw3];exact(((Below.refl _ _).alloc (Nat.le_refl _) _).alloc (by simp) _).alloc (by simp;omega) _)
 have HR3:=hid (show Bx w3 (w.heap.size+1) (.slice none 0 0) (.int .i64 0) (.int .i64 0) (.int .i64 0)from by
  have:=(Bx.new (w.alloc (.cells #[v,.int .i64 x,.int .i64 l,.int .i64 r] 26)) (.slice none 0 0) (.int .i64 0) (.int .i64 0) (.int .i64 0) 26).below ((Below.refl _ _).alloc (Nat.le_refl _) (.cells #[.string p] 9))
  rw[hw3];simpa using this)
 have HN3:=hid (show Nms w3 (.slice (some ⟨w.heap.size+2,0,none⟩) 1 1) [p]from Or.inr ⟨w.heap.size+2,1,rfl,by rw[hw3];simp,fun i hi=>by
  match i,hi with
  |0,_=>rw[hw3];simp[go_sem]⟩)
 have hsz3:w3.heap.size=w.heap.size+3:=by rw[hw3];simp
 have hns: ∀s∈[p],s.size≤150000000000000:=fun s h=>by rw[List.mem_singleton.1 h];exact hp
 have H0:=ghid h0;obtain⟨huc,⟨hn1,hn2⟩,_⟩:=Pp.go_zero h0
 obtain⟨hl20,⟨hl1,hl2⟩,⟨hr1,hr2⟩,hx1,hx2⟩:=Pp.bnd_zero (Pp.uch_zero huc).1
 have hsw:=Pp.swL_len now G;have HSI:=hid (show∀s∈Pp.swL now G,0≤s.si∧s.si≤300 from fun s h=>Pp.ses_si (Pp.uch_zero huc).2.1 s (List.mem_filter.1 h).1);clear h0 huc;go_enter Tryz.func95,Tryz.ntmps95
 go_wp2_with fail;rw[←hw3];clear hw3;refine(going_any G _ x l r now [p] _ _ (HV.out.below B3.out) HS.out HN3.out hns (by simp)).mono ?_
 rintro e w4 (⟨hne,_⟩|⟨_,u,rfl,hown,hb4⟩)
 · exact absurd H0.out hne
 have hb04:=B3.out.trans (hb4.mono B3.out.size);have hR4:=HR3.out.below hb4;have hsz4:=hb4.size;have HOWN:=ghid hown;clear hb4 hown;obtain⟨a4,cap4,rfl,hc4,_,_⟩:=HOWN.out.lies (by omega)
 obtain⟨hRb,⟨c0,c1,c2,c3⟩,f0,f1,f2,f3⟩:=hR4
 go_wp2_with fail;refine bodyPost_ret (v:= .tuple #[.agg #[.slice none 0 0,.int .i64 0,.int .i64 0,.int .i64 0],.int .i64 0,.int .i64 3]) (by simp[results,Tryz.results95,go_sem,c0,c1,c2,c3,hRb]) rfl ⟨rfl,?_⟩
 exact(below_set4 (b:=w.heap.size+1) (hb04) (by omega)).alloc (by simp;omega) _
set_option maxRecDepth 100000 in
set_option maxHeartbeats 4000000 in
theorem open_e3 (G:List Se) (v:Value) (x l r:Int) (p:ByteArray) (size now:Int) (w:World) (hv:LiesS w v G) (hs:SizedS G) (hp:p.size≤150000000000000) (h0:Pp.goE G x l r now [p]=0) (h1:0≤size) (h2:300<size):
    Calls Tryz.prog 95 #[.agg #[v,.int .i64 x,.int .i64 l,.int .i64 r],.string p,.int .i64 size,.int .i64 now] w fun e w'=>e= .returned (.tuple #[.agg #[.slice none 0 0,.int .i64 0,.int .i64 0,.int .i64 0],.int .i64 0,.int .i64 3])∧Below w.heap.size w w':=by
 have HV:=ghid hv;have HS:=ghid hs;clear hv hs;obtain⟨w3,hw3⟩: ∃w3,w3=((w.alloc (.cells #[v,.int .i64 x,.int .i64 l,.int .i64 r] 26)).alloc (.cells #[.slice none 0 0,.int .i64 0,.int .i64 0,.int .i64 0] 26)).alloc (.cells #[.string p] 9):=⟨_,rfl⟩
 have B3:=hid (show Below w.heap.size w w3 from by rw[hw3];exact(((Below.refl _ _).alloc (Nat.le_refl _) _).alloc (by simp) _).alloc (by simp;omega) _)
 have HR3:=hid (show Bx w3 (w.heap.size+1) (.slice none 0 0) (.int .i64 0) (.int .i64 0) (.int .i64 0)from by
  have:=(Bx.new (w.alloc (.cells #[v,.int .i64 x,.int .i64 l,.int .i64 r] 26)) (.slice none 0 0) (.int .i64 0) (.int .i64 0) (.int .i64 0) 26).below ((Below.refl _ _).alloc (Nat.le_refl _) (.cells #[.string p] 9))
  rw[hw3];simpa using this)
 have HN3:=hid (show Nms w3 (.slice (some ⟨w.heap.size+2,0,none⟩) 1 1) [p]from Or.inr ⟨w.heap.size+2,1,rfl,by rw[hw3];simp,fun i hi=>by
  match i,hi with
  |0,_=>rw[hw3];simp[go_sem]⟩)
 have hsz3:w3.heap.size=w.heap.size+3:=by rw[hw3];simp
 have hns: ∀s∈[p],s.size≤150000000000000:=fun s h=>by rw[List.mem_singleton.1 h];exact hp
 have H0:=ghid h0;obtain⟨huc,⟨hn1,hn2⟩,_⟩:=Pp.go_zero h0
 obtain⟨hl20,⟨hl1,hl2⟩,⟨hr1,hr2⟩,hx1,hx2⟩:=Pp.bnd_zero (Pp.uch_zero huc).1
 have hsw:=Pp.swL_len now G;have HSI:=hid (show∀s∈Pp.swL now G,0≤s.si∧s.si≤300 from fun s h=>Pp.ses_si (Pp.uch_zero huc).2.1 s (List.mem_filter.1 h).1);clear h0 huc;go_enter Tryz.func95,Tryz.ntmps95
 go_wp2_with fail;rw[←hw3];clear hw3;refine(going_any G _ x l r now [p] _ _ (HV.out.below B3.out) HS.out HN3.out hns (by simp)).mono ?_
 rintro e w4 (⟨hne,_⟩|⟨_,u,rfl,hown,hb4⟩)
 · exact absurd H0.out hne
 have hb04:=B3.out.trans (hb4.mono B3.out.size);have hR4:=HR3.out.below hb4;have hsz4:=hb4.size;have HOWN:=ghid hown;clear hb4 hown;obtain⟨a4,cap4,rfl,hc4,_,_⟩:=HOWN.out.lies (by omega)
 obtain⟨hRb,⟨c0,c1,c2,c3⟩,f0,f1,f2,f3⟩:=hR4
 go_wp2_with fail;refine bodyPost_ret (v:= .tuple #[.agg #[.slice none 0 0,.int .i64 0,.int .i64 0,.int .i64 0],.int .i64 0,.int .i64 3]) (by simp[results,Tryz.results95,go_sem,c0,c1,c2,c3,hRb]) rfl ⟨rfl,?_⟩
 exact(below_set4 (b:=w.heap.size+1) (hb04) (by omega)).alloc (by simp;omega) _
set_option maxRecDepth 100000 in
set_option maxHeartbeats 4000000 in
theorem open_e4 (G:List Se) (v:Value) (x l r:Int) (p:ByteArray) (size now:Int) (w:World) (hv:LiesS w v G) (hs:SizedS G) (hp:p.size≤150000000000000) (h0:Pp.goE G x l r now [p]=0) (h1:0≤size) (h2:size≤300) (h3:1099511627776≤x):
    Calls Tryz.prog 95 #[.agg #[v,.int .i64 x,.int .i64 l,.int .i64 r],.string p,.int .i64 size,.int .i64 now] w fun e w'=>e= .returned (.tuple #[.agg #[.slice none 0 0,.int .i64 0,.int .i64 0,.int .i64 0],.int .i64 0,.int .i64 3])∧Below w.heap.size w w':=by
 have HV:=ghid hv;have HS:=ghid hs;clear hv hs;obtain⟨w3,hw3⟩: ∃w3,w3=((w.alloc (.cells #[v,.int .i64 x,.int .i64 l,.int .i64 r] 26)).alloc (.cells #[.slice none 0 0,.int .i64 0,.int .i64 0,.int .i64 0] 26)).alloc (.cells #[.string p] 9):=⟨_,rfl⟩
 have B3:=hid (show Below w.heap.size w w3 from by rw[hw3];exact(((Below.refl _ _).alloc (Nat.le_refl _) _).alloc (by simp) _).alloc (by simp;omega) _)
 have HR3:=hid (show Bx w3 (w.heap.size+1) (.slice none 0 0) (.int .i64 0) (.int .i64 0) (.int .i64 0)from by
  have:=(Bx.new (w.alloc (.cells #[v,.int .i64 x,.int .i64 l,.int .i64 r] 26)) (.slice none 0 0) (.int .i64 0) (.int .i64 0) (.int .i64 0) 26).below ((Below.refl _ _).alloc (Nat.le_refl _) (.cells #[.string p] 9))
  rw[hw3];simpa using this)
 have HN3:=hid (show Nms w3 (.slice (some ⟨w.heap.size+2,0,none⟩) 1 1) [p]from Or.inr ⟨w.heap.size+2,1,rfl,by rw[hw3];simp,fun i hi=>by
  match i,hi with
  |0,_=>rw[hw3];simp[go_sem]⟩)
 have hsz3:w3.heap.size=w.heap.size+3:=by rw[hw3];simp
 have hns: ∀s∈[p],s.size≤150000000000000:=fun s h=>by rw[List.mem_singleton.1 h];exact hp
 have H0:=ghid h0;obtain⟨huc,⟨hn1,hn2⟩,_⟩:=Pp.go_zero h0
 obtain⟨hl20,⟨hl1,hl2⟩,⟨hr1,hr2⟩,hx1,hx2⟩:=Pp.bnd_zero (Pp.uch_zero huc).1
 have hsw:=Pp.swL_len now G;have HSI:=hid (show∀s∈Pp.swL now G,0≤s.si∧s.si≤300 from fun s h=>Pp.ses_si (Pp.uch_zero huc).2.1 s (List.mem_filter.1 h).1);clear h0 huc;go_enter Tryz.func95,Tryz.ntmps95
 go_wp2_with fail;rw[←hw3];clear hw3;refine(going_any G _ x l r now [p] _ _ (HV.out.below B3.out) HS.out HN3.out hns (by simp)).mono ?_
 rintro e w4 (⟨hne,_⟩|⟨_,u,rfl,hown,hb4⟩)
 · exact absurd H0.out hne
 have hb04:=B3.out.trans (hb4.mono B3.out.size);have hR4:=HR3.out.below hb4;have hsz4:=hb4.size;have HOWN:=ghid hown;clear hb4 hown;obtain⟨a4,cap4,rfl,hc4,_,_⟩:=HOWN.out.lies (by omega)
 obtain⟨hRb,⟨c0,c1,c2,c3⟩,f0,f1,f2,f3⟩:=hR4
 go_wp2_with fail;refine bodyPost_ret (v:= .tuple #[.agg #[.slice none 0 0,.int .i64 0,.int .i64 0,.int .i64 0],.int .i64 0,.int .i64 3]) (by simp[results,Tryz.results95,go_sem,c0,c1,c2,c3,hRb]) rfl ⟨rfl,?_⟩
 exact(below_set4 (b:=w.heap.size+1) (hb04) (by omega)).alloc (by simp;omega) _
set_option maxRecDepth 100000 in
set_option maxHeartbeats 4000000 in
theorem open_e5 (G:List Se) (v:Value) (x l r:Int) (p:ByteArray) (size now:Int) (w:World) (hv:LiesS w v G) (hs:SizedS G) (hp:p.size≤150000000000000) (h0:Pp.goE G x l r now [p]=0) (h1:0≤size) (h2:size≤300) (h3:x<1099511627776) (h4:20≤(Pp.swL now G).length):
    Calls Tryz.prog 95 #[.agg #[v,.int .i64 x,.int .i64 l,.int .i64 r],.string p,.int .i64 size,.int .i64 now] w fun e w'=>e= .returned (.tuple #[.agg #[.slice none 0 0,.int .i64 0,.int .i64 0,.int .i64 0],.int .i64 0,.int .i64 2])∧Below w.heap.size w w':=by
 have HV:=ghid hv;have HS:=ghid hs;clear hv hs;obtain⟨w3,hw3⟩: ∃w3,w3=((w.alloc (.cells #[v,.int .i64 x,.int .i64 l,.int .i64 r] 26)).alloc (.cells #[.slice none 0 0,.int .i64 0,.int .i64 0,.int .i64 0] 26)).alloc (.cells #[.string p] 9):=⟨_,rfl⟩
 have B3:=hid (show Below w.heap.size w w3 from by rw[hw3];exact(((Below.refl _ _).alloc (Nat.le_refl _) _).alloc (by simp) _).alloc (by simp;omega) _)
 have HR3:=hid (show Bx w3 (w.heap.size+1) (.slice none 0 0) (.int .i64 0) (.int .i64 0) (.int .i64 0)from by
  have:=(Bx.new (w.alloc (.cells #[v,.int .i64 x,.int .i64 l,.int .i64 r] 26)) (.slice none 0 0) (.int .i64 0) (.int .i64 0) (.int .i64 0) 26).below ((Below.refl _ _).alloc (Nat.le_refl _) (.cells #[.string p] 9))
  rw[hw3];simpa using this)
 have HN3:=hid (show Nms w3 (.slice (some ⟨w.heap.size+2,0,none⟩) 1 1) [p]from Or.inr ⟨w.heap.size+2,1,rfl,by rw[hw3];simp,fun i hi=>by
  match i,hi with
  |0,_=>rw[hw3];simp[go_sem]⟩)
 have hsz3:w3.heap.size=w.heap.size+3:=by rw[hw3];simp
 have hns: ∀s∈[p],s.size≤150000000000000:=fun s h=>by rw[List.mem_singleton.1 h];exact hp
 have H0:=ghid h0;obtain⟨huc,⟨hn1,hn2⟩,_⟩:=Pp.go_zero h0
 obtain⟨hl20,⟨hl1,hl2⟩,⟨hr1,hr2⟩,hx1,hx2⟩:=Pp.bnd_zero (Pp.uch_zero huc).1
 have hsw:=Pp.swL_len now G;have HSI:=hid (show∀s∈Pp.swL now G,0≤s.si∧s.si≤300 from fun s h=>Pp.ses_si (Pp.uch_zero huc).2.1 s (List.mem_filter.1 h).1);clear h0 huc;have h20:20≤((Pp.swL now G).length:Int):=by omega
 go_enter Tryz.func95,Tryz.ntmps95
 go_wp2_with fail;rw[←hw3];clear hw3;refine(going_any G _ x l r now [p] _ _ (HV.out.below B3.out) HS.out HN3.out hns (by simp)).mono ?_
 rintro e w4 (⟨hne,_⟩|⟨_,u,rfl,hown,hb4⟩)
 · exact absurd H0.out hne
 have hb04:=B3.out.trans (hb4.mono B3.out.size);have hR4:=HR3.out.below hb4;have hsz4:=hb4.size;have HOWN:=ghid hown;clear hb4 hown;obtain⟨a4,cap4,rfl,hc4,_,_⟩:=HOWN.out.lies (by omega)
 obtain⟨hRb,⟨c0,c1,c2,c3⟩,f0,f1,f2,f3⟩:=hR4
 go_wp2_with fail;refine bodyPost_ret (v:= .tuple #[.agg #[.slice none 0 0,.int .i64 0,.int .i64 0,.int .i64 0],.int .i64 0,.int .i64 2]) (by simp[results,Tryz.results95,go_sem,c0,c1,c2,c3,hRb]) rfl ⟨rfl,?_⟩
 exact(below_set4 (b:=w.heap.size+1) (hb04) (by omega)).alloc (by simp;omega) _
set_option maxRecDepth 100000 in
set_option maxHeartbeats 4000000 in
theorem open_e6 (G:List Se) (v:Value) (x l r:Int) (p:ByteArray) (size now:Int) (w:World) (hv:LiesS w v G) (hs:SizedS G) (hp:p.size≤150000000000000) (h0:Pp.goE G x l r now [p]=0) (h1:0≤size) (h2:size≤300) (h3:x<1099511627776) (h4:(Pp.swL now G).length<20) (h5:r<Pp.takS (Pp.swL now G) p+size):
    Calls Tryz.prog 95 #[.agg #[v,.int .i64 x,.int .i64 l,.int .i64 r],.string p,.int .i64 size,.int .i64 now] w fun e w'=>e= .returned (.tuple #[.agg #[.slice none 0 0,.int .i64 0,.int .i64 0,.int .i64 0],.int .i64 0,.int .i64 10])∧Below w.heap.size w w':=by
 have HV:=ghid hv;have HS:=ghid hs;clear hv hs;obtain⟨w3,hw3⟩: ∃w3,w3=((w.alloc (.cells #[v,.int .i64 x,.int .i64 l,.int .i64 r] 26)).alloc (.cells #[.slice none 0 0,.int .i64 0,.int .i64 0,.int .i64 0] 26)).alloc (.cells #[.string p] 9):=⟨_,rfl⟩
 have B3:=hid (show Below w.heap.size w w3 from by rw[hw3];exact(((Below.refl _ _).alloc (Nat.le_refl _) _).alloc (by simp) _).alloc (by simp;omega) _)
 have HR3:=hid (show Bx w3 (w.heap.size+1) (.slice none 0 0) (.int .i64 0) (.int .i64 0) (.int .i64 0)from by
  have:=(Bx.new (w.alloc (.cells #[v,.int .i64 x,.int .i64 l,.int .i64 r] 26)) (.slice none 0 0) (.int .i64 0) (.int .i64 0) (.int .i64 0) 26).below ((Below.refl _ _).alloc (Nat.le_refl _) (.cells #[.string p] 9))
  rw[hw3];simpa using this)
 have HN3:=hid (show Nms w3 (.slice (some ⟨w.heap.size+2,0,none⟩) 1 1) [p]from Or.inr ⟨w.heap.size+2,1,rfl,by rw[hw3];simp,fun i hi=>by
  match i,hi with
  |0,_=>rw[hw3];simp[go_sem]⟩)
 have hsz3:w3.heap.size=w.heap.size+3:=by rw[hw3];simp
 have hns: ∀s∈[p],s.size≤150000000000000:=fun s h=>by rw[List.mem_singleton.1 h];exact hp
 have H0:=ghid h0;obtain⟨huc,⟨hn1,hn2⟩,_⟩:=Pp.go_zero h0
 obtain⟨hl20,⟨hl1,hl2⟩,⟨hr1,hr2⟩,hx1,hx2⟩:=Pp.bnd_zero (Pp.uch_zero huc).1
 have hsw:=Pp.swL_len now G;have HSI:=hid (show∀s∈Pp.swL now G,0≤s.si∧s.si≤300 from fun s h=>Pp.ses_si (Pp.uch_zero huc).2.1 s (List.mem_filter.1 h).1);clear h0 huc;have h20: ¬20≤((Pp.swL now G).length:Int):=by omega
 go_enter Tryz.func95,Tryz.ntmps95
 go_wp2_with fail;rw[←hw3];clear hw3;refine(going_any G _ x l r now [p] _ _ (HV.out.below B3.out) HS.out HN3.out hns (by simp)).mono ?_
 rintro e w4 (⟨hne,_⟩|⟨_,u,rfl,hown,hb4⟩)
 · exact absurd H0.out hne
 have hb04:=B3.out.trans (hb4.mono B3.out.size);have hR4:=HR3.out.below hb4;have hsz4:=hb4.size;have HOWN:=ghid hown;clear hb4 hown;obtain⟨a4,cap4,rfl,hc4,_,_⟩:=HOWN.out.lies (by omega)
 have htk:=Pp.takS_bound p HSI.out;obtain⟨M,hM⟩: ∃M,M=Pp.swL now G:=⟨_,rfl⟩
 rw[←hM]at HSI HOWN h20 h5 hsw htk hc4 h4;have hMl:M.length≤1000:=by omega
 have hT1:0≤Pp.takS M p:=htk.1;have hT2:Pp.takS M p≤6000:=by have:=htk.2;omega
 have hwr:IntKind.i64.wrap (Pp.takS M p+size)=Pp.takS M p+size:=by rw[IntKind.wrap_i64];omega
 clear htk;obtain⟨wz,hwz⟩: ∃wz,wz=w4.alloc (.cells #[.slice a4 M.length cap4,.int .i64 x,.int .i64 l,.int .i64 r] 26):=⟨_,rfl⟩
 have hbz:Below w4.heap.size w4 wz:=by rw[hwz];exact(Below.refl _ _).alloc (Nat.le_refl _) _
 have hGz:Bx wz w4.heap.size (.slice a4 M.length cap4) (.int .i64 x) (.int .i64 l) (.int .i64 r):=by rw[hwz];exact Bx.new _ _ _ _ _ _
 have hRz:=hR4.below hbz;have hb0z:=hb04.trans (hbz.mono hb04.size);have HOZ:=ghid (HOWN.out.below hbz);have hszz:=hbz.size;rw[←hM];clear hM HOWN hR4 hb04 hbz;have HGZ:=ghid hGz;obtain⟨hGb,⟨q0,q1,q2,q3⟩,k0,k1,k2,k3⟩:=hGz
 have hGb0:=hGb;go_wp2_with fail;rw[←hwz];clear hwz
 go_region_held3 (fun W=>W.cell? ⟨w4.heap.size,0,none⟩=some (.slice a4 M.length cap4)∧W.cell? ⟨w4.heap.size,3,none⟩=some (.int .i64 r)) (go_keep) (first
  |(go_at_call 109;refine(taken_any M _ p _ ((HOZ.out.lies hMl).below (Below.refl _ _).drew) hMl HSI.out).mono ?_;rintro e wa ⟨rfl,hba⟩;have j0:=(hba.cell (p:=⟨w4.heap.size,0,none⟩) hGb).trans q0;have j3:=(hba.cell (p:=⟨w4.heap.size,3,none⟩) hGb).trans q3))
 all_goals
  have hbza:Below wz.heap.size wz wa:=(Below.refl _ _).drew.trans hba;have hb0a:=hb0z.trans (hbza.mono hb0z.size);obtain⟨hRb,⟨c0,c1,c2,c3⟩,f0,f1,f2,f3⟩:=hRz.below hbza
  have hsza:=hbza.size;clear hba hbza hRz q0 q1 q2 q3;generalize Pp.takS M p=T at*;go_wp2_with fail;refine bodyPost_ret (v:= .tuple #[.agg #[.slice none 0 0,.int .i64 0,.int .i64 0,.int .i64 0],.int .i64 0,.int .i64 10]) (by simp[results,Tryz.results95,go_sem,c0,c1,c2,c3,hRb]) rfl ⟨rfl,?_⟩
  exact below_set4 (b:=w.heap.size+1) (hb0a) (by omega)
end Go.Proofs.YtppdfeehhnofaaaGreatDoor
