/- What upload.Open answers, where all is right; and in all cases. -/
import Derived.Test.YtppdfeehhnofaaaGreatDoorHAV
import Derived.Deep.RegionHeld3
set_option linter.unusedSimpArgs false
set_option linter.unusedVariables false
namespace Go.Proofs.YtppdfeehhnofaaaGreatDoor
open Go.RowKit

theorem OwnS.row {B:Nat} {w:World} {u:Value} {L:List Se} (h:OwnS B w u L):w.ownsRow B 139 5 u L.length (Pp.flatS L):=by
 rcases h with⟨rfl,rfl⟩|⟨g,cap,rfl,h2,h3,h4,h5,h6⟩
 · exact World.ownsRow_nil _ _ _ _
 · exact own_rowS h4 h5 h3 h6 h2
theorem OwnS.nb {B b:Nat} {w w':World} {u:Value} {L:List Se} (h:OwnS B w u L) (hw:w.grownBy w' (some b)) (hb:b<B):OwnS B w' u L:=by
 rcases h with h|⟨g,cap,h1,h2,h3,h4,h5,h6⟩
 · exact Or.inl h
 · exact Or.inr ⟨g,cap,h1,h2,h3,h4.nb hw (by omega),h5.nb hw (by omega),h6⟩
theorem ownS_of {B:Nat} {w:World} {u:Value} {L:List Se} (h:w.ownsRow B 139 5 u L.length (Pp.flatS L)):OwnS B w u L:=by
 have h':=h;obtain⟨_,h2⟩:=h
 rcases h2 with⟨rfl,hz⟩|⟨g,cap,cur,rfl,hg,hh,hn2,hm,hz,htake⟩
 · exact Or.inl ⟨rfl,List.length_eq_zero_iff.1 hz⟩
 · exact Or.inr ⟨g,cap,rfl,hg,hn2,rowS_own h' rfl,⟨cur,hh,hz⟩,hm⟩
theorem new_cellsS (w:World) (e:Se) (T:TypeId): ∀j u,(Pp.cellsS e)[j]?=some u→(w.alloc (.cells #[.int .i64 e.nu,.string e.wh,.string e.tx,.int .i64 e.si,.int .i64 e.ti] T)).cell? ((⟨w.heap.size,0,none⟩:Addr).add j)=some u:=by
 intro j u hj;match j,hj with
 |0,hj=>simp[Pp.cellsS]at hj;subst hj;simp[Addr.add]
 |1,hj=>simp[Pp.cellsS]at hj;subst hj;simp[Addr.add]
 |2,hj=>simp[Pp.cellsS]at hj;subst hj;simp[Addr.add]
 |3,hj=>simp[Pp.cellsS]at hj;subst hj;simp[Addr.add]
 |4,hj=>simp[Pp.cellsS]at hj;subst hj;simp[Addr.add]
 |j+5,hj=>simp[Pp.cellsS]at hj
theorem Bx.gr {W W':World} {b:Nat} {row:Option Nat} {a0 a1 a2 a3:Value} (h:Bx W b a0 a1 a2 a3) (hw:W.grownBy W' row) (hne:row≠some b):Bx W' b a0 a1 a2 a3:=by
 obtain⟨hb,⟨c0,c1,c2,c3⟩,f0,f1,f2,f3⟩:=h
 have k:W'.heap[b]?=W.heap[b]?:=hw.block b hb (fun e=>hne e.symm);exact⟨Nat.lt_of_lt_of_le hb hw.size,⟨(World.cell?_of_block (a:=⟨b,0,none⟩) k).trans c0,(World.cell?_of_block (a:=⟨b,1,none⟩) k).trans c1,(World.cell?_of_block (a:=⟨b,2,none⟩) k).trans c2,(World.cell?_of_block (a:=⟨b,3,none⟩) k).trans c3⟩,(World.frozen?_of_block (a:=⟨b,0,none⟩) k).trans f0,(World.frozen?_of_block (a:=⟨b,1,none⟩) k).trans f1,(World.frozen?_of_block (a:=⟨b,2,none⟩) k).trans f2,(World.frozen?_of_block (a:=⟨b,3,none⟩) k).trans f3⟩
set_option maxRecDepth 100000 in
set_option maxHeartbeats 4000000 in
theorem open_k (G:List Se) (v:Value) (x l r:Int) (p:ByteArray) (size now:Int) (w:World) (hv:LiesS w v G) (hs:SizedS G) (hp:p.size≤150000000000000) (h0:Pp.goE G x l r now [p]=0) (h1:0≤size) (h2:size≤300) (h3:x<1099511627776) (h4:(Pp.swL now G).length<20) (h5:Pp.takS (Pp.swL now G) p+size≤r):
    Calls Tryz.prog 95 #[.agg #[v,.int .i64 x,.int .i64 l,.int .i64 r],.string p,.int .i64 size,.int .i64 now] w fun e w'=> ∃u,e= .returned (.tuple #[.agg #[u,.int .i64 (x+1),.int .i64 l,.int .i64 r],.int .i64 x,.int .i64 0])∧OwnS w.heap.size w' u (Pp.swL now G++[Pp.newS x p size (now+l)])∧Below w.heap.size w w':=by
 have HV:=ghid hv;have HS:=ghid hs;clear hv hs;obtain⟨w3,hw3⟩: ∃w3,w3=((w.alloc (.cells #[v,.int .i64 x,.int .i64 l,.int .i64 r] 26)).alloc (.cells #[.slice none 0 0,.int .i64 0,.int .i64 0,.int .i64 0] 26)).alloc (.cells #[.string p] 9):=⟨_,rfl⟩
 have B3:=hid (show Below w.heap.size w w3 from by rw[hw3];exact(((Below.refl _ _).alloc (Nat.le_refl _) _).alloc (by simp) _).alloc (by simp;omega) _)
 have HR3:=hid (show Bx w3 (w.heap.size+1) (.slice none 0 0) (.int .i64 0) (.int .i64 0) (.int .i64 0)from by
  have:=(Bx.new (w.alloc (.cells #[v,.int .i64 x,.int .i64 l,.int .i64 r] 26)) (.slice none 0 0) (.int .i64 0) (.int .i64 0) (.int .i64 0) 26).below ((Below.refl _ _).alloc (Nat.le_refl _) (.cells #[.string p] 9))
  rw[hw3];simpa using this)
 have HN3:=hid (show Nms w3 (.slice (some ⟨w.heap.size+2,0,none⟩) 1 1) [p]from Or.inr ⟨w.heap.size+2,1,rfl,by rw[hw3];simp,fun i hi=>by
  match i,hi with
  |0,_=>rw[hw3];simp[go_sem]⟩)
 have hsz3:w3.heap.size=w.heap.size+3:=by rw[hw3];simp
 have hns: ∀s∈[p],s.size≤150000000000000:=fun s h=>by rw[List.mem_singleton.1 h];exact hp
 obtain⟨i0,hi0,hz0,hz1,hz2⟩:=info_parts Tryz.infoSe
 have H0:=ghid h0;obtain⟨huc,⟨hn1,hn2⟩,_⟩:=Pp.go_zero h0
 obtain⟨hl20,⟨hl1,hl2⟩,⟨hr1,hr2⟩,hx1,hx2⟩:=Pp.bnd_zero (Pp.uch_zero huc).1
 have hsw:=Pp.swL_len now G;have HSI:=hid (show∀s∈Pp.swL now G,0≤s.si∧s.si≤300 from fun s h=>Pp.ses_si (Pp.uch_zero huc).2.1 s (List.mem_filter.1 h).1);clear h0 huc;have h20: ¬20≤((Pp.swL now G).length:Int):=by omega
 go_enter Tryz.func95,Tryz.ntmps95
 go_wp2_with fail;rw[←hw3];clear hw3;refine(going_any G _ x l r now [p] _ _ (HV.out.below B3.out) HS.out HN3.out hns (by simp)).mono ?_
 rintro e w4 (⟨hne,_⟩|⟨_,u,rfl,hown,hb4⟩)
 · exact absurd H0.out hne
 have hb04:=B3.out.trans (hb4.mono B3.out.size);have hR4:=HR3.out.below hb4;have hsz4:=hb4.size;have HOWN:=ghid hown;clear hb4 hown;obtain⟨a4,cap4,rfl,hc4,_,_⟩:=HOWN.out.lies (by omega)
 have htk:=Pp.takS_bound p HSI.out;obtain⟨M,hM⟩: ∃M,M=Pp.swL now G:=⟨_,rfl⟩
 rw[←hM]at HSI HOWN h20 h5 hsw htk hc4 h4;have hMl:M.length≤1000:=by omega
 have hT1:0≤Pp.takS M p:=htk.1;have hT2:Pp.takS M p≤6000:=by have:=htk.2;omega
 have hwr:IntKind.i64.wrap (Pp.takS M p+size)=Pp.takS M p+size:=by rw[IntKind.wrap_i64];omega
 clear htk;obtain⟨wz,hwz⟩: ∃wz,wz=w4.alloc (.cells #[.slice a4 M.length cap4,.int .i64 x,.int .i64 l,.int .i64 r] 26):=⟨_,rfl⟩
 have hbz:Below w4.heap.size w4 wz:=by rw[hwz];exact(Below.refl _ _).alloc (Nat.le_refl _) _
 have hGz:Bx wz w4.heap.size (.slice a4 M.length cap4) (.int .i64 x) (.int .i64 l) (.int .i64 r):=by rw[hwz];exact Bx.new _ _ _ _ _ _
 have hRz:=hR4.below hbz;have hb0z:=hb04.trans (hbz.mono hb04.size);have HOZ:=ghid (HOWN.out.below hbz);have hszz:=hbz.size;have hOB: ∀q,(Value.slice a4 M.length cap4).ownBlock=some q→w3.heap.size≤q∧q<w4.heap.size:=fun q hq=>HOWN.out.row.lt q hq
 have HOB:=ghid hOB;have HMM:=ghid hM;rw[←hM];clear hM HOWN hR4 hb04 hbz hOB;have HGZ:=ghid hGz;obtain⟨hGb,⟨q0,q1,q2,q3⟩,k0,k1,k2,k3⟩:=hGz
 have hGb0:=hGb;go_wp2_with fail;rw[←hwz];clear hwz
 go_region_held3 (fun W=>W.cell? ⟨w4.heap.size,0,none⟩=some (.slice a4 M.length cap4)∧W.cell? ⟨w4.heap.size,3,none⟩=some (.int .i64 r)) (go_keep) (first
  |(go_at_call 109;refine(taken_any M _ p _ ((HOZ.out.lies hMl).below (Below.refl _ _).drew) hMl HSI.out).mono ?_;rintro e wa ⟨rfl,hba⟩;have j0:=(hba.cell (p:=⟨w4.heap.size,0,none⟩) hGb).trans q0;have j3:=(hba.cell (p:=⟨w4.heap.size,3,none⟩) hGb).trans q3))
 all_goals
  have hbza:Below wz.heap.size wz wa:=(Below.refl _ _).drew.trans hba;have hb0a:=hb0z.trans (hbza.mono hb0z.size);have HRA:=ghid (hRz.below hbza);have HGA:=ghid (HGZ.out.below hbza);have HOA:=ghid (HOZ.out.below hbza);have hsza:=hbza.size;clear hba hbza hRz q0 q1 q2 q3;generalize Pp.takS M p=T at*;obtain⟨hGb2,⟨q0,q1,q2,q3⟩,_⟩:=HGA.out
  obtain⟨wt,hwt⟩: ∃wt,wt=(wa.alloc (.cells #[.int .i64 x,.string p,.string ⟨#[]⟩,.int .i64 size,.int .i64 (now+l)] 139)).alloc (.cells #[.int .i64 x,.string p,.string ⟨#[]⟩,.int .i64 size,.int .i64 (now+l)] 139):=⟨_,rfl⟩
  have hbt:Below wa.heap.size wa wt:=by rw[hwt];exact((Below.refl _ _).alloc (Nat.le_refl _) _).alloc (by simp) _
  have hrow:wt.ownsRow w3.heap.size 139 5 (.slice a4 M.length cap4) M.length (Pp.flatS M):=by rw[hwt];exact(HOA.out.row.alloc _).alloc _
  have hnews: ∀j u,(Pp.cellsS (Pp.newS x p size (now+l)))[j]?=some u→wt.cell? ((⟨wa.heap.size+1,0,none⟩:Addr).add j)=some u:=by
   intro j u hj;have:=new_cellsS (wa.alloc (.cells #[.int .i64 x,.string p,.string ⟨#[]⟩,.int .i64 size,.int .i64 (now+l)] 139)) (Pp.newS x p size (now+l)) 139 j u hj
   rw[hwt];simpa[Pp.newS]using this
  have s0:wt.cell? ⟨wa.heap.size,0,none⟩=some (.int .i64 x):=by rw[hwt];simp[go_sem]
  have hszt:wt.heap.size=wa.heap.size+2:=by rw[hwt];simp
  have HRT:=ghid (HRA.out.below hbt);have HGT:=ghid (HGA.out.below hbt);have hb0t:=hb0a.trans (hbt.mono hb0a.size);have HROWT:=ghid hrow;have HNEWS:=ghid hnews;clear hnews hrow HRA HOA hbt;go_wp2_with (at_builtin;rw[←hwt];refine wpList_append_own _ rfl _ _ 24 rfl w3.heap.size 139 i0 (.agg #[.int .i64 0,.string ⟨#[]⟩,.string ⟨#[]⟩,.int .i64 0,.int .i64 0]) 5 56 Tryz.underlying24 hi0 hz0 hz1 hz2 rfl (by decide) _ _ _ rfl HROWT.out ⟨wa.heap.size+1,0,none⟩ 1 1 (Pp.cellsS (Pp.newS x p size (now+l))) rfl rfl HNEWS.out (Pp.cellsS_one _) (by unfold maxLen;omega) (by omega) (by omega) ?_)
  intro v2 w2 ho2 hgr2 hnn2;rw[←hwt]at hgr2
  have hne: ∀b,b<w3.heap.size∨w4.heap.size≤b→(Value.slice a4 M.length cap4).ownBlock≠some b:=fun b hb e=>by
   have:=HOB.out b e
   omega
  have HR2:=ghid (HRT.out.gr hgr2 (hne _ (Or.inl (by omega))));have HG2:=ghid (HGT.out.gr hgr2 (hne _ (Or.inr (Nat.le_refl _))));have s2:w2.cell? ⟨wa.heap.size,0,none⟩=some (.int .i64 x):=(World.cell?_of_block (w:=wt) (a:=⟨wa.heap.size,0,none⟩) (hgr2.block _ (by show wa.heap.size<wt.heap.size;omega) (fun e=>hne wa.heap.size (Or.inr (by omega)) e.symm))).trans s0;have hb02:Below w.heap.size w w2:=hb0t.grown hgr2 hb0t.size (fun k hk=>by have:=(HOB.out k hk).1;omega);rw[Pp.flatS_snoc]at ho2;have ho3:w2.ownsRow w3.heap.size 139 5 v2 (M++[Pp.newS x p size (now+l)]).length (Pp.flatS (M++[Pp.newS x p size (now+l)])):=by rw[List.length_append,hsz3];exact ho2
  have HO2:=ghid (ownS_of ho3)
  obtain⟨g5,cap5,hv2⟩: ∃g5 cap5,v2= .slice (some ⟨g5,0,none⟩) (M++[Pp.newS x p size (now+l)]).length cap5:=by
   rcases HO2.out with⟨_,hnil⟩|⟨g5,cap5,h5,_⟩
   · simp at hnil
   · exact⟨g5,cap5,h5⟩
  subst hv2
  have hgne:g5≠w4.heap.size:=fun e=>by
   have h9:=(rowS_own ho3 rfl).2 0 (by simp) 0 (by decide);have h10:=HG2.out.2.1.1;rw[←e]at h10;have h11:=h9.1;rw[show(0*5+0:Nat)=0 from rfl,h10]at h11;simp[Pp.cellsS]at h11
  have HGNE:=ghid hgne;have hsz2:=hgr2.size;clear ho2 ho3 hgr2 hnn2 s0 hwt q0 q1 q2 q3 hGb hGb2 k0 k1 k2 k3;obtain⟨g5lt,g5ne⟩:w3.heap.size≤g5∧g5<w2.heap.size∧OwnS w3.heap.size w2 (.slice (some ⟨g5,0,none⟩) (M++[Pp.newS x p size (now+l)]).length cap5) (M++[Pp.newS x p size (now+l)]):=⟨(HO2.out.row.lt g5 rfl).1,(HO2.out.row.lt g5 rfl).2,HO2.out⟩
  obtain⟨hRb,⟨c0,c1,c2,c3⟩,f0,f1,f2,f3⟩:=HR2.out
  obtain⟨hGb,⟨q0,q1,q2,q3⟩,k0,k1,k2,k3⟩:=HG2.out
  obtain⟨wq,hwq⟩: ∃wq,wq=(w2.setCell ⟨w4.heap.size,0,none⟩ (.slice (some ⟨g5,0,none⟩) (M.length+1) cap5)).setCell ⟨w4.heap.size,1,none⟩ (.int .i64 (x+1)):=⟨_,rfl⟩
  have hnbq:w2.grownBy wq (some w4.heap.size):=by rw[hwq];exact Nb.trans (Nb.setCell _ _ _ _) (Nb.setCell _ _ _ _)
  have HRQ:=ghid (HR2.out.nb hnbq (by omega));have y0:wq.cell? ⟨w4.heap.size,0,none⟩=some (.slice (some ⟨g5,0,none⟩) (M.length+1) cap5):=by rw[hwq];simp[go_sem,q0,q1]
  have y1:wq.cell? ⟨w4.heap.size,1,none⟩=some (.int .i64 (x+1)):=by rw[hwq];simp[go_sem,q0,q1]
  have y2:wq.cell? ⟨w4.heap.size,2,none⟩=some (.int .i64 l):=by rw[hwq];simp[go_sem,q2]
  have y3:wq.cell? ⟨w4.heap.size,3,none⟩=some (.int .i64 r):=by rw[hwq];simp[go_sem,q3]
  have sq:wq.cell? ⟨wa.heap.size,0,none⟩=some (.int .i64 x):=(Nb.cell hnbq (p:=⟨wa.heap.size,0,none⟩) (by show wa.heap.size<w2.heap.size;omega) (by show wa.heap.size≠w4.heap.size;omega)).trans s2;have hb0q:Below w.heap.size w wq:=hb02.trans (Nb.to hnbq hb02.size (by omega))
  have hoq:OwnS w3.heap.size wq (.slice (some ⟨g5,0,none⟩) (M.length+1) cap5) (M++[Pp.newS x p size (now+l)]):=by
   rcases HO2.out with⟨h5,_⟩|⟨g6,cap6,h5,h6,h7,h8,h9,h10⟩
   · cases h5
   · injection h5 with h5a h5b h5c
     injection h5a with h5a
     injection h5a with h5d
     subst h5d;subst h5c;have hgne:g5≠w4.heap.size:=HGNE.out;exact Or.inr ⟨g5,cap5,by simp,h6,h7,h8.nb hnbq hgne,h9.nb hnbq hgne,h10⟩
  have HOQ:=ghid hoq;have hszq:=hnbq.size;go_wp2_with fail;rw[←hwq];clear hwq hnbq q0 q1 q2 q3 k0 k1 k2 k3 c0 c1 c2 c3 f0 f1 f2 f3 s2 hoq hRb hb02;obtain⟨hRb,⟨c0,c1,c2,c3⟩,f0,f1,f2,f3⟩:=HRQ.out
  go_region
  go_wp2_with fail;refine bodyPost_ret (v:= .tuple #[.agg #[.slice (some ⟨g5,0,none⟩) (M.length+1) cap5,.int .i64 (x+1),.int .i64 l,.int .i64 r],.int .i64 x,.int .i64 0]) (by simp[results,Tryz.results95,go_sem,c0,c1,c2,c3,hRb]) rfl ⟨_,rfl,?_,?_⟩
  · rw[←HMM.out]
    exact((HOQ.out.nb (Nb.set4 _ (w.heap.size+1) _ _ _ _) (by omega)).below (Below.refl _ _).drew).mono (by omega)
  · exact(below_set4 (b:=w.heap.size+1) hb0q (by omega)).drew
theorem open_any (G:List Se) (v:Value) (x l r:Int) (p:ByteArray) (size now:Int) (w:World) (hv:LiesS w v G) (hs:SizedS G) (hp:p.size≤150000000000000):
    Calls Tryz.prog 95 #[.agg #[v,.int .i64 x,.int .i64 l,.int .i64 r],.string p,.int .i64 size,.int .i64 now] w fun e w'=>(¬Pp.opE G x l r p size now=0∧e= .returned (.tuple #[.agg #[.slice none 0 0,.int .i64 0,.int .i64 0,.int .i64 0],.int .i64 0,.int .i64 (Pp.opE G x l r p size now)])∧Below w.heap.size w w')∨
     (Pp.opE G x l r p size now=0∧ ∃u,e= .returned (.tuple #[.agg #[u,.int .i64 (x+1),.int .i64 l,.int .i64 r],.int .i64 x,.int .i64 0])∧OwnS w.heap.size w' u (Pp.swL now G++[Pp.newS x p size (now+l)])∧Below w.heap.size w w'):=by
 rcases Pp.op_cases G x l r p size now with⟨h0,hE⟩|⟨h0,h1,hE⟩|⟨h0,h1,h2,hE⟩|⟨h0,h1,h2,h3,hE⟩|⟨h0,h1,h2,h3,h4,hE⟩|⟨h0,h1,h2,h3,h4,h5,hE⟩|⟨h0,h1,h2,h3,h4,h5,hE⟩
 · rw[hE];exact(open_e1 G v x l r p size now w hv hs hp h0).mono fun e w' h=>Or.inl ⟨h0,h⟩
 · rw[hE];exact(open_e2 G v x l r p size now w hv hs hp h0 h1).mono fun e w' h=>Or.inl ⟨by decide,h⟩
 · rw[hE];exact(open_e3 G v x l r p size now w hv hs hp h0 h1 h2).mono fun e w' h=>Or.inl ⟨by decide,h⟩
 · rw[hE];exact(open_e4 G v x l r p size now w hv hs hp h0 h1 h2 h3).mono fun e w' h=>Or.inl ⟨by decide,h⟩
 · rw[hE];exact(open_e5 G v x l r p size now w hv hs hp h0 h1 h2 h3 h4).mono fun e w' h=>Or.inl ⟨by decide,h⟩
 · rw[hE];exact(open_e6 G v x l r p size now w hv hs hp h0 h1 h2 h3 h4 h5).mono fun e w' h=>Or.inl ⟨by decide,h⟩
 · rw[hE];exact(open_k G v x l r p size now w hv hs hp h0 h1 h2 h3 h4 h5).mono fun e w' h=>Or.inr ⟨rfl,h⟩
namespace Pp
/-- Is a session somebody's, by a number? -/
def mine (n:Int) (p:ByteArray) (s:Se):Bool:=(s.nu==n) && (s.wh.toList==p.toList)
def fiE (G:List Se) (x l r:Int) (p:ByteArray) (n now:Int):Int:=if goE G x l r now [p]=0 then(if idS (swL now G) (mine n p)<0 then 5 else 0)else goE G x l r now [p]
theorem fi_cases (G:List Se) (x l r:Int) (p:ByteArray) (n now:Int):(¬goE G x l r now [p]=0∧fiE G x l r p n now=goE G x l r now [p])∨(goE G x l r now [p]=0∧idS (swL now G) (mine n p)= -1∧fiE G x l r p n now=5)∨(goE G x l r now [p]=0∧fiE G x l r p n now=0∧ ∃k,k<(swL now G).length∧idS (swL now G) (mine n p)=(k:Int)):=by
 by_cases h0:goE G x l r now [p]=0
 · right
   have e:fiE G x l r p n now=if idS (swL now G) (mine n p)<0 then 5 else 0:=if_pos h0
   rcases idS_cases (swL now G) (mine n p)with⟨h1,_⟩|⟨k,hk,h1,_⟩
   · left;exact⟨h0,h1,by rw[e,h1];rfl⟩
   · right;exact⟨h0,by rw[e,h1,if_neg (by omega)],k,hk,h1⟩
 · left;exact⟨h0,if_neg h0⟩
end Pp

set_option maxHeartbeats 1000000 in
theorem find1_any (s:Se) (n:Int) (p:ByteArray) (b1 b2:Nat) (w:World) (hb1:b1<w.heap.size) (hb2:b2<w.heap.size) (hc1:w.cell? ⟨b1,0,none⟩=some (.int .i64 n)) (hc2:w.cell? ⟨b2,0,none⟩=some (.string p)):
    Calls Tryz.prog 172 #[.agg #[.int .i64 s.nu,.string s.wh,.string s.tx,.int .i64 s.si,.int .i64 s.ti],.pointer (some ⟨b1,0,none⟩),.pointer (some ⟨b2,0,none⟩)] w fun r w'=>r= .returned (.bool (Pp.mine n p s))∧Below w.heap.size w w':=by
 have k0: ∀o,(w.alloc o).cell? ⟨b1,0,none⟩=some (.int .i64 n):=fun o=>(((Below.refl w.heap.size w).alloc (Nat.le_refl _) o).cell (p:=⟨b1,0,none⟩) hb1).trans hc1
 have k1: ∀o,(w.alloc o).cell? ⟨b2,0,none⟩=some (.string p):=fun o=>(((Below.refl w.heap.size w).alloc (Nat.le_refl _) o).cell (p:=⟨b2,0,none⟩) hb2).trans hc2
 cases h1:(s.nu==n)with
 |true=>
  have HE:=hid (show(s.wh.toList==p.toList)=Pp.mine n p s from by rw[Pp.mine,h1];rfl);go_enter Tryz.func172,Tryz.ntmps172
  go_wp2;go_ret;exact⟨Pp.ret_bool HE.out,(Below.refl _ _).alloc (Nat.le_refl _) _⟩
 |false=>
  have HE:=hid (show false=Pp.mine n p s from by rw[Pp.mine,h1];rfl);go_enter Tryz.func172,Tryz.ntmps172
  go_wp2;go_ret;exact⟨Pp.ret_bool HE.out,(Below.refl _ _).alloc (Nat.le_refl _) _⟩
set_option maxRecDepth 100000 in
set_option maxHeartbeats 4000000 in
theorem find_any (G:List Se) (v:Value) (x l r:Int) (p:ByteArray) (n now:Int) (w:World) (hv:LiesS w v G) (hs:SizedS G) (hp:p.size≤150000000000000):
    Calls Tryz.prog 130 #[.agg #[v,.int .i64 x,.int .i64 l,.int .i64 r],.string p,.int .i64 n,.int .i64 now] w fun e w'=>(¬Pp.fiE G x l r p n now=0∧e= .returned (.tuple #[.agg #[.slice none 0 0,.int .i64 0,.int .i64 0,.int .i64 0],.int .i64 0,.int .i64 (Pp.fiE G x l r p n now)])∧Below w.heap.size w w')∨
     (Pp.fiE G x l r p n now=0∧ ∃u k,e= .returned (.tuple #[.agg #[u,.int .i64 x,.int .i64 l,.int .i64 r],.int .i64 (k:Nat),.int .i64 0])∧k<(Pp.swL now G).length∧Pp.idS (Pp.swL now G) (Pp.mine n p)=k∧OwnS w.heap.size w' u (Pp.swL now G)∧Below w.heap.size w w'):=by
 have HV:=ghid hv;have HS:=ghid hs;clear hv hs;obtain⟨w2,hw2⟩: ∃w2,w2=((w.alloc (.cells #[v,.int .i64 x,.int .i64 l,.int .i64 r] 26)).alloc (.cells #[.string p] 9)).alloc (.cells #[.int .i64 n] 3):=⟨_,rfl⟩
 have hb2:Below w.heap.size w w2:=by rw[hw2];exact(((Below.refl _ _).alloc (Nat.le_refl _) _).alloc (by simp) _).alloc (by simp;omega) _
 have hsz2:w2.heap.size=w.heap.size+3:=by rw[hw2];simp
 have p2:w2.cell? ⟨w.heap.size+1,0,none⟩=some (.string p):=by rw[hw2];simp[go_sem]
 have n2:w2.cell? ⟨w.heap.size+2,0,none⟩=some (.int .i64 n):=by rw[hw2];simp[go_sem]
 obtain⟨w3,hw3⟩: ∃w3,w3=(w2.alloc (.cells #[.slice none 0 0,.int .i64 0,.int .i64 0,.int .i64 0] 26)).alloc (.cells #[.string p] 9):=⟨_,rfl⟩
 have hb23:Below w2.heap.size w2 w3:=by rw[hw3];exact((Below.refl _ _).alloc (Nat.le_refl _) _).alloc (by simp) _
 have B3:=ghid (hb2.trans (hb23.mono hb2.size))
 have HR3:=hid (show Bx w3 (w.heap.size+3) (.slice none 0 0) (.int .i64 0) (.int .i64 0) (.int .i64 0)from by
  have:=(Bx.new w2 (.slice none 0 0) (.int .i64 0) (.int .i64 0) (.int .i64 0) 26).below ((Below.refl _ _).alloc (Nat.le_refl _) (.cells #[.string p] 9))
  rw[hw3];rw[hsz2]at this;exact this)
 have hsz3:w3.heap.size=w.heap.size+5:=by rw[hw3];simp[hsz2]
 have P3:=ghid ((hb23.cell (p:=⟨w.heap.size+1,0,none⟩) (by show w.heap.size+1<w2.heap.size;omega)).trans p2);have N3:=ghid ((hb23.cell (p:=⟨w.heap.size+2,0,none⟩) (by show w.heap.size+2<w2.heap.size;omega)).trans n2)
 have HN3:=hid (show Nms w3 (.slice (some ⟨w.heap.size+4,0,none⟩) 1 1) [p]from Or.inr ⟨w.heap.size+4,1,rfl,by omega,fun i hi=>by
  match i,hi with
  |0,_=>
   have:((w2.alloc (.cells #[.slice none 0 0,.int .i64 0,.int .i64 0,.int .i64 0] 26)).alloc (.cells #[.string p] 9)).cell? ⟨(w2.alloc (.cells #[.slice none 0 0,.int .i64 0,.int .i64 0,.int .i64 0] 26)).heap.size,0,none⟩=some (.string p):=by simp
   rw[hw3];simpa[hsz2]using this⟩)
 have hns: ∀s∈[p],s.size≤150000000000000:=fun s h=>by rw[List.mem_singleton.1 h];exact hp
 rw[hw2]at hw3;clear hb2 hb23 p2 n2 hsz2 hw2;rcases Pp.fi_cases G x l r p n now with⟨h0,hE⟩|⟨h0,h1,hE⟩|⟨h0,hE,k,hk,h1⟩
 · have HE:=ghid hE
   have HNZ:=ghid h0;have hz:(Pp.goE G x l r now [p]==0)=false:=by simpa using h0
   clear hE h0;go_enter Tryz.func130,Tryz.ntmps130
   go_wp2_with fail;rw[←hw3];clear hw3;refine(going_any G _ x l r now [p] _ _ (HV.out.below B3.out) HS.out HN3.out hns (by simp)).mono ?_
   rintro e w4 (⟨_,rfl,hb4⟩|⟨hh,_⟩);rotate_left
   · exact absurd hh HNZ.out
   have hb04:=B3.out.trans (hb4.mono B3.out.size);obtain⟨hRb,⟨c0,c1,c2,c3⟩,f0,f1,f2,f3⟩:=HR3.out.below hb4
   have hsz4:=hb4.size;clear hb4;generalize hy:Pp.goE G x l r now [p]=y at*;go_wp2_with fail;refine bodyPost_ret (v:= .tuple #[.agg #[.slice none 0 0,.int .i64 0,.int .i64 0,.int .i64 0],.int .i64 0,.int .i64 y]) (by simp[results,Tryz.results130,go_sem,c0,c1,c2,c3,hRb]) rfl (Or.inl ⟨by rw[HE.out];exact HNZ.out,by rw[HE.out],?_⟩)
   exact(below_set4 (b:=w.heap.size+3) hb04 (by omega)).alloc (by simp;omega) _
 · have HE:=ghid hE
   have H0:=ghid h0;have HI:=ghid h1;have hl20:=(Pp.bnd_zero (Pp.uch_zero (Pp.go_zero h0).1).1).1;have hsw:=Pp.swL_len now G;clear hE h0 h1;go_enter Tryz.func130,Tryz.ntmps130
   go_wp2_with fail;rw[←hw3];clear hw3;refine(going_any G _ x l r now [p] _ _ (HV.out.below B3.out) HS.out HN3.out hns (by simp)).mono ?_
   rintro e w4 (⟨hne,_⟩|⟨_,u,rfl,hown,hb4⟩)
   · exact absurd H0.out hne
   have hb04:=B3.out.trans (hb4.mono B3.out.size);have hR4:=HR3.out.below hb4;have P4:=ghid ((hb4.cell (p:=⟨w.heap.size+1,0,none⟩) (by show w.heap.size+1<w3.heap.size;omega)).trans P3.out);have N4:=ghid ((hb4.cell (p:=⟨w.heap.size+2,0,none⟩) (by show w.heap.size+2<w3.heap.size;omega)).trans N3.out);have hsz4:=hb4.size;have HOWN:=ghid hown;clear hb4 hown;obtain⟨a5,cap5,hu5,_,_,_⟩:=HOWN.out.lies (by omega)
   subst hu5;obtain⟨wz,hwz⟩: ∃wz,wz=w4.alloc (.cells #[.slice a5 (Pp.swL now G).length cap5,.int .i64 x,.int .i64 l,.int .i64 r] 26):=⟨_,rfl⟩
   have hbz:Below w4.heap.size w4 wz:=by rw[hwz];exact(Below.refl _ _).alloc (Nat.le_refl _) _
   have hGz:Bx wz w4.heap.size (.slice a5 (Pp.swL now G).length cap5) (.int .i64 x) (.int .i64 l) (.int .i64 r):=by rw[hwz];exact Bx.new _ _ _ _ _ _
   have hRz:=hR4.below hbz;have hb0z:=hb04.trans (hbz.mono hb04.size);have hOz:=HOWN.out.below hbz;have pz:=(hbz.cell (p:=⟨w.heap.size+1,0,none⟩) (by show w.heap.size+1<w4.heap.size;omega)).trans P4.out;have nz:=(hbz.cell (p:=⟨w.heap.size+2,0,none⟩) (by show w.heap.size+2<w4.heap.size;omega)).trans N4.out;have hszz:=hbz.size
   have hTell:TellsS wz 0 172 #[.pointer (some ⟨w.heap.size+2,0,none⟩),.pointer (some ⟨w.heap.size+1,0,none⟩)] (Pp.mine n p):=
    ⟨enters_of Tryz.func172 (by kernel_rfl) rfl,fun W hW s=>find1_any s n p (w.heap.size+2) (w.heap.size+1) W (Nat.lt_of_lt_of_le (by omega) hW.size) (Nat.lt_of_lt_of_le (by omega) hW.size) ((Nb.cell hW (p:=⟨w.heap.size+2,0,none⟩) (by show w.heap.size+2<wz.heap.size;omega) (by show w.heap.size+2≠0;omega)).trans nz) ((Nb.cell hW (p:=⟨w.heap.size+1,0,none⟩) (by show w.heap.size+1<wz.heap.size;omega) (by show w.heap.size+1≠0;omega)).trans pz)⟩
   have HT:=ghid hTell;have HOZ:=ghid hOz;have HGZ:=ghid hGz;clear hTell hR4 hb04 hbz HOWN hOz;obtain⟨hGb,⟨q0,q1,q2,q3⟩,k0,k1,k2,k3⟩:=hGz
   go_wp2_with fail;rw[←hwz];clear hwz;refine(sindexFunc_any (Pp.swL now G) _ 0 _ _ (Pp.mine n p) _ (HOZ.out.lies (by omega)) HT.out).mono ?_
   rintro e w5 ⟨rfl,hb5⟩;rw[HI.out];have hb05:=hb0z.trans (hb5.mono hb0z.size);have hR5:=hRz.below hb5;have HG5:=ghid (HGZ.out.below hb5);have HO5:=ghid (HOZ.out.below hb5);have hsz5:=hb5.size;clear hb5 hRz hb0z q0 q1 q2 q3 k0 k1 k2 k3;obtain⟨hRb,⟨c0,c1,c2,c3⟩,f0,f1,f2,f3⟩:=hR5
   obtain⟨hGb5,⟨q0,q1,q2,q3⟩,k0,k1,k2,k3⟩:=HG5.out
   go_wp2_with fail;refine bodyPost_ret (v:= .tuple #[.agg #[.slice none 0 0,.int .i64 0,.int .i64 0,.int .i64 0],.int .i64 0,.int .i64 5]) (by simp[results,Tryz.results130,go_sem,c0,c1,c2,c3,hRb]) rfl (Or.inl ⟨by rw[HE.out];decide,by rw[HE.out],?_⟩)
   exact below_set4 (b:=w.heap.size+3) hb05 (by omega)
 · have HE:=ghid hE
   have HI1:=ghid h1;have hkk: ¬(k:Int)<0:=by omega
   have H0:=ghid h0;have HI:=ghid h1;have hl20:=(Pp.bnd_zero (Pp.uch_zero (Pp.go_zero h0).1).1).1;have hsw:=Pp.swL_len now G;clear hE h0 h1;go_enter Tryz.func130,Tryz.ntmps130
   go_wp2_with fail;rw[←hw3];clear hw3;refine(going_any G _ x l r now [p] _ _ (HV.out.below B3.out) HS.out HN3.out hns (by simp)).mono ?_
   rintro e w4 (⟨hne,_⟩|⟨_,u,rfl,hown,hb4⟩)
   · exact absurd H0.out hne
   have hb04:=B3.out.trans (hb4.mono B3.out.size);have hR4:=HR3.out.below hb4;have P4:=ghid ((hb4.cell (p:=⟨w.heap.size+1,0,none⟩) (by show w.heap.size+1<w3.heap.size;omega)).trans P3.out);have N4:=ghid ((hb4.cell (p:=⟨w.heap.size+2,0,none⟩) (by show w.heap.size+2<w3.heap.size;omega)).trans N3.out);have hsz4:=hb4.size;have HOWN:=ghid hown;clear hb4 hown;obtain⟨a5,cap5,hu5,_,_,_⟩:=HOWN.out.lies (by omega)
   subst hu5;obtain⟨wz,hwz⟩: ∃wz,wz=w4.alloc (.cells #[.slice a5 (Pp.swL now G).length cap5,.int .i64 x,.int .i64 l,.int .i64 r] 26):=⟨_,rfl⟩
   have hbz:Below w4.heap.size w4 wz:=by rw[hwz];exact(Below.refl _ _).alloc (Nat.le_refl _) _
   have hGz:Bx wz w4.heap.size (.slice a5 (Pp.swL now G).length cap5) (.int .i64 x) (.int .i64 l) (.int .i64 r):=by rw[hwz];exact Bx.new _ _ _ _ _ _
   have hRz:=hR4.below hbz;have hb0z:=hb04.trans (hbz.mono hb04.size);have hOz:=HOWN.out.below hbz;have pz:=(hbz.cell (p:=⟨w.heap.size+1,0,none⟩) (by show w.heap.size+1<w4.heap.size;omega)).trans P4.out;have nz:=(hbz.cell (p:=⟨w.heap.size+2,0,none⟩) (by show w.heap.size+2<w4.heap.size;omega)).trans N4.out;have hszz:=hbz.size
   have hTell:TellsS wz 0 172 #[.pointer (some ⟨w.heap.size+2,0,none⟩),.pointer (some ⟨w.heap.size+1,0,none⟩)] (Pp.mine n p):=
    ⟨enters_of Tryz.func172 (by kernel_rfl) rfl,fun W hW s=>find1_any s n p (w.heap.size+2) (w.heap.size+1) W (Nat.lt_of_lt_of_le (by omega) hW.size) (Nat.lt_of_lt_of_le (by omega) hW.size) ((Nb.cell hW (p:=⟨w.heap.size+2,0,none⟩) (by show w.heap.size+2<wz.heap.size;omega) (by show w.heap.size+2≠0;omega)).trans nz) ((Nb.cell hW (p:=⟨w.heap.size+1,0,none⟩) (by show w.heap.size+1<wz.heap.size;omega) (by show w.heap.size+1≠0;omega)).trans pz)⟩
   have HT:=ghid hTell;have HOZ:=ghid hOz;have HGZ:=ghid hGz;clear hTell hR4 hb04 hbz HOWN hOz;obtain⟨hGb,⟨q0,q1,q2,q3⟩,k0,k1,k2,k3⟩:=hGz
   go_wp2_with fail;rw[←hwz];clear hwz;refine(sindexFunc_any (Pp.swL now G) _ 0 _ _ (Pp.mine n p) _ (HOZ.out.lies (by omega)) HT.out).mono ?_
   rintro e w5 ⟨rfl,hb5⟩;rw[HI.out];have hb05:=hb0z.trans (hb5.mono hb0z.size);have hR5:=hRz.below hb5;have HG5:=ghid (HGZ.out.below hb5);have HO5:=ghid (HOZ.out.below hb5);have hsz5:=hb5.size;clear hb5 hRz hb0z q0 q1 q2 q3 k0 k1 k2 k3;obtain⟨hRb,⟨c0,c1,c2,c3⟩,f0,f1,f2,f3⟩:=hR5
   obtain⟨hGb5,⟨q0,q1,q2,q3⟩,k0,k1,k2,k3⟩:=HG5.out
   go_wp2_with fail;refine bodyPost_ret (v:= .tuple #[.agg #[.slice a5 (Pp.swL now G).length cap5,.int .i64 x,.int .i64 l,.int .i64 r],.int .i64 k,.int .i64 0]) (by simp[results,Tryz.results130,go_sem,c0,c1,c2,c3,hRb]) rfl (Or.inr ⟨HE.out,_,k,rfl,hk,HI1.out,?_,?_⟩)
   · exact(HO5.out.nb (Nb.set4 _ (w.heap.size+3) _ _ _ _) (by omega)).mono (by omega)
   · exact below_set4 (b:=w.heap.size+3) hb05 (by omega)
end Go.Proofs.YtppdfeehhnofaaaGreatDoor
namespace Go.Proofs.YtppdfeehhnofaaaGreatDoor
open Go.RowKit

namespace Pp
/-- Is a piece just what a text has from an offset on? -/
def enB (t:ByteArray) (o:Int) (p:ByteArray):Bool:=inR 0 o t.size && ((t.extract o.toNat t.size).toList==p.toList)
end Pp

set_option maxHeartbeats 1000000 in
theorem ends_any (t p:ByteArray) (o:Int) (w:World) (ht:t.size≤150000000000000):
    Calls Tryz.prog 131 #[.string t,.int .i64 o,.string p] w fun e w'=>e= .returned (.bool (Pp.enB t o p))∧w'=w:=by
 cases h1:Pp.inR 0 o t.size with
 |false=>
  have H1:=ghid h1;have HE:=hid (show false=Pp.enB t o p from by rw[Pp.enB,h1];rfl);clear h1;go_enter Tryz.func131,Tryz.ntmps131
  go_wp2_with fail;refine(isFrom_any 0 o t.size _).mono ?_
  rintro e w1 ⟨rfl,hw⟩;rw[hw,H1.out];clear hw w1;go_wp2;go_ret;exact⟨Pp.ret_bool HE.out,rfl⟩
 |true=>
  have H1:=ghid h1;obtain⟨ho1,ho2⟩:=Pp.inR_yes h1
  obtain⟨k,rfl⟩: ∃k:Nat,o=(k:Int):=⟨o.toNat,by omega⟩
  have hk:k≤t.size:=by omega
  have HE:=hid (show((t.extract k t.size).toList==p.toList)=Pp.enB t k p from by rw[Pp.enB,h1];rfl);clear h1;go_enter Tryz.func131,Tryz.ntmps131
  go_wp2_with fail;refine(isFrom_any 0 k t.size _).mono ?_
  rintro e w1 ⟨rfl,hw⟩;rw[hw,H1.out];clear hw w1;go_wp2;go_ret;exact⟨Pp.ret_bool HE.out,rfl⟩
end Go.Proofs.YtppdfeehhnofaaaGreatDoor
namespace Go.Proofs.YtppdfeehhnofaaaGreatDoor
open Go.RowKit

namespace Pp
theorem fi_zero {G:List Se} {x l r:Int} {p:ByteArray} {n now:Int} (h:fiE G x l r p n now=0):goE G x l r now [p]=0:=by
 rcases fi_cases G x l r p n now with⟨h0,hE⟩|⟨h0,_,hE⟩|⟨h0,_⟩
 · rw[h]at hE;exact hE.symm
 · exact h0
 · exact h0
/-- What Append makes of a session. -/
def moreS (s:Se) (t:ByteArray) (till:Int):Se:=⟨s.nu,s.wh,s.tx++t,s.si,till⟩
end Pp
theorem RowS.set2 {w:World} {g:Nat} {d:List Se} (h:RowS w g d) {i:Nat} (hi:i<d.length) (t:ByteArray) (till:Int):RowS ((w.setCell ⟨g,i*5+2,none⟩ (.string t)).setCell ⟨g,i*5+4,none⟩ (.int .i64 till)) g (d.set i ⟨(d[i]).nu,(d[i]).wh,t,(d[i]).si,till⟩):=by
 have hs2:(w.cell? ⟨g,i*5+2,none⟩).isSome=true:=by rw[(h.2 i hi 2 (by decide)).1];rfl
 have hs4:(w.cell? ⟨g,i*5+4,none⟩).isSome=true:=by rw[(h.2 i hi 4 (by decide)).1];rfl
 refine⟨by simpa using h.1,fun j hj c hc=>⟨?_,?_⟩⟩
 · have hj':j<d.length:=by simpa using hj
   by_cases e4:j*5+c=i*5+4
   · obtain⟨rfl,rfl⟩:j=i∧c=4:=by omega
     rw[World.cell?_setCell_same' _ _ _ (by rw[World.cell?_setCell_other (h:=by simp)];exact hs4),List.getElem_set_self];rfl
   · rw[World.cell?_setCell_other (h:=fun e=>e4 (by injection e with _ e2;exact e2.symm))]
     by_cases e2:j*5+c=i*5+2
     · obtain⟨rfl,rfl⟩:j=i∧c=2:=by omega
       rw[World.cell?_setCell_same' _ _ _ hs2,List.getElem_set_self];rfl
     · rw[World.cell?_setCell_other (h:=fun e=>e2 (by injection e with _ e3;exact e3.symm)),(h.2 j hj' c hc).1]
       by_cases e:j=i
       · subst e
         rw[List.getElem_set_self];match c,hc with
         |0,_=>rfl
         |1,_=>rfl
         |2,_=>exact absurd rfl e2
         |3,_=>rfl
         |4,_=>exact absurd rfl e4
       · rw[List.getElem_set_ne (fun e'=>e e'.symm)]
 · rw[World.frozen?_setCell,World.frozen?_setCell];exact(h.2 j (by simpa using hj) c hc).2
set_option maxRecDepth 100000 in
set_option maxHeartbeats 4000000 in
theorem append_k (G:List Se) (v:Value) (x l r:Int) (p:ByteArray) (n o:Int) (t:ByteArray) (now:Int) (w:World) (hv:LiesS w v G) (hs:SizedS G) (hp:p.size≤150000000000000) (h0:Pp.fiE G x l r p n now=0) (kk:Nat) (hkk:kk<(Pp.swL now G).length) (hidx:Pp.idS (Pp.swL now G) (Pp.mine n p)=(kk:Int)) (ht:t.size≤150000000000000) (he:Pp.enB ((Pp.swL now G)[kk]).tx o t=false) (ho:o=(((Pp.swL now G)[kk]).tx.size:Int)) (hsi:(((Pp.swL now G)[kk]).tx.size:Int)+t.size≤((Pp.swL now G)[kk]).si):
    Calls Tryz.prog 96 #[.agg #[v,.int .i64 x,.int .i64 l,.int .i64 r],.string p,.int .i64 n,.int .i64 o,.string t,.int .i64 now] w fun e w'=> ∃u,e= .returned (.tuple #[.agg #[u,.int .i64 x,.int .i64 l,.int .i64 r],.int .i64 ((((Pp.swL now G)[kk]).tx.size:Int)+t.size),.int .i64 0])∧OwnS w.heap.size w' u ((Pp.swL now G).set kk (Pp.moreS (Pp.swL now G)[kk] t (now+l)))∧Below w.heap.size w w':=by
 have HV:=ghid hv;have HS:=ghid hs;clear hv hs;obtain⟨w3,hw3⟩: ∃w3,w3=(w.alloc (.cells #[v,.int .i64 x,.int .i64 l,.int .i64 r] 26)).alloc (.cells #[.slice none 0 0,.int .i64 0,.int .i64 0,.int .i64 0] 26):=⟨_,rfl⟩
 have B3:=hid (show Below w.heap.size w w3 from by rw[hw3];exact((Below.refl _ _).alloc (Nat.le_refl _) _).alloc (by simp) _)
 have HR3:=hid (show Bx w3 (w.heap.size+1) (.slice none 0 0) (.int .i64 0) (.int .i64 0) (.int .i64 0)from by
  have:=Bx.new (w.alloc (.cells #[v,.int .i64 x,.int .i64 l,.int .i64 r] 26)) (.slice none 0 0) (.int .i64 0) (.int .i64 0) (.int .i64 0) 26
  rw[hw3];simpa using this)
 have hsz3:w3.heap.size=w.heap.size+2:=by rw[hw3];simp
 subst ho;have H0:=ghid h0;have HI:=ghid hidx;have hgz:=Pp.fi_zero h0;obtain⟨huc,⟨hn1,hn2⟩,_⟩:=Pp.go_zero hgz
 obtain⟨hl20,⟨hl1,hl2⟩,⟨hr1,hr2⟩,hx1,hx2⟩:=Pp.bnd_zero (Pp.uch_zero huc).1
 have hsw:=Pp.swL_len now G;have hse:=Pp.se_zero (Pp.ses_mem.1 (Pp.uch_zero huc).2.1 _ (List.mem_filter.1 (List.getElem_mem hkk)).1);obtain⟨hsi1,hsi2⟩:=Pp.inR_yes hse.2.1
 have htx:=hse.2.2.2.2;clear h0 hgz huc hse hidx;go_enter Tryz.func96,Tryz.ntmps96
 go_wp2_with fail;rw[←hw3];clear hw3;refine(find_any G _ x l r p n now _ (HV.out.below B3.out) HS.out hp).mono ?_
 rintro e w4 (⟨hne,_⟩|⟨_,u,k,rfl,hk,hid,hown,hb4⟩)
 · exact absurd H0.out hne
 obtain rfl:k=kk:=by have:=HI.out;rw[hid]at this;omega
 have hb04:=B3.out.trans (hb4.mono B3.out.size);have hR4:=HR3.out.below hb4;have hsz4:=hb4.size;clear hb4 hid;rcases hown with⟨_,hnil⟩|⟨g,cap,rfl,hg1,hg2,hrow,hblk,hcm⟩
 · rw[hnil]at hk;simp at hk
 have hglt:=hrow.1;obtain⟨wz,hwz⟩: ∃wz,wz=w4.alloc (.cells #[.slice (some ⟨g,0,none⟩) (Pp.swL now G).length cap,.int .i64 x,.int .i64 l,.int .i64 r] 26):=⟨_,rfl⟩
 have hbz:Below w4.heap.size w4 wz:=by rw[hwz];exact(Below.refl _ _).alloc (Nat.le_refl _) _
 have hGz:Bx wz w4.heap.size (.slice (some ⟨g,0,none⟩) (Pp.swL now G).length cap) (.int .i64 x) (.int .i64 l) (.int .i64 r):=by rw[hwz];exact Bx.new _ _ _ _ _ _
 have hRz:=hR4.below hbz;have hb0z:=hb04.trans (hbz.mono hb04.size);have hrz:=hrow.below hbz;have hblz:=hblk.below hbz;have hszz:=hbz.size;have HGZ:=ghid hGz;have HRZ:=ghid hRz;have HROWZ:=ghid hrz;have HBLZ:=ghid hblz;obtain⟨t0,t1,t2,t3,t4⟩:=hrz.at hk
 clear hR4 hb04 hbz hrow hblk hrz hblz;obtain⟨hGb,⟨q0,q1,q2,q3⟩,k0,k1,k2,k3⟩:=hGz
 have HEN:=ghid he;have hsl:((Pp.swL now G)[k]).tx.size≤150000000000000:=by omega
 clear he;generalize hS:(Pp.swL now G)[k]=s at*;have T2:=ghid t2;have T3:=ghid t3;rw[hwz]at t0 t1 t2 t3 t4;go_wp2_with fail;rw[←hwz];clear hwz t0 t1 t2 t3 t4;have t2:=T2.out;have t3:=T3.out;refine(ends_any s.tx t _ _ hsl).mono ?_
 rintro e w5 ⟨rfl,hw⟩;rw[hw,HEN.out];clear hw w5;have hF2:=(HROWZ.out.2 k hk 2 (by decide)).2;have hF4:=(HROWZ.out.2 k hk 4 (by decide)).2;have hC4:wz.cell? ⟨g,k*5+4,none⟩=some (.int .i64 s.ti):=by have:=(HROWZ.out.at hk).2.2.2.2;rw[hS]at this;exact this
 have hwr2:IntKind.i64.wrap ((s.tx.size:Int)+t.size)=(s.tx.size:Int)+t.size:=by rw[IntKind.wrap_i64];omega
 have hwr3:IntKind.i64.wrap (now+l)=now+l:=by rw[IntKind.wrap_i64];omega
 have hns: ¬s.si<(s.tx.size:Int)+t.size:=by omega
 obtain⟨wq,hwq⟩: ∃wq,wq=((wz.setCell ⟨g,k*5+2,none⟩ (.string (s.tx++t))).setCell ⟨g,k*5+4,none⟩ (.int .i64 (now+l))).drew:=⟨_,rfl⟩
 have hnb0:wz.grownBy ((wz.setCell ⟨g,k*5+2,none⟩ (.string (s.tx++t))).setCell ⟨g,k*5+4,none⟩ (.int .i64 (now+l))) (some g):=Nb.trans (Nb.setCell _ _ _ _) (Nb.setCell _ _ _ _);have hnbq:wz.grownBy wq (some g):=by rw[hwq];exact Nb.trans hnb0 (Nb.below g (Below.refl _ _).drew)
 have hrq:RowS wq g ((Pp.swL now G).set k (Pp.moreS s t (now+l))):=by
  have:=(HROWZ.out.set2 hk (s.tx++t) (now+l)).below (Below.refl _ _).drew
  rw[hS]at this;rw[hwq];exact this
 have hblq:Blk wq g 139 (cap*5):=by
  rw[hwq];exact(KeepB.setCell g _ _ _ _ _ (KeepB.setCell g _ _ _ _ _ HBLZ.out)).below (Below.refl _ _).drew
 have hq2:wq.cell? ⟨g,k*5+2,none⟩=some (.string (s.tx++t)):=by
  have h9:k<((Pp.swL now G).set k (Pp.moreS s t (now+l))).length:=by simpa using hk
  have:=(hrq.at h9).2.2.1
  rw[List.getElem_set_self]at this;exact this
 have HRQ:=ghid (HRZ.out.nb hnbq (by omega));have HGQ:=ghid (HGZ.out.nb hnbq (by omega));have hb0q:Below w.heap.size w wq:=hb0z.trans (Nb.to hnbq hb0z.size (by omega));have HROWQ:=ghid hrq;have HBLQ:=ghid hblq;have hszq:=hnbq.size;have hsapp:(s.tx++t).size=s.tx.size+t.size:=ByteArray.size_append;have HSA:=ghid hsapp;go_wp2_with fail;go_region
 go_wp2_with fail;rw[←hwq];clear hwq hnb0 hnbq hrq hblq t2 t3 hF2 hF4 hC4 q0 q1 q2 q3 k0 k1 k2 k3 hwr2 hwr3 hsapp;obtain⟨hRb,⟨c0,c1,c2,c3⟩,f0,f1,f2,f3⟩:=HRQ.out
 obtain⟨hGb2,⟨q0,q1,q2,q3⟩,k0,k1,k2,k3⟩:=HGQ.out
 go_region
 go_wp2_with fail;refine bodyPost_ret (v:= .tuple #[.agg #[.slice (some ⟨g,0,none⟩) (Pp.swL now G).length cap,.int .i64 x,.int .i64 l,.int .i64 r],.int .i64 ((s.tx.size:Int)+t.size),.int .i64 0]) (by simp[results,Tryz.results96,go_sem,c0,c1,c2,c3,hRb,HSA.out]) rfl ⟨_,by rw[hS],?_,?_⟩
 · rw[hS]
   refine Or.inr ⟨g,cap,by simp,by omega,by simpa using hg2,?_,?_,hcm⟩
   · exact(HROWQ.out.nb (Nb.set4 _ (w.heap.size+1) _ _ _ _) (by omega)).below (Below.refl _ _).drew
   · exact(HBLQ.out.nb (Nb.set4 _ (w.heap.size+1) _ _ _ _) (by omega)).below (Below.refl _ _).drew
 · exact(below_set4 (b:=w.heap.size+1) hb0q (by omega)).drew
end Go.Proofs.YtppdfeehhnofaaaGreatDoor
