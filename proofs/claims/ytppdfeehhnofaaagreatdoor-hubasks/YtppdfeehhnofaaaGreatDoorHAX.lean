/- What upload.Append answers, where something is wrong, or the text is there already; and in all cases. -/
import Derived.Test.YtppdfeehhnofaaaGreatDoorHAW
import Derived.Deep.RegionHeld3
import Derived.Test.YtppdfeehhnofaaaGreatDoorHAU
import Derived.Deep.RegionLaw
import Derived.Test.YtppdfeehhnofaaaGreatDoorHAL
set_option linter.unusedSimpArgs false
set_option linter.unusedVariables false
namespace Go.Proofs.YtppdfeehhnofaaaGreatDoor
open Go.RowKit

set_option maxRecDepth 100000 in
set_option maxHeartbeats 4000000 in
theorem append_e1 (G:List Se) (v:Value) (x l r:Int) (p:ByteArray) (n o:Int) (t:ByteArray) (now:Int) (w:World) (hv:LiesS w v G) (hs:SizedS G) (hp:p.size≤150000000000000) (h0: ¬Pp.fiE G x l r p n now=0):
    Calls Tryz.prog 96 #[.agg #[v,.int .i64 x,.int .i64 l,.int .i64 r],.string p,.int .i64 n,.int .i64 o,.string t,.int .i64 now] w fun e w'=>e= .returned (.tuple #[.agg #[.slice none 0 0,.int .i64 0,.int .i64 0,.int .i64 0],.int .i64 0,.int .i64 (Pp.fiE G x l r p n now)])∧Below w.heap.size w w':=by
 have HV:=ghid hv;have HS:=ghid hs;clear hv hs;obtain⟨w3,hw3⟩: ∃w3,w3=(w.alloc (.cells #[v,.int .i64 x,.int .i64 l,.int .i64 r] 26)).alloc (.cells #[.slice none 0 0,.int .i64 0,.int .i64 0,.int .i64 0] 26):=⟨_,rfl⟩
 have B3:=hid (show Below w.heap.size w w3 from by rw[hw3];exact((Below.refl _ _).alloc (Nat.le_refl _) _).alloc (by simp) _)
 have HR3:=hid (show Bx w3 (w.heap.size+1) (.slice none 0 0) (.int .i64 0) (.int .i64 0) (.int .i64 0)from by
  have:=Bx.new (w.alloc (.cells #[v,.int .i64 x,.int .i64 l,.int .i64 r] 26)) (.slice none 0 0) (.int .i64 0) (.int .i64 0) (.int .i64 0) 26
  rw[hw3];simpa using this)
 have hsz3:w3.heap.size=w.heap.size+2:=by rw[hw3];simp
 have HNZ:=ghid h0;have hz:(Pp.fiE G x l r p n now==0)=false:=by simpa using h0
 clear h0;go_enter Tryz.func96,Tryz.ntmps96
 go_wp2_with fail;rw[←hw3];clear hw3;refine(find_any G _ x l r p n now _ (HV.out.below B3.out) HS.out hp).mono ?_
 rintro e w4 (⟨_,rfl,hb4⟩|⟨hh,_⟩);rotate_left
 · exact absurd hh HNZ.out
 have hb04:=B3.out.trans (hb4.mono B3.out.size);obtain⟨hRb,⟨c0,c1,c2,c3⟩,f0,f1,f2,f3⟩:=HR3.out.below hb4
 have hsz4:=hb4.size;clear hb4;generalize hy:Pp.fiE G x l r p n now=y at*;go_wp2_with fail;refine bodyPost_ret (v:= .tuple #[.agg #[.slice none 0 0,.int .i64 0,.int .i64 0,.int .i64 0],.int .i64 0,.int .i64 y]) (by simp[results,Tryz.results96,go_sem,c0,c1,c2,c3,hRb]) rfl ⟨by rw[hy],?_⟩
 exact(below_set4 (b:=w.heap.size+1) hb04 (by omega)).alloc (by simp;omega) _
set_option maxRecDepth 100000 in
set_option maxHeartbeats 4000000 in
theorem append_same (G:List Se) (v:Value) (x l r:Int) (p:ByteArray) (n o:Int) (t:ByteArray) (now:Int) (w:World) (hv:LiesS w v G) (hs:SizedS G) (hp:p.size≤150000000000000) (h0:Pp.fiE G x l r p n now=0) (kk:Nat) (hkk:kk<(Pp.swL now G).length) (hidx:Pp.idS (Pp.swL now G) (Pp.mine n p)=(kk:Int)) (ht:t.size≤150000000000000) (he:Pp.enB ((Pp.swL now G)[kk]).tx o t=true):
    Calls Tryz.prog 96 #[.agg #[v,.int .i64 x,.int .i64 l,.int .i64 r],.string p,.int .i64 n,.int .i64 o,.string t,.int .i64 now] w fun e w'=> ∃u,e= .returned (.tuple #[.agg #[u,.int .i64 x,.int .i64 l,.int .i64 r],.int .i64 (((Pp.swL now G)[kk]).tx.size:Int),.int .i64 0])∧OwnS w.heap.size w' u (Pp.swL now G)∧Below w.heap.size w w':=by
 have HV:=ghid hv;have HS:=ghid hs;clear hv hs;obtain⟨w3,hw3⟩: ∃w3,w3=(w.alloc (.cells #[v,.int .i64 x,.int .i64 l,.int .i64 r] 26)).alloc (.cells #[.slice none 0 0,.int .i64 0,.int .i64 0,.int .i64 0] 26):=⟨_,rfl⟩
 have B3:=hid (show Below w.heap.size w w3 from by rw[hw3];exact((Below.refl _ _).alloc (Nat.le_refl _) _).alloc (by simp) _)
 have HR3:=hid (show Bx w3 (w.heap.size+1) (.slice none 0 0) (.int .i64 0) (.int .i64 0) (.int .i64 0)from by
  have:=Bx.new (w.alloc (.cells #[v,.int .i64 x,.int .i64 l,.int .i64 r] 26)) (.slice none 0 0) (.int .i64 0) (.int .i64 0) (.int .i64 0) 26
  rw[hw3];simpa using this)
 have hsz3:w3.heap.size=w.heap.size+2:=by rw[hw3];simp
 have H0:=ghid h0;have HI:=ghid hidx;have hgz:=Pp.fi_zero h0;obtain⟨huc,⟨hn1,hn2⟩,_⟩:=Pp.go_zero hgz
 obtain⟨hl20,⟨hl1,hl2⟩,⟨hr1,hr2⟩,hx1,hx2⟩:=Pp.bnd_zero (Pp.uch_zero huc).1
 have hsw:=Pp.swL_len now G;have hse:=Pp.se_zero (Pp.ses_mem.1 (Pp.uch_zero huc).2.1 _ (List.mem_filter.1 (List.getElem_mem hkk)).1);obtain⟨hsi1,hsi2⟩:=Pp.inR_yes hse.2.1
 have htx:=hse.2.2.2.2;clear h0 hgz huc hse hidx;go_enter Tryz.func96,Tryz.ntmps96
 go_wp2_with fail;rw[←hw3];clear hw3;refine(find_any G _ x l r p n now _ (HV.out.below B3.out) HS.out hp).mono ?_
 rintro e w4 (⟨hne,_⟩|⟨_,u,k,rfl,hk,hid,hown,hb4⟩)
 · exact absurd H0.out hne
 obtain rfl:k=kk:=by have:=HI.out;rw[hid]at this;omega
 have hb04:=B3.out.trans (hb4.mono B3.out.size);have hR4:=HR3.out.below hb4;have hsz4:=hb4.size;clear hb4 hid;rcases hown with⟨_,hnil⟩|⟨g,cap,rfl,hg1,hg2,hrow,hblk,hcm⟩
 · rw[hnil]at hk;simp at hk
 have hglt:=hrow.1;obtain⟨wz,hwz⟩: ∃wz,wz=w4.alloc (.cells #[.slice (some ⟨g,0,none⟩) (Pp.swL now G).length cap,.int .i64 x,.int .i64 l,.int .i64 r] 26):=⟨_,rfl⟩
 have hbz:Below w4.heap.size w4 wz:=by rw[hwz];exact(Below.refl _ _).alloc (Nat.le_refl _) _
 have hGz:Bx wz w4.heap.size (.slice (some ⟨g,0,none⟩) (Pp.swL now G).length cap) (.int .i64 x) (.int .i64 l) (.int .i64 r):=by rw[hwz];exact Bx.new _ _ _ _ _ _
 have hRz:=hR4.below hbz;have hb0z:=hb04.trans (hbz.mono hb04.size);have hrz:=hrow.below hbz;have hblz:=hblk.below hbz;have hszz:=hbz.size;have HGZ:=ghid hGz;have HRZ:=ghid hRz;have HROWZ:=ghid hrz;have HBLZ:=ghid hblz;obtain⟨t0,t1,t2,t3,t4⟩:=hrz.at hk
 clear hR4 hb04 hbz hrow hblk hrz hblz;obtain⟨hGb,⟨q0,q1,q2,q3⟩,k0,k1,k2,k3⟩:=hGz
 have HEN:=ghid he;have hsl:((Pp.swL now G)[k]).tx.size≤150000000000000:=by omega
 clear he;generalize hS:(Pp.swL now G)[k]=s at*;have T2:=ghid t2;have T3:=ghid t3;rw[hwz]at t0 t1 t2 t3 t4;go_wp2_with fail;rw[←hwz];clear hwz t0 t1 t2 t3 t4;have t2:=T2.out;have t3:=T3.out;refine(ends_any s.tx t _ _ hsl).mono ?_
 rintro e w5 ⟨rfl,hw⟩;rw[hw,HEN.out];clear hw w5;obtain⟨hRb,⟨c0,c1,c2,c3⟩,f0,f1,f2,f3⟩:=HRZ.out
 go_wp2_with fail;go_region
 go_wp2_with fail;refine bodyPost_ret (v:= .tuple #[.agg #[.slice (some ⟨g,0,none⟩) (Pp.swL now G).length cap,.int .i64 x,.int .i64 l,.int .i64 r],.int .i64 (s.tx.size:Int),.int .i64 0]) (by simp[results,Tryz.results96,go_sem,c0,c1,c2,c3,hRb]) rfl ⟨_,by rw[hS],?_,?_⟩
 · refine Or.inr ⟨g,cap,rfl,by omega,hg2,?_,?_,hcm⟩
   · exact(HROWZ.out.nb (Nb.set4 _ (w.heap.size+1) _ _ _ _) (by omega)).below (Below.refl _ _).drew
   · exact(HBLZ.out.nb (Nb.set4 _ (w.heap.size+1) _ _ _ _) (by omega)).below (Below.refl _ _).drew
 · exact(below_set4 (b:=w.heap.size+1) hb0z (by omega)).drew
set_option maxRecDepth 100000 in
set_option maxHeartbeats 4000000 in
theorem append_e4 (G:List Se) (v:Value) (x l r:Int) (p:ByteArray) (n o:Int) (t:ByteArray) (now:Int) (w:World) (hv:LiesS w v G) (hs:SizedS G) (hp:p.size≤150000000000000) (h0:Pp.fiE G x l r p n now=0) (kk:Nat) (hkk:kk<(Pp.swL now G).length) (hidx:Pp.idS (Pp.swL now G) (Pp.mine n p)=(kk:Int)) (ht:t.size≤150000000000000) (he:Pp.enB ((Pp.swL now G)[kk]).tx o t=false) (ho:(o !=(((Pp.swL now G)[kk]).tx.size:Int))=true):
    Calls Tryz.prog 96 #[.agg #[v,.int .i64 x,.int .i64 l,.int .i64 r],.string p,.int .i64 n,.int .i64 o,.string t,.int .i64 now] w fun e w'=>e= .returned (.tuple #[.agg #[.slice none 0 0,.int .i64 0,.int .i64 0,.int .i64 0],.int .i64 0,.int .i64 4])∧Below w.heap.size w w':=by
 have HV:=ghid hv;have HS:=ghid hs;clear hv hs;obtain⟨w3,hw3⟩: ∃w3,w3=(w.alloc (.cells #[v,.int .i64 x,.int .i64 l,.int .i64 r] 26)).alloc (.cells #[.slice none 0 0,.int .i64 0,.int .i64 0,.int .i64 0] 26):=⟨_,rfl⟩
 have B3:=hid (show Below w.heap.size w w3 from by rw[hw3];exact((Below.refl _ _).alloc (Nat.le_refl _) _).alloc (by simp) _)
 have HR3:=hid (show Bx w3 (w.heap.size+1) (.slice none 0 0) (.int .i64 0) (.int .i64 0) (.int .i64 0)from by
  have:=Bx.new (w.alloc (.cells #[v,.int .i64 x,.int .i64 l,.int .i64 r] 26)) (.slice none 0 0) (.int .i64 0) (.int .i64 0) (.int .i64 0) 26
  rw[hw3];simpa using this)
 have hsz3:w3.heap.size=w.heap.size+2:=by rw[hw3];simp
 have H0:=ghid h0;have HI:=ghid hidx;have hgz:=Pp.fi_zero h0;obtain⟨huc,⟨hn1,hn2⟩,_⟩:=Pp.go_zero hgz
 obtain⟨hl20,⟨hl1,hl2⟩,⟨hr1,hr2⟩,hx1,hx2⟩:=Pp.bnd_zero (Pp.uch_zero huc).1
 have hsw:=Pp.swL_len now G;have hse:=Pp.se_zero (Pp.ses_mem.1 (Pp.uch_zero huc).2.1 _ (List.mem_filter.1 (List.getElem_mem hkk)).1);obtain⟨hsi1,hsi2⟩:=Pp.inR_yes hse.2.1
 have htx:=hse.2.2.2.2;clear h0 hgz huc hse hidx;go_enter Tryz.func96,Tryz.ntmps96
 go_wp2_with fail;rw[←hw3];clear hw3;refine(find_any G _ x l r p n now _ (HV.out.below B3.out) HS.out hp).mono ?_
 rintro e w4 (⟨hne,_⟩|⟨_,u,k,rfl,hk,hid,hown,hb4⟩)
 · exact absurd H0.out hne
 obtain rfl:k=kk:=by have:=HI.out;rw[hid]at this;omega
 have hb04:=B3.out.trans (hb4.mono B3.out.size);have hR4:=HR3.out.below hb4;have hsz4:=hb4.size;clear hb4 hid;rcases hown with⟨_,hnil⟩|⟨g,cap,rfl,hg1,hg2,hrow,hblk,hcm⟩
 · rw[hnil]at hk;simp at hk
 have hglt:=hrow.1;obtain⟨wz,hwz⟩: ∃wz,wz=w4.alloc (.cells #[.slice (some ⟨g,0,none⟩) (Pp.swL now G).length cap,.int .i64 x,.int .i64 l,.int .i64 r] 26):=⟨_,rfl⟩
 have hbz:Below w4.heap.size w4 wz:=by rw[hwz];exact(Below.refl _ _).alloc (Nat.le_refl _) _
 have hGz:Bx wz w4.heap.size (.slice (some ⟨g,0,none⟩) (Pp.swL now G).length cap) (.int .i64 x) (.int .i64 l) (.int .i64 r):=by rw[hwz];exact Bx.new _ _ _ _ _ _
 have hRz:=hR4.below hbz;have hb0z:=hb04.trans (hbz.mono hb04.size);have hrz:=hrow.below hbz;have hblz:=hblk.below hbz;have hszz:=hbz.size;have HGZ:=ghid hGz;have HRZ:=ghid hRz;have HROWZ:=ghid hrz;have HBLZ:=ghid hblz;obtain⟨t0,t1,t2,t3,t4⟩:=hrz.at hk
 clear hR4 hb04 hbz hrow hblk hrz hblz;obtain⟨hGb,⟨q0,q1,q2,q3⟩,k0,k1,k2,k3⟩:=hGz
 have HEN:=ghid he;have hsl:((Pp.swL now G)[k]).tx.size≤150000000000000:=by omega
 clear he;generalize hS:(Pp.swL now G)[k]=s at*;have T2:=ghid t2;have T3:=ghid t3;rw[hwz]at t0 t1 t2 t3 t4;go_wp2_with fail;rw[←hwz];clear hwz t0 t1 t2 t3 t4;have t2:=T2.out;have t3:=T3.out;refine(ends_any s.tx t _ _ hsl).mono ?_
 rintro e w5 ⟨rfl,hw⟩;rw[hw,HEN.out];clear hw w5;obtain⟨hRb,⟨c0,c1,c2,c3⟩,f0,f1,f2,f3⟩:=HRZ.out
 go_wp2_with fail;refine bodyPost_ret (v:= .tuple #[.agg #[.slice none 0 0,.int .i64 0,.int .i64 0,.int .i64 0],.int .i64 0,.int .i64 4]) (by simp[results,Tryz.results96,go_sem,c0,c1,c2,c3,hRb]) rfl ⟨rfl,?_⟩
 exact below_set4 (b:=w.heap.size+1) hb0z (by omega)
set_option maxRecDepth 100000 in
set_option maxHeartbeats 4000000 in
theorem append_e2 (G:List Se) (v:Value) (x l r:Int) (p:ByteArray) (n o:Int) (t:ByteArray) (now:Int) (w:World) (hv:LiesS w v G) (hs:SizedS G) (hp:p.size≤150000000000000) (h0:Pp.fiE G x l r p n now=0) (kk:Nat) (hkk:kk<(Pp.swL now G).length) (hidx:Pp.idS (Pp.swL now G) (Pp.mine n p)=(kk:Int)) (ht:t.size≤150000000000000) (he:Pp.enB ((Pp.swL now G)[kk]).tx o t=false) (ho:o=(((Pp.swL now G)[kk]).tx.size:Int)) (hsi:((Pp.swL now G)[kk]).si<(((Pp.swL now G)[kk]).tx.size:Int)+t.size):
    Calls Tryz.prog 96 #[.agg #[v,.int .i64 x,.int .i64 l,.int .i64 r],.string p,.int .i64 n,.int .i64 o,.string t,.int .i64 now] w fun e w'=>e= .returned (.tuple #[.agg #[.slice none 0 0,.int .i64 0,.int .i64 0,.int .i64 0],.int .i64 0,.int .i64 2])∧Below w.heap.size w w':=by
 have HV:=ghid hv;have HS:=ghid hs;clear hv hs;obtain⟨w3,hw3⟩: ∃w3,w3=(w.alloc (.cells #[v,.int .i64 x,.int .i64 l,.int .i64 r] 26)).alloc (.cells #[.slice none 0 0,.int .i64 0,.int .i64 0,.int .i64 0] 26):=⟨_,rfl⟩
 have B3:=hid (show Below w.heap.size w w3 from by rw[hw3];exact((Below.refl _ _).alloc (Nat.le_refl _) _).alloc (by simp) _)
 have HR3:=hid (show Bx w3 (w.heap.size+1) (.slice none 0 0) (.int .i64 0) (.int .i64 0) (.int .i64 0)from by
  have:=Bx.new (w.alloc (.cells #[v,.int .i64 x,.int .i64 l,.int .i64 r] 26)) (.slice none 0 0) (.int .i64 0) (.int .i64 0) (.int .i64 0) 26
  rw[hw3];simpa using this)
 have hsz3:w3.heap.size=w.heap.size+2:=by rw[hw3];simp
 subst ho;have H0:=ghid h0;have HI:=ghid hidx;have hgz:=Pp.fi_zero h0;obtain⟨huc,⟨hn1,hn2⟩,_⟩:=Pp.go_zero hgz
 obtain⟨hl20,⟨hl1,hl2⟩,⟨hr1,hr2⟩,hx1,hx2⟩:=Pp.bnd_zero (Pp.uch_zero huc).1
 have hsw:=Pp.swL_len now G;have hse:=Pp.se_zero (Pp.ses_mem.1 (Pp.uch_zero huc).2.1 _ (List.mem_filter.1 (List.getElem_mem hkk)).1);obtain⟨hsi1,hsi2⟩:=Pp.inR_yes hse.2.1
 have htx:=hse.2.2.2.2;clear h0 hgz huc hse hidx;go_enter Tryz.func96,Tryz.ntmps96
 go_wp2_with fail;rw[←hw3];clear hw3;refine(find_any G _ x l r p n now _ (HV.out.below B3.out) HS.out hp).mono ?_
 rintro e w4 (⟨hne,_⟩|⟨_,u,k,rfl,hk,hid,hown,hb4⟩)
 · exact absurd H0.out hne
 obtain rfl:k=kk:=by have:=HI.out;rw[hid]at this;omega
 have hb04:=B3.out.trans (hb4.mono B3.out.size);have hR4:=HR3.out.below hb4;have hsz4:=hb4.size;clear hb4 hid;rcases hown with⟨_,hnil⟩|⟨g,cap,rfl,hg1,hg2,hrow,hblk,hcm⟩
 · rw[hnil]at hk;simp at hk
 have hglt:=hrow.1;obtain⟨wz,hwz⟩: ∃wz,wz=w4.alloc (.cells #[.slice (some ⟨g,0,none⟩) (Pp.swL now G).length cap,.int .i64 x,.int .i64 l,.int .i64 r] 26):=⟨_,rfl⟩
 have hbz:Below w4.heap.size w4 wz:=by rw[hwz];exact(Below.refl _ _).alloc (Nat.le_refl _) _
 have hGz:Bx wz w4.heap.size (.slice (some ⟨g,0,none⟩) (Pp.swL now G).length cap) (.int .i64 x) (.int .i64 l) (.int .i64 r):=by rw[hwz];exact Bx.new _ _ _ _ _ _
 have hRz:=hR4.below hbz;have hb0z:=hb04.trans (hbz.mono hb04.size);have hrz:=hrow.below hbz;have hblz:=hblk.below hbz;have hszz:=hbz.size;have HGZ:=ghid hGz;have HRZ:=ghid hRz;have HROWZ:=ghid hrz;have HBLZ:=ghid hblz;obtain⟨t0,t1,t2,t3,t4⟩:=hrz.at hk
 clear hR4 hb04 hbz hrow hblk hrz hblz;obtain⟨hGb,⟨q0,q1,q2,q3⟩,k0,k1,k2,k3⟩:=hGz
 have HEN:=ghid he;have hsl:((Pp.swL now G)[k]).tx.size≤150000000000000:=by omega
 clear he;generalize hS:(Pp.swL now G)[k]=s at*;have T2:=ghid t2;have T3:=ghid t3;rw[hwz]at t0 t1 t2 t3 t4;go_wp2_with fail;rw[←hwz];clear hwz t0 t1 t2 t3 t4;have t2:=T2.out;have t3:=T3.out;refine(ends_any s.tx t _ _ hsl).mono ?_
 rintro e w5 ⟨rfl,hw⟩;rw[hw,HEN.out];clear hw w5;obtain⟨hRb,⟨c0,c1,c2,c3⟩,f0,f1,f2,f3⟩:=HRZ.out
 have hwr2:IntKind.i64.wrap ((s.tx.size:Int)+t.size)=(s.tx.size:Int)+t.size:=by rw[IntKind.wrap_i64];omega
 go_wp2_with fail;go_region
 go_wp2_with fail;refine bodyPost_ret (v:= .tuple #[.agg #[.slice none 0 0,.int .i64 0,.int .i64 0,.int .i64 0],.int .i64 0,.int .i64 2]) (by simp[results,Tryz.results96,go_sem,c0,c1,c2,c3,hRb]) rfl ⟨rfl,?_⟩
 first|exact(below_set4 (b:=w.heap.size+1) hb0z (by omega)).drew|exact below_set4 (b:=w.heap.size+1) hb0z.drew (by omega)
set_option maxRecDepth 100000 in
set_option maxHeartbeats 2000000 in
theorem sameUploads_yes (G:List Se) (v u:Value) (x l r:Int) (w:World) (hv:LiesS w v G) (hu:LiesS w u G):
    Calls Tryz.prog 29 #[.agg #[v,.int .i64 x,.int .i64 l,.int .i64 r],.agg #[u,.int .i64 x,.int .i64 l,.int .i64 r]] w fun e w'=>e= .returned (.bool true)∧Below w.heap.size w w':=by
 obtain⟨a,cap,rfl,hcap,hcap2,hL⟩:=hv
 have HL:Hid (∀i (h:i<G.length),∃b o,a=some ⟨b,o,none⟩∧b<w.heap.size∧SeAt w b (o+i*5) G[i]):=hL;obtain⟨a',cap',rfl,hcap',_,hL'⟩:=hu
 have HL':Hid (∀i (h:i<G.length),∃b o,a'=some ⟨b,o,none⟩∧b<w.heap.size∧SeAt w b (o+i*5) G[i]):=hL';clear hL hL';obtain⟨w2,hw2⟩: ∃w2,w2=(w.alloc (.cells #[.slice a G.length cap,.int .i64 x,.int .i64 l,.int .i64 r] 26)).alloc (.cells #[.slice a' G.length cap',.int .i64 x,.int .i64 l,.int .i64 r] 26):=⟨_,rfl⟩
 have hb2:Below w.heap.size w w2:=by rw[hw2];exact((Below.refl _ _).alloc (Nat.le_refl _) _).alloc (by simp) _
 have HA2:=hid (show Bx w2 w.heap.size (.slice a G.length cap) (.int .i64 x) (.int .i64 l) (.int .i64 r)from by rw[hw2];exact(Bx.new w _ _ _ _ _).below ((Below.refl _ _).alloc (Nat.le_refl _) _))
 have HB2:=hid (show Bx w2 (w.heap.size+1) (.slice a' G.length cap') (.int .i64 x) (.int .i64 l) (.int .i64 r)from by
  have:=Bx.new (w.alloc (.cells #[.slice a G.length cap,.int .i64 x,.int .i64 l,.int .i64 r] 26)) (.slice a' G.length cap') (.int .i64 x) (.int .i64 l) (.int .i64 r) 26
  rw[hw2];simpa using this)
 have hsz2:w2.heap.size=w.heap.size+2:=by rw[hw2];simp
 have HW2:=ghid hw2;go_enter Tryz.func29,Tryz.ntmps29
 go_wp2_with fail;rw[←hw2];clear hw2 HW2;go_loopw [5] (fun i wr=> ∃k:Nat,k≤G.length∧i= .int .i64 k∧Below w2.heap.size w2 wr) (fun i _=>G.length-(intOf i).toNat)
 case atStart=>exact⟨0,Nat.zero_le _,rfl,Below.refl _ _⟩
 case round=>
  obtain⟨k,hk,rfl,hbel2⟩:=hrel
  have hbel:Below w.heap.size w wr:=hb2.trans (hbel2.mono hb2.size);obtain⟨hAb,⟨a0,a1,a2,a3⟩,_⟩:=HA2.out.below hbel2
  obtain⟨hBb,⟨b0,b1,b2,b3⟩,_⟩:=HB2.out.below hbel2
  by_cases hlt:k<G.length
  · obtain⟨b,o,rfl,hb,he⟩:=HL.out k hlt
    obtain⟨b',o',rfl,hb',he'⟩:=HL'.out k hlt
    obtain⟨c0,c1,c2,c3,c4⟩:=he.below hb hbel
    obtain⟨d0,d1,d2,d3,d4⟩:=he'.below hb' hbel
    generalize G[k]=s at*;go_wp2_with fail;go_region
    go_wp2_with fail;go_roundw
    case rel=>exact⟨k+1,by omega,by simp,hbel2.drew⟩
    case measure=>simp[intOf];omega
  · go_wp2_with fail
    go_ret;exact⟨rfl,hbel⟩
theorem RowS.setMany {w:World} {g:Nat} {A B C B':List Se} (h:RowS w g (A++B++C)) (hl:B'.length=B.length):RowS (w.setCells g (A.length*5) (Pp.flatS B')) g (A++B'++C):=by
 have hfl:=Pp.flatS_len B';refine⟨Nat.lt_of_lt_of_le h.1 (Nb.setCells g _ _ w).size,fun j hj c hc=>⟨?_,?_⟩⟩
 · have hj':j<(A++B++C).length:=by simp only[List.length_append]at hj⊢;omega
   by_cases h1:j<A.length
   · rw[World.cell?_setCells_out g _ _ _ _ (fun _ _=>by simp only;omega),(h.2 j hj' c hc).1]
     simp only[List.append_assoc];rw[List.getElem_append_left h1,List.getElem_append_left h1]
   · by_cases h2:j<A.length+B'.length
     · have ht:(j-A.length)*5+c<(Pp.flatS B').length:=by rw[hfl];omega
       have hin:=World.cell?_setCells_in g (Pp.flatS B') (A.length*5) w (fun t ht'=>by
        rw[hfl]at ht';exact(rowS_some h (by simp only[List.length_append];omega)).1) _ ht
       rw[show A.length*5+((j-A.length)*5+c)=j*5+c by omega]at hin;rw[hin];have hg:=Pp.flatS_get B' (j-A.length) c (by omega) hc;rw[List.getElem?_eq_getElem ht]at hg;rw[hg]
       have e:(A++B'++C)[j]=B'[j-A.length]:=by
        simp only[List.append_assoc];rw[List.getElem_append_right (by omega),List.getElem_append_left (by omega)]
       rw[e]
     · rw[World.cell?_setCells_out g _ _ _ _ (fun _ _=>by simp only;rw[hfl];omega),(h.2 j hj' c hc).1]
       have e:(A++B'++C)[j]=(A++B++C)[j]:=by
        simp only[List.append_assoc];rw[List.getElem_append_right (by omega),List.getElem_append_right (by omega),List.getElem_append_right (by omega),List.getElem_append_right (by omega)];congr 1
        omega
       rw[e]
 · rw[World.frozen?_setCells];exact(h.2 j (by simp only[List.length_append]at hj⊢;omega) c hc).2
set_option maxRecDepth 100000 in
set_option maxHeartbeats 4000000 in
theorem sdelete_any (A C:List Se) (y:Se) (q cap:Nat) (w:World) (hR:RowS w q (A++y::C)) (hcap:(A++y::C).length≤cap) (hm:cap≤maxLen):
    Calls Tryz.prog 173 #[.slice (some ⟨q,0,none⟩) (A++y::C).length cap,.int .i64 A.length,.int .i64 ((A.length:Int)+1)] w fun e w'=>e= .returned (.slice (some ⟨q,0,none⟩) (A++C).length cap)∧RowS w' q (A++C)∧w.grownBy w' (some q)∧KeepB q w w':=by
 obtain⟨i0,hi0,hz0,hz1,hz2⟩:=info_parts Tryz.infoSe
 have hmx:cap≤9223372036854775807:=by unfold maxLen at hm;omega
 have hlen:(A++y::C).length=A.length+C.length+1:=by simp;omega
 obtain⟨B,z,hBz⟩: ∃B z,y::C=B++[z]:=⟨(y::C).dropLast,(y::C).getLast (by simp),(List.dropLast_concat_getLast (by simp)).symm⟩
 have hBl:C.length=B.length:=by have:=congrArg List.length hBz;simp at this;omega
 have hR2:RowS w q (A++B++[z]):=by rw[List.append_assoc,←hBz];exact hR
 have hm1:A.length+C.length+1-(A.length+1)=C.length:=by omega
 obtain⟨W1,hW1⟩: ∃W1,W1=w.drew.setCells q (0+A.length*5) (Pp.flatS C):=⟨_,rfl⟩
 have hRd:RowS w.drew q (A++B++[z]):=hR2.below (Below.refl _ _).drew;have hR1:RowS W1 q (A++C++[z]):=by rw[hW1,Nat.zero_add];exact hRd.setMany hBl
 have hnb1:w.grownBy W1 (some q):=by rw[hW1];exact Nb.trans (Nb.below q (Below.refl _ _).drew) (Nb.setCells q _ _ _)
 have hkb1:KeepB q w W1:=by rw[hW1];exact(KeepB.below (Below.refl _ _).drew).trans (KeepB.setCells q _ _ _)
 obtain⟨wc,hcl,hrc,hnc,hkc⟩:=clearS (A:=A++C) (X:=[z]) hR1 0 (by simp)
 have s1:=hid (show(Pp.flatS C).length=C.length*5 from Pp.flatS_len C)
 have s3:=hid (show∀t,t<(Pp.flatS C).length→(w.drew.cell? ⟨q,0+A.length*5+t,none⟩).isSome=true∧w.drew.frozen? ⟨q,0+A.length*5+t,none⟩=false from fun t ht=>by
  rw[Pp.flatS_len]at ht;rw[Nat.zero_add];exact rowS_some hRd (by simp only[List.length_append,List.length_singleton];omega))
 have hsrc:C≠[]→ ∀t u,(Pp.flatS C)[t]?=some u→w.drew.cell? ((⟨q,(A.length+1)*5,none⟩:Addr).add t)=some u:=fun _=>liesS_cells fun i hi=>by
  have hi2:A.length+1+i<(A++y::C).length:=by omega
  have:=(hR.below (Below.refl _ _).drew).at hi2
  rw[show(A.length+1+i)*5=(A.length+1)*5+i*5 by omega]at this
  have e:(A++y::C)[A.length+1+i]=C[i]:=by
   rw[List.getElem_append_right (by omega)];simp[show A.length+1+i-A.length=i+1 by omega]
  rw[e]at this;exact this
 have hACl:(A++C).length=A.length+C.length:=List.length_append;rw[hACl]at hcl⊢;simp only[List.length_singleton]at hcl;have HRC:=ghid hrc;have HNC:=ghid (Nb.trans hnb1 hnc);have HKC:=ghid (hkb1.trans hkc);have HW:=ghid hW1;have HSRC:=ghid hsrc;clear hrc hnc hkc hnb1 hkb1 hW1 hR1 hRd hR2 hR hsrc hBz hBl;have hA0:A.length≤cap:=by omega
 have hN1:(0:Int)≤(A.length:Int)+1:=by omega
 have hN2:(A.length:Int)≤(A.length:Int)+C.length:=by omega
 have hA1:A.length+1≤cap:=by omega
 rw[hlen]at hcap⊢;by_cases hcj:cap=A.length+1
 · have hC0:C=[]:=List.length_eq_zero_iff.1 (by omega)
   subst hC0;subst hcj;have hM1:A.length≤A.length+1:=by omega
   have hM2:(A.length:Int)≤(A.length:Int)+1:=by omega
   have hM3:(0:Int)≤(A.length:Int)+1:=by omega
   simp only[List.length_nil,Nat.add_zero]at*;go_enter Tryz.func173,Tryz.ntmps173
   go_wp2_with fail;go_region_law (refine step_append_room rfl (.tmp 22) (.tmp 25) 24 rfl 139 i0 5 Tryz.underlying24 hi0 hz1 q 0 A.length (A.length+1) (by simp[Act.eval,Act.put]) ⟨q,0,none⟩ 0 0 (Pp.flatS []) (by simp[Act.eval,Act.put]) rfl (by intro t u hu;simp[Pp.flatS]at hu) (flatS_one []) (by omega) s3.out ?_;rw[←HW.out])
   go_wp2_with fail;go_ret;exact⟨rfl,HRC.out,HNC.out,HKC.out⟩
 · have hsrc2:=hid (show∀t u,(Pp.flatS C)[t]?=some u→w.drew.cell? ((⟨q,(A.length+1)*5,none⟩:Addr).add t)=some u from by
    by_cases hC0:C=[]
    · subst hC0;intro t u hu;simp[Pp.flatS]at hu
    · exact HSRC.out hC0)
   go_enter Tryz.func173,Tryz.ntmps173
   go_wp2_with fail;go_region_law (refine step_append_room rfl (.tmp 22) (.tmp 25) 24 rfl 139 i0 5 Tryz.underlying24 hi0 hz1 q 0 A.length cap (by simp[Act.eval,Act.put]) ⟨q,(A.length+1)*5,none⟩ C.length (cap-(A.length+1)) (Pp.flatS C) (by simp[Act.eval,Act.put,hcj]) s1.out hsrc2.out (flatS_one C) (by omega) s3.out ?_;rw[←HW.out])
   go_wp2_with fail;go_ret;exact⟨rfl,HRC.out,HNC.out,HKC.out⟩
set_option maxRecDepth 100000 in
set_option maxHeartbeats 4000000 in
theorem finish_k (G:List Se) (v:Value) (x l r:Int) (p:ByteArray) (n:Int) (now:Int) (w:World) (hv:LiesS w v G) (hs:SizedS G) (hp:p.size≤150000000000000) (h0:Pp.fiE G x l r p n now=0) (kk:Nat) (hkk:kk<(Pp.swL now G).length) (hidx:Pp.idS (Pp.swL now G) (Pp.mine n p)=(kk:Int)) (hsi: ¬(((Pp.swL now G)[kk]).tx.size:Int)<((Pp.swL now G)[kk]).si):
    Calls Tryz.prog 132 #[.agg #[v,.int .i64 x,.int .i64 l,.int .i64 r],.string p,.int .i64 n,.int .i64 now] w fun e w'=> ∃u,e= .returned (.tuple #[.agg #[u,.int .i64 x,.int .i64 l,.int .i64 r],.string ((Pp.swL now G)[kk]).tx,.int .i64 0])∧OwnS w.heap.size w' u ((Pp.swL now G).take kk++(Pp.swL now G).drop (kk+1))∧Below w.heap.size w w':=by
 have HV:=ghid hv;have HS:=ghid hs;clear hv hs;obtain⟨w3,hw3⟩: ∃w3,w3=(w.alloc (.cells #[v,.int .i64 x,.int .i64 l,.int .i64 r] 26)).alloc (.cells #[.slice none 0 0,.int .i64 0,.int .i64 0,.int .i64 0] 26):=⟨_,rfl⟩
 have B3:=hid (show Below w.heap.size w w3 from by rw[hw3];exact((Below.refl _ _).alloc (Nat.le_refl _) _).alloc (by simp) _)
 have HR3:=hid (show Bx w3 (w.heap.size+1) (.slice none 0 0) (.int .i64 0) (.int .i64 0) (.int .i64 0)from by
  have:=Bx.new (w.alloc (.cells #[v,.int .i64 x,.int .i64 l,.int .i64 r] 26)) (.slice none 0 0) (.int .i64 0) (.int .i64 0) (.int .i64 0) 26
  rw[hw3];simpa using this)
 have hsz3:w3.heap.size=w.heap.size+2:=by rw[hw3];simp
 have H0:=ghid h0;have HI:=ghid hidx;have hgz:=Pp.fi_zero h0;obtain⟨huc,⟨hn1,hn2⟩,_⟩:=Pp.go_zero hgz
 obtain⟨hl20,⟨hl1,hl2⟩,⟨hr1,hr2⟩,hx1,hx2⟩:=Pp.bnd_zero (Pp.uch_zero huc).1
 have hsw:=Pp.swL_len now G;have hse:=Pp.se_zero (Pp.ses_mem.1 (Pp.uch_zero huc).2.1 _ (List.mem_filter.1 (List.getElem_mem hkk)).1);obtain⟨hsi1,hsi2⟩:=Pp.inR_yes hse.2.1
 have htx:=hse.2.2.2.2;clear h0 hgz huc hse hidx;go_enter Tryz.func132,Tryz.ntmps132
 go_wp2_with fail;rw[←hw3];clear hw3;refine(find_any G _ x l r p n now _ (HV.out.below B3.out) HS.out hp).mono ?_
 rintro e w4 (⟨hne,_⟩|⟨_,u,k,rfl,hk,hid,hown,hb4⟩)
 · exact absurd H0.out hne
 obtain rfl:k=kk:=by have:=HI.out;rw[hid]at this;omega
 have hb04:=B3.out.trans (hb4.mono B3.out.size);have hR4:=HR3.out.below hb4;have hsz4:=hb4.size;clear hb4 hid;rcases hown with⟨_,hnil⟩|⟨g,cap,rfl,hg1,hg2,hrow,hblk,hcm⟩
 · rw[hnil]at hk;simp at hk
 have hglt:=hrow.1;obtain⟨wz,hwz⟩: ∃wz,wz=w4.alloc (.cells #[.slice (some ⟨g,0,none⟩) (Pp.swL now G).length cap,.int .i64 x,.int .i64 l,.int .i64 r] 26):=⟨_,rfl⟩
 have hbz:Below w4.heap.size w4 wz:=by rw[hwz];exact(Below.refl _ _).alloc (Nat.le_refl _) _
 have hGz:Bx wz w4.heap.size (.slice (some ⟨g,0,none⟩) (Pp.swL now G).length cap) (.int .i64 x) (.int .i64 l) (.int .i64 r):=by rw[hwz];exact Bx.new _ _ _ _ _ _
 have hRz:=hR4.below hbz;have hb0z:=hb04.trans (hbz.mono hb04.size);have hrz:=hrow.below hbz;have hblz:=hblk.below hbz;have hszz:=hbz.size;have HGZ:=ghid hGz;have HRZ:=ghid hRz;have HROWZ:=ghid hrz;have HBLZ:=ghid hblz;obtain⟨t0,t1,t2,t3,t4⟩:=hrz.at hk
 clear hR4 hb04 hbz hrow hblk hrz hblz;obtain⟨hGb,⟨q0,q1,q2,q3⟩,k0,k1,k2,k3⟩:=hGz
 have hM:Pp.swL now G=(Pp.swL now G).take k++(Pp.swL now G)[k]::(Pp.swL now G).drop (k+1):=by rw[←List.drop_eq_getElem_cons hk,List.take_append_drop]
 have hAl:((Pp.swL now G).take k).length=k:=by rw[List.length_take];omega
 generalize hS:(Pp.swL now G)[k]=s at*;obtain⟨A,hA⟩: ∃A,A=(Pp.swL now G).take k:=⟨_,rfl⟩
 obtain⟨C,hC⟩: ∃C,C=(Pp.swL now G).drop (k+1):=⟨_,rfl⟩
 rw[←hA,←hC]at hM;rw[←hA]at hAl;have HROWA:=hid (show RowS wz g (A++s::C)from by rw[←hM];exact HROWZ.out);have HMM:=ghid hM;have HML:=hid (show(Pp.swL now G).length=(A++s::C).length from by rw[←hM]);have HAC:=hid (show(Pp.swL now G).take k++(Pp.swL now G).drop (k+1)=A++C from by rw[hA,hC]);obtain⟨ws,hws⟩: ∃ws,ws=wz.alloc (.cells #[.int .i64 s.nu,.string s.wh,.string s.tx,.int .i64 s.si,.int .i64 s.ti] 139):=⟨_,rfl⟩
 have hbs:Below wz.heap.size wz ws:=by rw[hws];exact(Below.refl _ _).alloc (Nat.le_refl _) _
 have hz2:ws.cell? ⟨wz.heap.size,2,none⟩=some (.string s.tx):=by rw[hws];simp
 have hszs:ws.heap.size=wz.heap.size+1:=by rw[hws];simp
 have HGS:=ghid (HGZ.out.below hbs);have HRS:=ghid (HRZ.out.below hbs);have HROWS:=ghid (HROWA.out.below hbs);have HBLS:=ghid (HBLZ.out.below hbs);have hb0s:=hb0z.trans (hbs.mono hb0z.size);have hszz1:wz.heap.size=w4.heap.size+1:=by rw[hwz];simp
 obtain⟨hGs,⟨y0,y1,y2,y3⟩,_⟩:=HGS.out
 rw[hws,hwz]at y0 y1 y2 y3;rw[hwz]at t0 t1 t2 t3 t4 q0;clear hA hC hM;have hdel:=sdelete_any A C s g cap ws HROWS.out (by rw[←HML.out];exact hg2) hcm;rw[hAl,←HML.out]at hdel;have HAL:=ghid hAl;clear hAl;go_wp2_with fail;rw[←hwz,←hws];refine hdel.mono ?_
 rintro e w5 ⟨rfl,hr5,hnb5,hkb5⟩;have HG5:=ghid (HGS.out.nb hnb5 (by omega));have HR5:=ghid (HRS.out.nb hnb5 (by omega))
 have z5:w5.cell? ⟨w4.heap.size+1,2,none⟩=some (.string s.tx):=by
  rw[←hszz1];exact(Nb.cell hnb5 (p:=⟨wz.heap.size,2,none⟩) (by show wz.heap.size<ws.heap.size;omega) (by show wz.heap.size≠g;omega)).trans hz2
 have hb05:Below w.heap.size w w5:=hb0s.trans (Nb.to hnb5 hb0s.size (by omega));have hsz5:=hnb5.size;have hbl5:=hkb5 _ _ HBLS.out;clear hnb5 hkb5 hdel t0 t1 t2 t3 t4 q0 q1 q2 q3 k0 k1 k2 k3 y0 y1 y2 y3 hz2 hwz hws hbs;obtain⟨hGb5,⟨q0,q1,q2,q3⟩,k0,k1,k2,k3⟩:=HG5.out
 obtain⟨wq,hwq⟩: ∃wq,wq=w5.setCell ⟨w4.heap.size,0,none⟩ (.slice (some ⟨g,0,none⟩) (A.length+C.length) cap):=⟨_,rfl⟩
 have hnbq:w5.grownBy wq (some w4.heap.size):=by rw[hwq];exact Nb.setCell _ _ _ _
 have HRQ:=ghid (HR5.out.nb hnbq (by omega));have u0:wq.cell? ⟨w4.heap.size,0,none⟩=some (.slice (some ⟨g,0,none⟩) (A.length+C.length) cap):=by rw[hwq];simp[go_sem,q0]
 have u1:wq.cell? ⟨w4.heap.size,1,none⟩=some (.int .i64 x):=by rw[hwq];simp[go_sem,q1]
 have u2:wq.cell? ⟨w4.heap.size,2,none⟩=some (.int .i64 l):=by rw[hwq];simp[go_sem,q2]
 have u3:wq.cell? ⟨w4.heap.size,3,none⟩=some (.int .i64 r):=by rw[hwq];simp[go_sem,q3]
 have zq:wq.cell? ⟨w4.heap.size+1,2,none⟩=some (.string s.tx):=(Nb.cell hnbq (p:=⟨w4.heap.size+1,2,none⟩) (by show w4.heap.size+1<w5.heap.size;omega) (by show w4.heap.size+1≠w4.heap.size;omega)).trans z5;have HROWQ:=ghid (hr5.nb hnbq (by omega));have HBLQ:=ghid (hbl5.nb hnbq (by omega));have hb0q:Below w.heap.size w wq:=hb05.trans (Nb.to hnbq hb05.size (by omega));have hszq:=hnbq.size;have hACle:(A++C).length≤cap:=by have:=HML.out;simp only[List.length_append,List.length_cons]at this⊢;omega
 clear hr5 hbl5;go_wp2_with fail;rw[←hwq];clear hwq hnbq q0 q1 q2 q3 k0 k1 k2 k3 z5 hb05;obtain⟨hRb,⟨c0,c1,c2,c3⟩,f0,f1,f2,f3⟩:=HRQ.out
 go_region
 go_wp2_with fail;refine bodyPost_ret (v:= .tuple #[.agg #[.slice (some ⟨g,0,none⟩) (A.length+C.length) cap,.int .i64 x,.int .i64 l,.int .i64 r],.string s.tx,.int .i64 0]) (by simp[results,Tryz.results132,go_sem,c0,c1,c2,c3,hRb]) rfl ⟨_,by rw[hS],?_,?_⟩
 · rw[HAC.out]
   refine Or.inr ⟨g,cap,by simp,by omega,hACle,?_,?_,hcm⟩
   · exact(HROWQ.out.nb (Nb.set4 _ (w.heap.size+1) _ _ _ _) (by omega)).below (Below.refl _ _).drew
   · exact(HBLQ.out.nb (Nb.set4 _ (w.heap.size+1) _ _ _ _) (by omega)).below (Below.refl _ _).drew
 · exact(below_set4 (b:=w.heap.size+1) hb0q (by omega)).drew
namespace Pp
def chP (c:Int):Int:=if c<0 then-(c+1)else c
end Pp

namespace Pp
end Pp
end Go.Proofs.YtppdfeehhnofaaaGreatDoor
namespace Go.Proofs.YtppdfeehhnofaaaGreatDoor
open Go.RowKit

set_option maxRecDepth 100000 in
set_option maxHeartbeats 2000000 in
theorem query_k (G:List Se) (v:Value) (x l r:Int) (p:ByteArray) (n now:Int) (w:World) (hv:LiesS w v G) (hs:SizedS G) (hp:p.size≤150000000000000) (h0:Pp.fiE G x l r p n now=0) (kk:Nat) (hkk:kk<(Pp.swL now G).length) (hidx:Pp.idS (Pp.swL now G) (Pp.mine n p)=(kk:Int)):
    Calls Tryz.prog 97 #[.agg #[v,.int .i64 x,.int .i64 l,.int .i64 r],.string p,.int .i64 n,.int .i64 now] w fun e w'=>e= .returned (.tuple #[.int .i64 (((Pp.swL now G)[kk]).tx.size:Int),.int .i64 0])∧Below w.heap.size w w':=by
 have HV:=ghid hv;have HS:=ghid hs;have H0:=ghid h0;have HI:=ghid hidx;have hb3:Below w.heap.size w (w.alloc (.cells #[v,.int .i64 x,.int .i64 l,.int .i64 r] 26)):=(Below.refl _ _).alloc (Nat.le_refl _) _
 have hsw2:(Pp.swL now G).length≤1000:=by
  have h2:=Pp.swL_len now G;have:=(Pp.bnd_zero (Pp.uch_zero (Pp.go_zero (Pp.fi_zero h0)).1).1).1
  omega
 clear hv hs h0 hidx;go_enter Tryz.func97,Tryz.ntmps97
 go_wp2_with fail;refine(find_any G _ x l r p n now _ (HV.out.below hb3) HS.out hp).mono ?_
 rintro e w4 (⟨hne,_⟩|⟨_,u,k,rfl,hk,hid,hown,hb4⟩)
 · exact absurd H0.out hne
 obtain rfl:k=kk:=by have:=HI.out;rw[hid]at this;omega
 have hb04:Below w.heap.size w w4:=hb3.trans (hb4.mono (by simp));clear hb4 hid;rcases hown with⟨_,hnil⟩|⟨g,cap,rfl,hg1,hg2,hrow,_⟩
 · rw[hnil]at hk;simp at hk
 have hglt:=hrow.1;obtain⟨t0,t1,t2,t3,t4⟩:=(hrow.below ((Below.refl _ _).alloc (Nat.le_refl _) (.cells #[.slice (some ⟨g,0,none⟩) (Pp.swL now G).length cap,.int .i64 x,.int .i64 l,.int .i64 r] 26))).at hk
 clear hrow;go_wp2_with fail;go_ret2;exact⟨rfl,hb04.alloc hb04.size _⟩
end Go.Proofs.YtppdfeehhnofaaaGreatDoor
