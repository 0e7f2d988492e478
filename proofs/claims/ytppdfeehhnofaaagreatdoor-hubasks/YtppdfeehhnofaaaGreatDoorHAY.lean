/- What upload.Query and upload.Finish answer, where something is wrong. -/
import Derived.Test.YtppdfeehhnofaaaGreatDoorHAX
import Derived.Test.YtppdfeehhnofaaaGreatDoorHAU
import Derived.Test.YtppdfeehhnofaaaGreatDoorHAL
import Derived.Test.YtppdfeehhnofaaaGreatDoorHAW
import Derived.Test.YtppdfeehhnofaaaGreatDoorHAT
import Derived.Test.YtppdfeehhnofaaaGreatDoorHAS
set_option linter.unusedSimpArgs false
set_option linter.unusedVariables false
namespace Go.Proofs.YtppdfeehhnofaaaGreatDoor
open Go.RowKit

set_option maxRecDepth 100000 in
set_option maxHeartbeats 2000000 in
theorem query_e1 (G:List Se) (v:Value) (x l r:Int) (p:ByteArray) (n now:Int) (w:World) (hv:LiesS w v G) (hs:SizedS G) (hp:p.size≤150000000000000) (h0: ¬Pp.fiE G x l r p n now=0):
    Calls Tryz.prog 97 #[.agg #[v,.int .i64 x,.int .i64 l,.int .i64 r],.string p,.int .i64 n,.int .i64 now] w fun e w'=>e= .returned (.tuple #[.int .i64 0,.int .i64 (Pp.fiE G x l r p n now)])∧Below w.heap.size w w':=by
 have HV:=ghid hv;have HS:=ghid hs;have H0:=ghid h0;have hz:(Pp.fiE G x l r p n now==0)=false:=by simpa using h0
 have hb3:Below w.heap.size w (w.alloc (.cells #[v,.int .i64 x,.int .i64 l,.int .i64 r] 26)):=(Below.refl _ _).alloc (Nat.le_refl _) _;clear hv hs h0;go_enter Tryz.func97,Tryz.ntmps97
 go_wp2_with fail;refine(find_any G _ x l r p n now _ (HV.out.below hb3) HS.out hp).mono ?_
 rintro e w4 (⟨_,rfl,hb4⟩|⟨hh,_⟩);rotate_left
 · exact absurd hh H0.out
 have hb04:Below w.heap.size w w4:=hb3.trans (hb4.mono (by simp));clear hb4;generalize hy:Pp.fiE G x l r p n now=y at*;go_wp2_with fail;go_ret2;exact⟨by rw[hy];rfl,hb04.alloc hb04.size _⟩
set_option maxRecDepth 100000 in
set_option maxHeartbeats 4000000 in
theorem finish_e1 (G:List Se) (v:Value) (x l r:Int) (p:ByteArray) (n now:Int) (w:World) (hv:LiesS w v G) (hs:SizedS G) (hp:p.size≤150000000000000) (h0: ¬Pp.fiE G x l r p n now=0):
    Calls Tryz.prog 132 #[.agg #[v,.int .i64 x,.int .i64 l,.int .i64 r],.string p,.int .i64 n,.int .i64 now] w fun e w'=>e= .returned (.tuple #[.agg #[.slice none 0 0,.int .i64 0,.int .i64 0,.int .i64 0],.string ⟨#[]⟩,.int .i64 (Pp.fiE G x l r p n now)])∧Below w.heap.size w w':=by
 have HV:=ghid hv;have HS:=ghid hs;clear hv hs;obtain⟨w3,hw3⟩: ∃w3,w3=(w.alloc (.cells #[v,.int .i64 x,.int .i64 l,.int .i64 r] 26)).alloc (.cells #[.slice none 0 0,.int .i64 0,.int .i64 0,.int .i64 0] 26):=⟨_,rfl⟩
 have B3:=hid (show Below w.heap.size w w3 from by rw[hw3];exact((Below.refl _ _).alloc (Nat.le_refl _) _).alloc (by simp) _)
 have HR3:=hid (show Bx w3 (w.heap.size+1) (.slice none 0 0) (.int .i64 0) (.int .i64 0) (.int .i64 0)from by
  have:=Bx.new (w.alloc (.cells #[v,.int .i64 x,.int .i64 l,.int .i64 r] 26)) (.slice none 0 0) (.int .i64 0) (.int .i64 0) (.int .i64 0) 26
  rw[hw3];simpa using this)
 have hsz3:w3.heap.size=w.heap.size+2:=by rw[hw3];simp
 have HNZ:=ghid h0;have hz:(Pp.fiE G x l r p n now==0)=false:=by simpa using h0
 clear h0;go_enter Tryz.func132,Tryz.ntmps132
 go_wp2_with fail;rw[←hw3];clear hw3;refine(find_any G _ x l r p n now _ (HV.out.below B3.out) HS.out hp).mono ?_
 rintro e w4 (⟨_,rfl,hb4⟩|⟨hh,_⟩);rotate_left
 · exact absurd hh HNZ.out
 have hb04:=B3.out.trans (hb4.mono B3.out.size);obtain⟨hRb,⟨c0,c1,c2,c3⟩,f0,f1,f2,f3⟩:=HR3.out.below hb4
 have hsz4:=hb4.size;clear hb4;generalize hy:Pp.fiE G x l r p n now=y at*;go_wp2_with fail;refine bodyPost_ret (v:= .tuple #[.agg #[.slice none 0 0,.int .i64 0,.int .i64 0,.int .i64 0],.string ⟨#[]⟩,.int .i64 y]) (by simp[results,Tryz.results132,go_sem,c0,c1,c2,c3,hRb]) rfl ⟨by rw[hy],?_⟩
 exact(below_set4 (b:=w.heap.size+1) hb04 (by omega)).alloc (by simp;omega) _
set_option maxRecDepth 100000 in
set_option maxHeartbeats 4000000 in
theorem finish_e4 (G:List Se) (v:Value) (x l r:Int) (p:ByteArray) (n:Int) (now:Int) (w:World) (hv:LiesS w v G) (hs:SizedS G) (hp:p.size≤150000000000000) (h0:Pp.fiE G x l r p n now=0) (kk:Nat) (hkk:kk<(Pp.swL now G).length) (hidx:Pp.idS (Pp.swL now G) (Pp.mine n p)=(kk:Int)) (hsi:(((Pp.swL now G)[kk]).tx.size:Int)<((Pp.swL now G)[kk]).si):
    Calls Tryz.prog 132 #[.agg #[v,.int .i64 x,.int .i64 l,.int .i64 r],.string p,.int .i64 n,.int .i64 now] w fun e w'=>e= .returned (.tuple #[.agg #[.slice none 0 0,.int .i64 0,.int .i64 0,.int .i64 0],.string ⟨#[]⟩,.int .i64 4])∧Below w.heap.size w w':=by
 have HV:=ghid hv;have HS:=ghid hs;clear hv hs;obtain⟨w3,hw3⟩: ∃w3,w3=(w.alloc (.cells #[v,.int .i64 x,.int .i64 l,.int .i64 r] 26)).alloc (.cells #[.slice none 0 0,.int .i64 0,.int .i64 0,.int .i64 0] 26):=⟨_,rfl⟩
 have B3:=hid (show Below w.heap.size w w3 from by rw[hw3];exact((Below.refl _ _).alloc (Nat.le_refl _) _).alloc (by simp) _)
 have HR3:=hid (show Bx w3 (w.heap.size+1) (.slice none 0 0) (.int .i64 0) (.int .i64 0) (.int .i64 0)from by
  have:=Bx.new (w.alloc (.cells #[v,.int .i64 x,.int .i64 l,.int .i64 r] 26)) (.slice none 0 0) (.int .i64 0) (.int .i64 0) (.int .i64 0) 26
  rw[hw3];simpa using this)
 have hsz3:w3.heap.size=w.heap.size+2:=by rw[hw3];simp
 have H0:=ghid h0;have HI:=ghid hidx;have hgz:=Pp.fi_zero h0;obtain⟨huc,⟨hn1,hn2⟩,_⟩:=Pp.go_zero hgz
 obtain⟨hl20,⟨hl1,hl2⟩,⟨hr1,hr2⟩,hx1,hx2⟩:=Pp.bnd_zero (Pp.uch_zero huc).1
 have hsw:=Pp.swL_len now G;have hse:=Pp.se_zero (Pp.ses_mem.1 (Pp.uch_zero huc).2.1 _ (List.mem_filter.1 (List.getElem_mem hkk)).1);obtain⟨hsi1,hsi2⟩:=Pp.inR_yes hse.2.1
 have htx:=hse.2.2.2.2;clear h0 hgz huc hse hidx;go_enter Tryz.func132,Tryz.ntmps132
 go_wp2_with fail;rw[←hw3];clear hw3;refine(find_any G _ x l r p n now _ (HV.out.below B3.out) HS.out hp).mono ?_
 rintro e w4 (⟨hne,_⟩|⟨_,u,k,rfl,hk,hid,hown,hb4⟩)
 · exact absurd H0.out hne
 obtain rfl:k=kk:=by have:=HI.out;rw[hid]at this;omega
 have hb04:=B3.out.trans (hb4.mono B3.out.size);have hR4:=HR3.out.below hb4;have hsz4:=hb4.size;clear hb4 hid;rcases hown with⟨_,hnil⟩|⟨g,cap,rfl,hg1,hg2,hrow,hblk,hcm⟩
 · rw[hnil]at hk;simp at hk
 have hglt:=hrow.1;obtain⟨wz,hwz⟩: ∃wz,wz=w4.alloc (.cells #[.slice (some ⟨g,0,none⟩) (Pp.swL now G).length cap,.int .i64 x,.int .i64 l,.int .i64 r] 26):=⟨_,rfl⟩
 have hbz:Below w4.heap.size w4 wz:=by rw[hwz];exact(Below.refl _ _).alloc (Nat.le_refl _) _
 have hGz:Bx wz w4.heap.size (.slice (some ⟨g,0,none⟩) (Pp.swL now G).length cap) (.int .i64 x) (.int .i64 l) (.int .i64 r):=by rw[hwz];exact Bx.new _ _ _ _ _ _
 have hRz:=hR4.below hbz;have hb0z:=hb04.trans (hbz.mono hb04.size);have hrz:=hrow.below hbz;have hblz:=hblk.below hbz;have hszz:=hbz.size;have HGZ:=ghid hGz;have HRZ:=ghid hRz;have HROWZ:=ghid hrz;have HBLZ:=ghid hblz;obtain⟨t0,t1,t2,t3,t4⟩:=hrz.at hk
 clear hR4 hb04 hbz hrow hblk hrz hblz;obtain⟨hGb,⟨q0,q1,q2,q3⟩,k0,k1,k2,k3⟩:=hGz
 generalize hS:(Pp.swL now G)[k]=s at*;obtain⟨ws,hws⟩: ∃ws,ws=wz.alloc (.cells #[.int .i64 s.nu,.string s.wh,.string s.tx,.int .i64 s.si,.int .i64 s.ti] 139):=⟨_,rfl⟩
 have hbs:Below wz.heap.size wz ws:=by rw[hws];exact(Below.refl _ _).alloc (Nat.le_refl _) _
 have hb0s:=hb0z.trans (hbs.mono hb0z.size);obtain⟨hRb,⟨c0,c1,c2,c3⟩,f0,f1,f2,f3⟩:=HRZ.out.below hbs
 clear HGZ HROWZ HBLZ hbs q0 q1 q2 q3 k0 k1 k2 k3 hGb;rw[hwz]at t0 t1 t2 t3 t4;rw[hws,hwz]at c0 c1 c2 c3 f0 f1 f2 f3 hRb;go_wp2_with fail;refine bodyPost_ret (v:= .tuple #[.agg #[.slice none 0 0,.int .i64 0,.int .i64 0,.int .i64 0],.string ⟨#[]⟩,.int .i64 4]) (by simp[results,Tryz.results132,go_sem,c0,c1,c2,c3,hRb]) rfl ⟨rfl,?_⟩
 rw[←hwz,←hws];exact below_set4 (b:=w.heap.size+1) hb0s (by omega)
namespace Hu
def zU (e:Int):Ur:=⟨e,[],0,0,0,0⟩
def opU (H:Hb) (p:ByteArray) (n:Int):Ur:=if Pp.opE H.ss H.nx H.la H.ro p n H.now=0 then⟨0,Pp.swL H.now H.ss++[Pp.newS H.nx p n (H.now+H.la)],H.nx+1,H.la,H.ro,H.nx⟩else zU (Pp.opE H.ss H.nx H.la H.ro p n H.now)
def fiX (H:Hb) (p:ByteArray) (n:Int):Nat:=(Pp.idS (Pp.swL H.now H.ss) (Pp.mine n p)).toNat
def apK (H:Hb) (k:Nat) (s:Se) (o:Int) (t:ByteArray):Ur:=
 if Pp.enB s.tx o t=true then⟨0,Pp.swL H.now H.ss,H.nx,H.la,H.ro,(s.tx.size:Int)⟩
 else if o=(s.tx.size:Int)then(if s.si<(s.tx.size:Int)+t.size then zU 2 else⟨0,(Pp.swL H.now H.ss).set k (Pp.moreS s t (H.now+H.la)),H.nx,H.la,H.ro,(s.tx.size:Int)+t.size⟩)
 else zU 4
def apU (H:Hb) (p:ByteArray) (n o:Int) (t:ByteArray):Ur:=if Pp.fiE H.ss H.nx H.la H.ro p n H.now=0 then(match (Pp.swL H.now H.ss)[fiX H p n]? with
 |some s=>apK H (fiX H p n) s o t
 |none=>zU 5)else zU (Pp.fiE H.ss H.nx H.la H.ro p n H.now)
def quE (H:Hb) (p:ByteArray) (n:Int):Int:=Pp.fiE H.ss H.nx H.la H.ro p n H.now
def quN (H:Hb) (p:ByteArray) (n:Int):Int:=if quE H p n=0 then(match (Pp.swL H.now H.ss)[fiX H p n]? with
 |some s=>(s.tx.size:Int)
 |none=>0)else 0
def zF (e:Int):Fu:=⟨e,[],0,0,0,⟨#[]⟩⟩
def fnU (H:Hb) (p:ByteArray) (n:Int):Fu:=if quE H p n=0 then(match (Pp.swL H.now H.ss)[fiX H p n]? with
 |some s=>if(s.tx.size:Int)<s.si then zF 4 else⟨0,(Pp.swL H.now H.ss).take (fiX H p n)++(Pp.swL H.now H.ss).drop (fiX H p n+1),H.nx,H.la,H.ro,s.tx⟩
 |none=>zF 5)else zF (quE H p n)
theorem fi_at {H:Hb} {p:ByteArray} {n:Int} (h:Pp.fiE H.ss H.nx H.la H.ro p n H.now=0): ∃(hk:fiX H p n<(Pp.swL H.now H.ss).length),(Pp.swL H.now H.ss)[fiX H p n]?=some (Pp.swL H.now H.ss)[fiX H p n]∧Pp.idS (Pp.swL H.now H.ss) (Pp.mine n p)=(fiX H p n:Int):=by
 rcases Pp.fi_cases H.ss H.nx H.la H.ro p n H.now with⟨h1,h2⟩|⟨_,_,h2⟩|⟨_,_,k,hk,he⟩
 · rw[h]at h2;exact absurd h2.symm h1
 · rw[h]at h2;cases h2
 · have e:fiX H p n=k:=by rw[fiX,he];rfl
   have hk':fiX H p n<(Pp.swL H.now H.ss).length:=by rw[e];exact hk
   exact⟨hk',List.getElem?_eq_getElem hk',by rw[he,e]⟩
theorem sw_len {H:Hb} {p:ByteArray} {n:Int} (h:Pp.fiE H.ss H.nx H.la H.ro p n H.now=0):(Pp.swL H.now H.ss).length≤20:=by
 have hg:=Pp.fi_zero h;have:=(Pp.bnd_zero (Pp.uch_zero (Pp.go_zero hg).1).1).1
 have:=Pp.swL_len H.now H.ss
 omega
end Hu
theorem Fr.ownS {B:Nat} {w:World} {u:Value} {L:List Se} (h:OwnS B w u L):Fr B u:=by
 rcases h with⟨rfl,_⟩|⟨g,cap,rfl,h2,_⟩
 · exact fr_nil _
 · intro b hb;simp[Value.ownBlock]at hb;omega
theorem uopen_all (H:Hb) (v:Value) (p:ByteArray) (n:Int) (w:World) (hs:SizedS H.ss) (hp:p.size≤150000000000000) (hv:LiesS w v H.ss):UpCall w 95 #[.agg #[v,.int .i64 H.nx,.int .i64 H.la,.int .i64 H.ro],.string p,.int .i64 n,.int .i64 H.now] (Hu.opU H p n):=by
 refine(open_any H.ss v H.nx H.la H.ro p n H.now w hv hs hp).mono ?_
 rintro e w' (⟨h,rfl,hb⟩|⟨h,u,rfl,ho,hb⟩)
 · rw[Hu.opU,if_neg h];exact⟨_,rfl,liesS_nil _,hb⟩
 · rw[Hu.opU,if_pos h]
   refine⟨u,rfl,ho.lies ?_,hb⟩
   have:(Pp.swL H.now H.ss).length≤20:=by
    have hl:=Pp.swL_len H.now H.ss;rcases Pp.op_cases H.ss H.nx H.la H.ro p n H.now with⟨h0,hE⟩|⟨h0,h1,hE⟩|⟨h0,h1,h2,hE⟩|⟨h0,h1,h2,h3,hE⟩|⟨h0,h1,h2,h3,h4,hE⟩|⟨h0,h1,h2,h3,h4,h5,hE⟩|⟨h0,h1,h2,h3,h4,h5,hE⟩
    all_goals first
     |(rw[h]at hE;exact absurd hE.symm h0)
     |(have:=(Pp.bnd_zero (Pp.uch_zero (Pp.go_zero h0).1).1).1;omega)
   simp;omega
theorem uappend_all (H:Hb) (v:Value) (p:ByteArray) (n o:Int) (t:ByteArray) (w:World) (hs:SizedS H.ss) (hp:p.size≤150000000000000) (ht:t.size≤150000000000000) (hv:LiesS w v H.ss):UpCall w 96 #[.agg #[v,.int .i64 H.nx,.int .i64 H.la,.int .i64 H.ro],.string p,.int .i64 n,.int .i64 o,.string t,.int .i64 H.now] (Hu.apU H p n o t):=by
 by_cases h0:Pp.fiE H.ss H.nx H.la H.ro p n H.now=0
 · obtain⟨hk,e1,e2⟩:=Hu.fi_at h0
   have hl:=Hu.sw_len h0;rw[Hu.apU,if_pos h0,e1];simp only[Hu.apK];cases he:Pp.enB ((Pp.swL H.now H.ss)[Hu.fiX H p n]).tx o t with
   |true=>
    rw[if_pos rfl];refine(append_same H.ss v H.nx H.la H.ro p n o t H.now w hv hs hp h0 _ hk e2 ht he).mono ?_
    rintro e w' ⟨u,rfl,ho,hb⟩;exact⟨u,rfl,ho.lies (by omega),hb⟩
   |false=>
    rw[if_neg (by decide)];by_cases ho:o=((((Pp.swL H.now H.ss)[Hu.fiX H p n]).tx.size:Nat):Int)
    · rw[if_pos ho]
      by_cases hsi:((Pp.swL H.now H.ss)[Hu.fiX H p n]).si<((((Pp.swL H.now H.ss)[Hu.fiX H p n]).tx.size:Nat):Int)+t.size
      · rw[if_pos hsi]
        refine(append_e2 H.ss v H.nx H.la H.ro p n o t H.now w hv hs hp h0 _ hk e2 ht he ho hsi).mono ?_
        rintro e w' ⟨rfl,hb⟩;exact⟨_,rfl,liesS_nil _,hb⟩
      · rw[if_neg hsi]
        refine(append_k H.ss v H.nx H.la H.ro p n o t H.now w hv hs hp h0 _ hk e2 ht he ho (by omega)).mono ?_
        rintro e w' ⟨u,rfl,ho,hb⟩;exact⟨u,rfl,ho.lies (by simp;omega),hb⟩
    · rw[if_neg ho]
      refine(append_e4 H.ss v H.nx H.la H.ro p n o t H.now w hv hs hp h0 _ hk e2 ht he (by simpa using ho)).mono ?_
      rintro e w' ⟨rfl,hb⟩;exact⟨_,rfl,liesS_nil _,hb⟩
 · rw[Hu.apU,if_neg h0]
   refine(append_e1 H.ss v H.nx H.la H.ro p n o t H.now w hv hs hp h0).mono ?_
   rintro e w' ⟨rfl,hb⟩;exact⟨_,rfl,liesS_nil _,hb⟩
theorem uquery_all (H:Hb) (v:Value) (p:ByteArray) (n:Int) (w:World) (hs:SizedS H.ss) (hp:p.size≤150000000000000) (hv:LiesS w v H.ss):Calls Tryz.prog 97 #[.agg #[v,.int .i64 H.nx,.int .i64 H.la,.int .i64 H.ro],.string p,.int .i64 n,.int .i64 H.now] w fun z w'=>z= .returned (.tuple #[.int .i64 (Hu.quN H p n),.int .i64 (Hu.quE H p n)])∧Below w.heap.size w w':=by
 by_cases h0:Pp.fiE H.ss H.nx H.la H.ro p n H.now=0
 · obtain⟨hk,e1,e2⟩:=Hu.fi_at h0
   have hq:Hu.quE H p n=0:=h0;rw[Hu.quN,hq,if_pos rfl,e1];exact query_k H.ss v H.nx H.la H.ro p n H.now w hv hs hp h0 _ hk e2
 · have hq: ¬Hu.quE H p n=0:=h0
   rw[Hu.quN,if_neg hq];exact query_e1 H.ss v H.nx H.la H.ro p n H.now w hv hs hp h0
theorem ufinish_all (H:Hb) (v:Value) (p:ByteArray) (n:Int) (w:World) (hs:SizedS H.ss) (hp:p.size≤150000000000000) (hv:LiesS w v H.ss):Calls Tryz.prog 132 #[.agg #[v,.int .i64 H.nx,.int .i64 H.la,.int .i64 H.ro],.string p,.int .i64 n,.int .i64 H.now] w fun z w'=> ∃u,z= .returned (.tuple #[.agg #[u,.int .i64 (Hu.fnU H p n).nx,.int .i64 (Hu.fnU H p n).la,.int .i64 (Hu.fnU H p n).ro],.string (Hu.fnU H p n).tx,.int .i64 (Hu.fnU H p n).e])∧LiesS w' u (Hu.fnU H p n).ss∧Fr w.heap.size u∧Below w.heap.size w w':=by
 by_cases h0:Pp.fiE H.ss H.nx H.la H.ro p n H.now=0
 · obtain⟨hk,e1,e2⟩:=Hu.fi_at h0
   have hl:=Hu.sw_len h0;have hq:Hu.quE H p n=0:=h0;by_cases hsi:((((Pp.swL H.now H.ss)[Hu.fiX H p n]).tx.size:Nat):Int)<((Pp.swL H.now H.ss)[Hu.fiX H p n]).si
   · have e:Hu.fnU H p n=Hu.zF 4:=by rw[Hu.fnU,hq,if_pos rfl,e1];exact if_pos hsi
     rw[e];refine(finish_e4 H.ss v H.nx H.la H.ro p n H.now w hv hs hp h0 _ hk e2 hsi).mono ?_
     rintro e w' ⟨rfl,hb⟩;exact⟨_,rfl,liesS_nil _,fr_nil _,hb⟩
   · have e:Hu.fnU H p n=⟨0,(Pp.swL H.now H.ss).take (Hu.fiX H p n)++(Pp.swL H.now H.ss).drop (Hu.fiX H p n+1),H.nx,H.la,H.ro,((Pp.swL H.now H.ss)[Hu.fiX H p n]).tx⟩:=by rw[Hu.fnU,hq,if_pos rfl,e1];exact if_neg hsi
     rw[e];refine(finish_k H.ss v H.nx H.la H.ro p n H.now w hv hs hp h0 _ hk e2 hsi).mono ?_
     rintro e w' ⟨u,rfl,ho,hb⟩;exact⟨u,rfl,ho.lies (by simp;omega),Fr.ownS ho,hb⟩
 · have hq: ¬Hu.quE H p n=0:=h0
   rw[Hu.fnU,if_neg hq];refine(finish_e1 H.ss v H.nx H.la H.ro p n H.now w hv hs hp h0).mono ?_
   rintro e w' ⟨rfl,hb⟩;exact⟨_,rfl,liesS_nil _,fr_nil _,hb⟩
end Go.Proofs.YtppdfeehhnofaaaGreatDoor
namespace Go.Proofs.YtppdfeehhnofaaaGreatDoor
open Go.RowKit

set_option maxRecDepth 100000 in
set_option maxHeartbeats 8000000 in
theorem snum_query (H:Hb) (q:Rq) (vq vf:Value) (g mb:Nat) (w:World) (n e:Int) (hsv:SvL w g mb H) (hq:LiesQ w vq q) (hk:q.kind=6)
    (hop: ∀(W:World) (v:Value),LiesS W v H.ss→Calls Tryz.prog 97 #[.agg #[v,.int .i64 H.nx,.int .i64 H.la,.int .i64 H.ro],.string q.who,.int .i64 q.num,.int .i64 H.now] W fun z w'=>z= .returned (.tuple #[.int .i64 n,.int .i64 e])∧Below W.heap.size W w'):
    Calls Tryz.prog 51 #[.pointer (some ⟨g,0,none⟩),vq] w fun z w'=>z= .returned (.tuple #[.int .i64 n,.int .i64 e])∧SvL w' g mb H∧Nb2 w w' g (bo vf g):=by
 have HOP:=hid hop;clear hop;obtain⟨va,rfl,lq⟩:=hq
 have HLQ:=hid lq;obtain⟨qa,qc,rfl,_⟩:=lq
 obtain⟨kind,who,fo,name,key,text,num,off,base,ch⟩:=q
 simp only at*;obtain⟨wz,hwz⟩: ∃wz,wz=w.alloc (.cells #[.int .i64 kind,.string who,.string fo,.string name,.string key,.string text,.int .i64 num,.int .i64 off,.int .i64 base,.slice qa ch.length qc] 31):=⟨_,rfl⟩
 have hbz:Below w.heap.size w wz:=by rw[hwz];exact(Below.refl _ _).alloc (Nat.le_refl _) _
 have HQX:Hid (Cs wz w.heap.size [.int .i64 kind,.string who,.string fo,.string name,.string key,.string text,.int .i64 num,.int .i64 off,.int .i64 base,.slice qa ch.length qc]):=(by rw[hwz];exact Cs.new w [.int .i64 kind,.string who,.string fo,.string name,.string key,.string text,.int .i64 num,.int .i64 off,.int .i64 base,.slice qa ch.length qc] _:Cs wz w.heap.size _)
 subst hk;obtain⟨fa,fc,ga,gc,sa,sc,hC,hF,hG,hS⟩:=hsv.shape
 have HC:=hid (hC.below hbz);have HLS:=hid (hS.below hbz);have HSZ:=hid (hsv.below hbz);have hgz:=HC.out.lt;have hql:=HQX.out.lt;clear hsv hC hF hG hS;have x0:=HQX.out.cell 0 rfl;have x1:=HQX.out.cell 1 rfl;have x6:=HQX.out.cell 6 rfl;go_enter Tryz.func51,Tryz.ntmps51
 go_upto_region 1 with fail;rw[←hwz];clear hwz;go_wp2_with fail;clear x0;have p2:=HC.out.cell 2 rfl;have p3:=HC.out.cell 3 rfl;have p4:=HC.out.cell 4 rfl;have p5:=HC.out.cell 5 rfl;have p6:=HC.out.cell 6 rfl
 go_region_held3 (fun W=>W.cell? ⟨w.heap.size,1,none⟩=some (.string who)∧W.cell? ⟨w.heap.size,6,none⟩=some (.int .i64 num)∧W.cell? ⟨g,2,none⟩=some (.slice sa H.ss.length sc)∧W.cell? ⟨g,3,none⟩=some (.int .i64 H.nx)∧W.cell? ⟨g,4,none⟩=some (.int .i64 H.la)∧W.cell? ⟨g,5,none⟩=some (.int .i64 H.ro)∧W.cell? ⟨g,6,none⟩=some (.int .i64 H.now)) (go_keep) (
  (go_at_call 97;refine(HOP.out _ _ (HLS.out.below ((Below.refl _ _).drew))).mono ?_;rintro z wa ⟨rfl,hba⟩;have hya:=below_tr ((Below.refl wz.heap.size wz).drew) hba;have q1:=(HQX.out.below hya).cell 1 rfl;have q6:=(HQX.out.below hya).cell 6 rfl;have c2:=(HC.out.below hya).cell 2 rfl;have c3:=(HC.out.below hya).cell 3 rfl;have c4:=(HC.out.below hya).cell 4 rfl;have c5:=(HC.out.below hya).cell 5 rfl;have c6:=(HC.out.below hya).cell 6 rfl))
 all_goals
  go_wp2_with fail;go_ret2;exact⟨rfl,HSZ.out.below hya,Nb2.of_below _ _ (below_tr hbz hya)⟩
theorem LiesH.shape {w:World} {v:Value} {H:Hb} (h:LiesH w v H): ∃fa fc ga gc sa sc,v= .agg #[.slice fa H.fos.length fc,.slice ga H.gs.length gc,.slice sa H.ss.length sc,.int .i64 H.nx,.int .i64 H.la,.int .i64 H.ro,.int .i64 H.now]:=by
 obtain⟨vf,vg,vs,rfl,h2,h3,h4⟩:=h
 obtain⟨fa,fc,rfl,_⟩:=h2
 obtain⟨ga,gc,rfl,_⟩:=h3
 obtain⟨sa,sc,rfl,_⟩:=h4
 exact⟨fa,fc,ga,gc,sa,sc,rfl⟩
theorem LiesH.nb {W W':World} {v:Value} {H:Hb} {g:Nat} (h:LiesH W v H) (hw:W.grownBy W' (some g)) (hn:NoStr W g):LiesH W' v H:=by
 obtain⟨vf,vg,vs,rfl,h2,h3,h4⟩:=h
 exact⟨vf,vg,vs,rfl,h2.nb hw hn,h3.nb hw hn,h4.nb hw hn⟩
theorem LiesA.nb {W W':World} {v:Value} {A:An} {g:Nat} (h:LiesA W v A) (hw:W.grownBy W' (some g)) (hn:NoStr W g):LiesA W' v A:=by
 obtain⟨vt,vc,rfl,h2,h3⟩:=h
 exact⟨vt,vc,rfl,h2.nb hw hn,h3.nb hw hn⟩
theorem LiesA.shape {w:World} {v:Value} {A:An} (h:LiesA w v A): ∃ta tc ca cc,v= .agg #[.int .i64 A.err,.int .i64 A.num,.bool A.pg.reset,.slice ta A.pg.tree.length tc,.slice ca A.pg.cos.length cc,.int .i64 A.pg.cur,.bool A.pg.more]:=by
 obtain⟨vt,vc,rfl,h2,h3⟩:=h
 obtain⟨ta,tc,rfl,_⟩:=h2
 obtain⟨ca,cc,rfl,_⟩:=h3
 exact⟨ta,tc,ca,cc,rfl⟩
theorem SvL.hub {w:World} {g mb:Nat} {H:Hb} (h:SvL w g mb H): ∃fa fc ga gc sa sc,Cs w g [.slice fa H.fos.length fc,.slice ga H.gs.length gc,.slice sa H.ss.length sc,.int .i64 H.nx,.int .i64 H.la,.int .i64 H.ro,.int .i64 H.now,.map (some mb)]∧LiesH w (.agg #[.slice fa H.fos.length fc,.slice ga H.gs.length gc,.slice sa H.ss.length sc,.int .i64 H.nx,.int .i64 H.la,.int .i64 H.ro,.int .i64 H.now]) H:=by
 obtain⟨fa,fc,ga,gc,sa,sc,h1,h2,h3,h4⟩:=h.shape
 exact⟨fa,fc,ga,gc,sa,sc,h1,_,_,_,rfl,h2,h3,h4⟩
namespace Hu
def nwH (l r:Int):Hb:=if Pp.uchE [] 1 l r=0 then⟨[],[],[],1,l,r,0⟩else zeroH
end Hu

set_option maxRecDepth 100000 in
set_option maxHeartbeats 4000000 in
theorem hnew_any (l r:Int) (w:World):
    Calls Tryz.prog 12 #[.int .i64 l,.int .i64 r] w fun e w'=> ∃u,e= .returned (.tuple #[u,.int .i64 (Pp.uchE [] 1 l r)])∧LiesH w' u (Hu.nwH l r)∧Below w.heap.size w w':=by
 obtain⟨rr,hrr⟩: ∃rr,rr=Pp.uchE [] 1 l r:=⟨_,rfl⟩
 rw[←hrr];have HRR:=hid hrr;have HNW:=hid (show Hu.nwH l r=if rr=0 then⟨[],[],[],1,l,r,0⟩else zeroH from by rw[Hu.nwH,←hrr]);clear hrr;obtain⟨wa,hwa⟩: ∃wa,wa=w.alloc (.cells #[.slice none 0 0,.slice none 0 0,.slice none 0 0,.int .i64 0,.int .i64 0,.int .i64 0,.int .i64 0] 28):=⟨_,rfl⟩
 obtain⟨wz,hwz⟩: ∃wz,wz=wa.alloc (.cells #[.slice none 0 0,.int .i64 1,.int .i64 l,.int .i64 r] 26):=⟨_,rfl⟩
 have sa1:wa.heap.size=w.heap.size+1:=by rw[hwa];simp
 have bwa:Below w.heap.size w wa:=by rw[hwa];exact(Below.refl _ _).alloc (Nat.le_refl _) _
 have bwz:Below wa.heap.size wa wz:=by rw[hwz];exact(Below.refl _ _).alloc (Nat.le_refl _) _
 have hbz:Below w.heap.size w wz:=below_tr bwa bwz;have HX:Hid (Cs wz w.heap.size [.slice none 0 0,.slice none 0 0,.slice none 0 0,.int .i64 0,.int .i64 0,.int .i64 0,.int .i64 0]):=((by rw[hwa];exact Cs.new w [.slice none 0 0,.slice none 0 0,.slice none 0 0,.int .i64 0,.int .i64 0,.int .i64 0,.int .i64 0] _:Cs wa w.heap.size [.slice none 0 0,.slice none 0 0,.slice none 0 0,.int .i64 0,.int .i64 0,.int .i64 0,.int .i64 0]).below bwz:Cs wz w.heap.size _)
 have HY:Hid (Cs wz (w.heap.size+1) [.slice none 0 0,.int .i64 1,.int .i64 l,.int .i64 r]):=(by rw[←sa1,hwz];exact Cs.new wa [.slice none 0 0,.int .i64 1,.int .i64 l,.int .i64 r] _:Cs wz (w.heap.size+1) _)
 have hwzz:(w.alloc (.cells #[.slice none 0 0,.slice none 0 0,.slice none 0 0,.int .i64 0,.int .i64 0,.int .i64 0,.int .i64 0] 28)).alloc (.cells #[.slice none 0 0,.int .i64 1,.int .i64 l,.int .i64 r] 26)=wz:=by rw[hwz,hwa]
 have HWZ:=hid hwzz;clear hwa hwz bwa bwz sa1 hwzz;go_enter Tryz.func12,Tryz.ntmps12
 go_upto_region 2 with fail;try simp only[World.setCell_alloc_new]
 rw[HWZ.out];clear HWZ;have y0:=HY.out.cell 0 rfl;have y1:=HY.out.cell 1 rfl;have y2:=HY.out.cell 2 rfl;have y3:=HY.out.cell 3 rfl;go_wp2_with fail;refine(ucheck_any [] _ 1 l r _ ⟨none,0,rfl,Nat.le_refl _,by decide,fun i h=>absurd h (by simp)⟩ (fun s hs=>by cases hs)).mono ?_
 rintro e w1 ⟨rfl,hb1⟩;rw[←HRR.out];have hb01:=below_tr hbz hb1;have HX1:=hid (HX.out.below hb1);have HY1:=hid (HY.out.below hb1);clear y0 y1 y2 y3;by_cases h0:rr=0
 · subst h0
   have HNP:=hid (show Hu.nwH l r=⟨[],[],[],1,l,r,0⟩from by rw[HNW.out,if_pos rfl]);clear HNW;have y0:=HY1.out.cell 0 rfl;have y1:=HY1.out.cell 1 rfl;have y2:=HY1.out.cell 2 rfl;have y3:=HY1.out.cell 3 rfl;have p0:=HX1.out.cell 0 rfl;have f0:=HX1.out.fr 0;have p1:=HX1.out.cell 1 rfl;have f1:=HX1.out.fr 1;have p2:=HX1.out.cell 2 rfl;have f2:=HX1.out.fr 2;have p3:=HX1.out.cell 3 rfl;have f3:=HX1.out.fr 3;have p4:=HX1.out.cell 4 rfl;have f4:=HX1.out.fr 4;have p5:=HX1.out.cell 5 rfl;have f5:=HX1.out.fr 5;have p6:=HX1.out.cell 6 rfl;have f6:=HX1.out.fr 6;go_wp2_with fail;refine bodyPost_ret (v:= .tuple #[.agg #[.slice none 0 0,.slice none 0 0,.slice none 0 0,.int .i64 1,.int .i64 l,.int .i64 r,.int .i64 0],.int .i64 0]) (by simp[results,Tryz.results12,go_sem,p0,p1,p2,p3,p4,p5,p6]) rfl ⟨_,rfl,?_,?_⟩
   · rw[HNP.out];exact⟨_,_,_,rfl,liesF_nil _,liesG_nil _,⟨none,0,rfl,Nat.le_refl _,Nat.zero_le _,fun i h=>absurd h (by simp)⟩⟩
   · exact(bs7 (b:=w.heap.size) hb01 (Nat.le_refl _))
 · have hz:(rr==0)=false:=by simpa using h0
   have hz2:(rr !=0)=true:=by simpa using h0
   have HNP:=hid (show Hu.nwH l r=zeroH from by rw[HNW.out,if_neg h0]);clear HNW;clear h0;have p0:=HX1.out.cell 0 rfl;have f0:=HX1.out.fr 0;have p1:=HX1.out.cell 1 rfl;have f1:=HX1.out.fr 1;have p2:=HX1.out.cell 2 rfl;have f2:=HX1.out.fr 2;have p3:=HX1.out.cell 3 rfl;have f3:=HX1.out.fr 3;have p4:=HX1.out.cell 4 rfl;have f4:=HX1.out.fr 4;have p5:=HX1.out.cell 5 rfl;have f5:=HX1.out.fr 5;have p6:=HX1.out.cell 6 rfl;have f6:=HX1.out.fr 6;go_wp2_with fail;refine bodyPost_ret (v:= .tuple #[.agg #[.slice none 0 0,.slice none 0 0,.slice none 0 0,.int .i64 0,.int .i64 0,.int .i64 0,.int .i64 0],.int .i64 rr]) (by simp[results,Tryz.results12,go_sem,p0,p1,p2,p3,p4,p5,p6]) rfl ⟨_,rfl,?_,?_⟩
   · rw[HNP.out];exact liesH_zero _
   · exact(bs7 (b:=w.heap.size) hb01 (Nat.le_refl _))
namespace Hu
def trE (H:Hb) (x:ByteArray):Int:=if¬hE H=0 then hE H else if inG H.gs x=true then 0 else 5
def trR (H:Hb) (x:ByteArray):List En:=if trE H x=0 then Jn.tree (joAt H (whr H.fos H.gs x))else[]
end Hu
set_option maxRecDepth 100000 in
set_option maxHeartbeats 4000000 in
theorem htree_any (H:Hb) (v:Value) (x:ByteArray) (w:World) (hv:LiesH w v H) (hs:SizedH H) (hx:x.size≤150000000000000):
    Calls Tryz.prog 13 #[v,.string x] w fun e w'=> ∃u,e= .returned (.tuple #[u,.int .i64 (Hu.trE H x)])∧Lies w' u (Hu.trR H x)∧Below w.heap.size w w':=by
 have HV:=hid hv;have HS:=hid hs;have HSX:=hid hx;obtain⟨fa,fc,ga,gc,sa,sc,rfl⟩:=hv.shape
 clear hv hs hx;obtain⟨wz,hwz⟩: ∃wz,wz=w.alloc (.cells #[.slice fa H.fos.length fc,.slice ga H.gs.length gc,.slice sa H.ss.length sc,.int .i64 H.nx,.int .i64 H.la,.int .i64 H.ro,.int .i64 H.now] 28):=⟨_,rfl⟩
 have hbz:Below w.heap.size w wz:=by rw[hwz];exact(Below.refl _ _).alloc (Nat.le_refl _) _
 go_enter Tryz.func13,Tryz.ntmps13
 go_wp2_with fail;rw[←hwz];clear hwz;refine(serving_any H _ _ (HV.out.below hbz) HS.out).mono ?_
 rintro e w1 ⟨p,rfl,hok,hbad,hb1⟩;have hb01:=below_tr hbz hb1;by_cases h0: ¬(Hu.hE H=0)
 · have hz:(Hu.hE H==0)=false:=by simpa using h0
   have hz2:(Hu.hE H !=0)=true:=by simpa using h0
   have HE:=hid (show Hu.trE H x=Hu.hE H∧Hu.trR H x=[]from by
    have e:Hu.trE H x=Hu.hE H:=by rw[Hu.trE,if_pos h0]
    exact⟨e,by rw[Hu.trR,e,if_neg h0]⟩)
   clear h0 hok hbad;generalize Hu.hE H=r at*;go_wp2_with fail;go_ret2;exact⟨_,by rw[HE.out.1];rfl,by rw[HE.out.2];exact lies_nilE _,hb01⟩
 replace h0:=Decidable.not_not.1 h0;obtain⟨rfl,B,vf,vg,vs,hB1,hB2,hsv,hm⟩:=hok h0
 have H0:=hid h0;have HSV:=hid hsv;have HM:=hid hm;obtain⟨hC,hOF,_⟩:=hsv
 have HC:=hid hC;have HLF:=hid hOF.lies;obtain⟨af,cf,rfl,_,_,hat⟩:=hOF.lies
 have hlk:=hm.look2 x HSX.out;have p7:=HC.out.cell 7 rfl;have p0:=HC.out.cell 0 rfl;rw[h0];cases hin:Hu.inG H.gs x with
 |false=>
  have HE:=hid (show Hu.trE H x=5∧Hu.trR H x=[]from by
   have e:Hu.trE H x=5:=by rw[Hu.trE,if_neg (fun y=>y h0),if_neg (by rw[hin];decide)]
   exact⟨e,by rw[Hu.trR,e,if_neg (by decide)]⟩)
  rw[hin]at hlk;clear h0 hok hbad hin hC hOF hat hm;go_wp2_with fail;go_ret2;exact⟨_,by rw[HE.out.1];rfl,by rw[HE.out.2];exact lies_nilE _,hb01⟩
 |true=>
  have hi0:Hu.whr H.fos H.gs x<H.fos.length:=(Hu.whr_at h0 hin).elim (fun h _=>h);have e0:Hu.trE H x=0:=by rw[Hu.trE,if_neg (fun y=>y h0),if_pos hin]
  have HE:Hid (Hu.trE H x=0):=e0;obtain⟨i,hwi⟩: ∃i,i=Hu.whr H.fos H.gs x:=⟨_,rfl⟩
  have hi:i<H.fos.length:=by rw[hwi];exact hi0
  have HEN:=hid (show Hu.trR H x=Jn.tree (H.fos[i].jo)from by rw[Hu.trR,if_pos e0,←hwi,Hu.joAt_eq hi]);have HCK:Hid (Jn.chkE (H.fos[i].jo)=0):=(Hu.cf_mem (Hu.h_parts h0).2.1 (List.getElem_mem hi)).2;have HSJ:=hid (HS.out.fos _ (List.getElem_mem hi)).2;obtain⟨b,o,rfl,hbl,he⟩:=hat i hi
  rw[hin,←hwi]at hlk;have hii:(i:Int)<H.fos.length:=by omega
  clear h0 hok hbad hin hC hOF hat hm hwi e0 hi0;obtain⟨c0,u,y,c1,c2,c3,hu,hy⟩:=he
  generalize H.fos[i]=s at*;obtain⟨na,⟨jb,jf,jc⟩⟩:=s
  simp only at c0 c1 c2 c3 hu hy;have HU:=hid hu;have HY:=hid hy;obtain⟨ua,uc,rfl,_⟩:=hu
  obtain⟨ya,yc,rfl,_⟩:=hy
  go_wp2_with fail;refine(jtree_any ⟨jb,jf,jc⟩ _ _ ⟨_,_,rfl,HU.out,HY.out⟩ HSJ.out.1 HSJ.out.2).mono ?_
  rintro e w2 ⟨r,rfl,hl,_,hb2⟩;rw[HCK.out]at hl⊢;have HL:=hid hl;clear hl;have hb02:=below_tr hb01 hb2;obtain⟨ra,rc,rfl,_⟩:=id HL.out
  go_wp2_with fail;go_ret2;exact⟨_,by rw[HE.out];rfl,by rw[HEN.out];exact HL.out,hb02⟩
end Go.Proofs.YtppdfeehhnofaaaGreatDoor
