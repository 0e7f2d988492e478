/- Sessions as records; what upload.isFrom, checkBounds and checkSession answer. -/
import Derived.Test.YtppdfeehhnofaaaGreatDoorHAK
import Derived.Deep.RegionHeld3
set_option linter.unusedSimpArgs false
set_option linter.unusedVariables false
namespace Go.Proofs.YtppdfeehhnofaaaGreatDoor
open Go.RowKit

/-- A session. -/
structure Se where
 nu:Int
 wh:ByteArray
 tx:ByteArray
 si:Int
 ti:Int
def SeAt (w:World) (b o:Nat) (s:Se):Prop:=w.cell? ⟨b,o,none⟩=some (.int .i64 s.nu)∧w.cell? ⟨b,o+1,none⟩=some (.string s.wh)∧w.cell? ⟨b,o+2,none⟩=some (.string s.tx)∧w.cell? ⟨b,o+3,none⟩=some (.int .i64 s.si)∧w.cell? ⟨b,o+4,none⟩=some (.int .i64 s.ti)
def LiesS (w:World) (v:Value) (G:List Se):Prop:= ∃a cap,v= .slice a G.length cap∧G.length≤cap∧G.length≤1000000000000000∧ ∀i (h:i<G.length),∃b o,a=some ⟨b,o,none⟩∧b<w.heap.size∧SeAt w b (o+i*5) G[i]
theorem SeAt.below {w w':World} {b o:Nat} {g:Se} (h:SeAt w b o g) (hb:b<w.heap.size) (hw:Below w.heap.size w w'):SeAt w' b o g:=
 ⟨(hw.cell (p:=⟨b,o,none⟩) hb).trans h.1,(hw.cell (p:=⟨b,o+1,none⟩) hb).trans h.2.1,(hw.cell (p:=⟨b,o+2,none⟩) hb).trans h.2.2.1,(hw.cell (p:=⟨b,o+3,none⟩) hb).trans h.2.2.2.1,(hw.cell (p:=⟨b,o+4,none⟩) hb).trans h.2.2.2.2⟩
theorem LiesS.below {w w':World} {v:Value} {G:List Se} (h:LiesS w v G) (hw:Below w.heap.size w w'):LiesS w' v G:=by
 obtain⟨a,cap,hv,h1,h2,h3⟩:=h
 refine⟨a,cap,hv,h1,h2,fun i hi=>?_⟩
 obtain⟨b,o,ha,hb,he⟩:=h3 i hi
 exact⟨b,o,ha,Nat.lt_of_lt_of_le hb hw.size,he.below hb hw⟩
theorem liesS_nil (w:World):LiesS w (.slice none 0 0) []:=⟨none,0,rfl,Nat.le_refl _,by decide,fun i h=>absurd h (by simp)⟩
def SizedS (G:List Se):Prop:= ∀g∈G,g.wh.size≤150000000000000∧g.tx.size≤150000000000000
theorem bx4 {w w1:World} {a b c d:Value} {T:TypeId} (h:Below (w.alloc (.cells #[a,b,c,d] T)).heap.size (w.alloc (.cells #[a,b,c,d] T)) w1):
    w1.cell? ⟨w.heap.size,0,none⟩=some a∧w1.cell? ⟨w.heap.size,1,none⟩=some b∧w1.cell? ⟨w.heap.size,2,none⟩=some c∧w1.cell? ⟨w.heap.size,3,none⟩=some d∧Below w.heap.size w w1∧w.heap.size<w1.heap.size:=by
 have hz:w.heap.size<(w.alloc (.cells #[a,b,c,d] T)).heap.size:=by simp
 refine⟨?_,?_,?_,?_,((Below.refl _ _).alloc (Nat.le_refl _) _).trans (h.mono (Nat.le_of_lt hz)),Nat.lt_of_lt_of_le hz h.size⟩
 · exact(h.cell (p:=⟨w.heap.size,0,none⟩) hz).trans (by simp)
 · exact(h.cell (p:=⟨w.heap.size,1,none⟩) hz).trans (by simp)
 · exact(h.cell (p:=⟨w.heap.size,2,none⟩) hz).trans (by simp)
 · exact(h.cell (p:=⟨w.heap.size,3,none⟩) hz).trans (by simp)
theorem bxU5 {w w1:World} {a b c d e:Value} {T:TypeId} (h:Below (w.alloc (.cells #[a,b,c,d,e] T)).heap.size (w.alloc (.cells #[a,b,c,d,e] T)) w1):
    w1.cell? ⟨w.heap.size,0,none⟩=some a∧w1.cell? ⟨w.heap.size,1,none⟩=some b∧w1.cell? ⟨w.heap.size,2,none⟩=some c∧w1.cell? ⟨w.heap.size,3,none⟩=some d∧w1.cell? ⟨w.heap.size,4,none⟩=some e∧Below w.heap.size w w1∧w.heap.size<w1.heap.size:=by
 have hz:w.heap.size<(w.alloc (.cells #[a,b,c,d,e] T)).heap.size:=by simp
 refine⟨?_,?_,?_,?_,?_,((Below.refl _ _).alloc (Nat.le_refl _) _).trans (h.mono (Nat.le_of_lt hz)),Nat.lt_of_lt_of_le hz h.size⟩
 · exact(h.cell (p:=⟨w.heap.size,0,none⟩) hz).trans (by simp)
 · exact(h.cell (p:=⟨w.heap.size,1,none⟩) hz).trans (by simp)
 · exact(h.cell (p:=⟨w.heap.size,2,none⟩) hz).trans (by simp)
 · exact(h.cell (p:=⟨w.heap.size,3,none⟩) hz).trans (by simp)
 · exact(h.cell (p:=⟨w.heap.size,4,none⟩) hz).trans (by simp)
namespace Pp
def inR (l n m:Int):Bool:=decide (l≤n) && decide (n≤m)
theorem inR_yes {l n m:Int} (h:inR l n m=true):l≤n∧n≤m:=by simpa[inR]using h
/-- Of uploads: 3: a number is out of its bounds; 2: too many sessions. -/
def bndE (n:Nat) (x l r:Int):Int:=if(inR 1 l 1000000 && inR 0 r 100000 && inR 1 x 1099511627776)=true then(if 20<n then 2 else 0)else 3
theorem bnd_cases (n:Nat) (x l r:Int):(inR 1 l 1000000=false∧bndE n x l r=3)∨(inR 1 l 1000000=true∧inR 0 r 100000=false∧bndE n x l r=3)∨(inR 1 l 1000000=true∧inR 0 r 100000=true∧inR 1 x 1099511627776=false∧bndE n x l r=3)∨
    (inR 1 l 1000000=true∧inR 0 r 100000=true∧inR 1 x 1099511627776=true∧20<n∧bndE n x l r=2)∨(inR 1 l 1000000=true∧inR 0 r 100000=true∧inR 1 x 1099511627776=true∧ ¬20<n∧bndE n x l r=0):=by
 cases h1:inR 1 l 1000000<;>cases h2:inR 0 r 100000<;>cases h3:inR 1 x 1099511627776<;>by_cases h4:20<n<;>simp[bndE,h1,h2,h3,h4]
/-- Of one session. -/
def seE (x:Int) (s:Se):Int:=if(inR 1 s.nu (x-1) && inR 0 s.si 300 && inR 0 s.ti 2199023255552)=true then(if nameB s.wh.data.toList=true then(if s.si<(s.tx.size:Int)then 2 else 0)else 1)else 3
theorem se_cases (x:Int) (s:Se):(inR 1 s.nu (x-1)=false∧seE x s=3)∨(inR 1 s.nu (x-1)=true∧inR 0 s.si 300=false∧seE x s=3)∨(inR 1 s.nu (x-1)=true∧inR 0 s.si 300=true∧inR 0 s.ti 2199023255552=false∧seE x s=3)∨
    (inR 1 s.nu (x-1)=true∧inR 0 s.si 300=true∧inR 0 s.ti 2199023255552=true∧nameB s.wh.data.toList=false∧seE x s=1)∨(inR 1 s.nu (x-1)=true∧inR 0 s.si 300=true∧inR 0 s.ti 2199023255552=true∧nameB s.wh.data.toList=true∧s.si<(s.tx.size:Int)∧seE x s=2)∨
    (inR 1 s.nu (x-1)=true∧inR 0 s.si 300=true∧inR 0 s.ti 2199023255552=true∧nameB s.wh.data.toList=true∧ ¬s.si<(s.tx.size:Int)∧seE x s=0):=by
 cases h1:inR 1 s.nu (x-1)<;>cases h2:inR 0 s.si 300<;>cases h3:inR 0 s.ti 2199023255552<;>cases h5:nameB s.wh.data.toList<;>by_cases h4:s.si<(s.tx.size:Int)<;>simp[seE,h1,h2,h3,h4,h5]
theorem nmsE1 {s:ByteArray} {b:Bool} (h:nameB s.data.toList=b):nmsE [s]=if b=true then 0 else 1:=by simp[nmsE,h]
end Pp

set_option maxHeartbeats 1000000 in
theorem isFrom_any (l n m:Int) (w:World):Calls Tryz.prog 108 #[.int .i64 l,.int .i64 n,.int .i64 m] w fun e w'=>e= .returned (.bool (Pp.inR l n m))∧w'=w:=by
 by_cases h:l≤n
 · have HE:=hid (show decide (n≤m)=Pp.inR l n m from by rw[Pp.inR,decide_eq_true h];rfl)
   go_enter Tryz.func108,Tryz.ntmps108
   go_wp2;go_ret;exact⟨Pp.ret_bool HE.out,rfl⟩
 · have HE:=hid (show false=Pp.inR l n m from by rw[Pp.inR,decide_eq_false h];rfl)
   go_enter Tryz.func108,Tryz.ntmps108
   go_wp2;go_ret;exact⟨Pp.ret_bool HE.out,rfl⟩
set_option maxRecDepth 100000 in
set_option maxHeartbeats 2000000 in
theorem checkBounds_any (G:List Se) (v:Value) (x l r:Int) (w:World) (hv:LiesS w v G):
    Calls Tryz.prog 64 #[.agg #[v,.int .i64 x,.int .i64 l,.int .i64 r]] w fun e w'=>e= .returned (.int .i64 (Pp.bndE G.length x l r))∧Below w.heap.size w w':=by
 obtain⟨a,cap,rfl,hcap,hcap2,_⟩:=hv
 have hbw:Below w.heap.size w (w.alloc (.cells #[.slice a G.length cap,.int .i64 x,.int .i64 l,.int .i64 r] 26)):=(Below.refl _ _).alloc (Nat.le_refl _) _;rcases Pp.bnd_cases G.length x l r with⟨h1,hE⟩|⟨h1,h2,hE⟩|⟨h1,h2,h3,hE⟩|⟨h1,h2,h3,h4,hE⟩|⟨h1,h2,h3,h4,hE⟩
 · have HE:=ghid hE
   have H1:=ghid h1;clear hE h1;go_enter Tryz.func64,Tryz.ntmps64
   go_wp2_with fail;refine(isFrom_any 1 l 1000000 _).mono ?_
   rintro e w1 ⟨rfl,hw⟩;rw[hw,H1.out];clear hw w1;go_wp2;go_ret;exact⟨by rw[HE.out];rfl,hbw⟩
 · have HE:=ghid hE
   have H1:=ghid h1;have H2:=ghid h2;clear hE h1 h2;go_enter Tryz.func64,Tryz.ntmps64
   go_wp2_with fail;refine(isFrom_any 1 l 1000000 _).mono ?_
   rintro e w1 ⟨rfl,hw⟩;rw[hw,H1.out];clear hw w1;go_wp2_with fail;refine(isFrom_any 0 r 100000 _).mono ?_
   rintro e w1 ⟨rfl,hw⟩;rw[hw,H2.out];clear hw w1;go_wp2;go_ret;exact⟨by rw[HE.out];rfl,hbw⟩
 all_goals
  have HE:=ghid hE;have H1:=ghid h1;have H2:=ghid h2;have H3:=ghid h3;try (have h20:20<(G.length:Int):=by omega)
  try (have h20: ¬20<(G.length:Int):=by omega)
  clear hE h1 h2 h3;go_enter Tryz.func64,Tryz.ntmps64
  go_wp2_with fail;refine(isFrom_any 1 l 1000000 _).mono ?_
  rintro e w1 ⟨rfl,hw⟩;rw[hw,H1.out];clear hw w1;go_wp2_with fail;refine(isFrom_any 0 r 100000 _).mono ?_
  rintro e w1 ⟨rfl,hw⟩;rw[hw,H2.out];clear hw w1;go_wp2_with fail;refine(isFrom_any 1 x 1099511627776 _).mono ?_
  rintro e w1 ⟨rfl,hw⟩;rw[hw,H3.out];clear hw w1;go_wp2;go_ret;exact⟨by rw[HE.out];rfl,hbw⟩
set_option maxRecDepth 100000 in
set_option maxHeartbeats 2000000 in
theorem checkSession_any (s:Se) (x:Int) (w:World) (hx1:1≤x) (hx2:x≤1099511627776) (hh:s.wh.size≤150000000000000):
    Calls Tryz.prog 65 #[.agg #[.int .i64 s.nu,.string s.wh,.string s.tx,.int .i64 s.si,.int .i64 s.ti],.int .i64 x] w fun e w'=>e= .returned (.int .i64 (Pp.seE x s))∧Below w.heap.size w w':=by
 have hbw:Below w.heap.size w (w.alloc (.cells #[.int .i64 s.nu,.string s.wh,.string s.tx,.int .i64 s.si,.int .i64 s.ti] 139)):=(Below.refl _ _).alloc (Nat.le_refl _) _;rcases Pp.se_cases x s with⟨h1,hE⟩|⟨h1,h2,hE⟩|⟨h1,h2,h3,hE⟩|⟨h1,h2,h3,h4,hE⟩|⟨h1,h2,h3,h4,h5,hE⟩|⟨h1,h2,h3,h4,h5,hE⟩
 · have HE:=ghid hE
   have H1:=ghid h1;clear hE h1;go_enter Tryz.func65,Tryz.ntmps65
   go_wp2_with fail;refine(isFrom_any 1 s.nu (x-1) _).mono ?_
   rintro e w1 ⟨rfl,hw⟩;rw[hw,H1.out];clear hw w1;go_wp2;go_ret;exact⟨by rw[HE.out];rfl,hbw⟩
 · have HE:=ghid hE
   have H1:=ghid h1;have H2:=ghid h2;clear hE h1 h2;go_enter Tryz.func65,Tryz.ntmps65
   go_wp2_with fail;refine(isFrom_any 1 s.nu (x-1) _).mono ?_
   rintro e w1 ⟨rfl,hw⟩;rw[hw,H1.out];clear hw w1;go_wp2_with fail;refine(isFrom_any 0 s.si 300 _).mono ?_
   rintro e w1 ⟨rfl,hw⟩;rw[hw,H2.out];clear hw w1;go_wp2;go_ret;exact⟨by rw[HE.out];rfl,hbw⟩
 · have HE:=ghid hE
   have H1:=ghid h1;have H2:=ghid h2;have H3:=ghid h3;clear hE h1 h2 h3;go_enter Tryz.func65,Tryz.ntmps65
   go_wp2_with fail;refine(isFrom_any 1 s.nu (x-1) _).mono ?_
   rintro e w1 ⟨rfl,hw⟩;rw[hw,H1.out];clear hw w1;go_wp2_with fail;refine(isFrom_any 0 s.si 300 _).mono ?_
   rintro e w1 ⟨rfl,hw⟩;rw[hw,H2.out];clear hw w1;go_wp2_with fail;refine(isFrom_any 0 s.ti 2199023255552 _).mono ?_
   rintro e w1 ⟨rfl,hw⟩;rw[hw,H3.out];clear hw w1;go_wp2;go_ret;exact⟨by rw[HE.out];rfl,hbw⟩
 all_goals
  have HE:=ghid hE;have H1:=ghid h1;have H2:=ghid h2;have H3:=ghid h3;have H4:=ghid (Pp.nmsE1 h4);have hss: ∀i (hi:i<[s.wh].length),([s.wh][i]).size≤1000000000000000:=fun i hi=>by match i,hi with|0,_=>exact Nat.le_trans hh (by decide)
  have HSS:=ghid hss;clear hE h1 h2 h3 h4 hss;go_enter Tryz.func65,Tryz.ntmps65
  go_wp2_with fail;refine(isFrom_any 1 s.nu (x-1) _).mono ?_
  rintro e w1 ⟨rfl,hw⟩;rw[hw,H1.out];clear hw w1;go_wp2_with fail;refine(isFrom_any 0 s.si 300 _).mono ?_
  rintro e w1 ⟨rfl,hw⟩;rw[hw,H2.out];clear hw w1;go_wp2_with fail;refine(isFrom_any 0 s.ti 2199023255552 _).mono ?_
  rintro e w1 ⟨rfl,hw⟩;rw[hw,H3.out];clear hw w1;go_wp2_with fail;refine(names_any [s.wh] (w.heap.size+1) 0 1 _ (by simp) HSS.out (by simp) (fun i hi=>by match i,hi with|0,_=>simp)).mono ?_
  rintro e w1 ⟨rfl,hb1⟩;rw[H4.out];have hb2:Below (w.alloc (.cells #[.int .i64 s.nu,.string s.wh,.string s.tx,.int .i64 s.si,.int .i64 s.ti] 139)).heap.size (w.alloc (.cells #[.int .i64 s.nu,.string s.wh,.string s.tx,.int .i64 s.si,.int .i64 s.ti] 139)) w1:=((Below.refl _ _).alloc (Nat.le_refl _) _).trans (hb1.mono (by simp));obtain⟨c0,c1,c2,c3,c4,hbw2,hlt⟩:=bxU5 hb2
  clear hb1 hb2;go_wp2_with fail;go_ret;exact⟨by rw[HE.out];rfl,hbw2⟩
end Go.Proofs.YtppdfeehhnofaaaGreatDoor
namespace Go.Proofs.YtppdfeehhnofaaaGreatDoor
open Go.RowKit

namespace Pp
def risS:List Se→Bool
 |[]=>true
 |[_]=>true
 |a::b::r=>decide (a.nu<b.nu) && risS (b::r)
theorem risS_no: ∀{G:List Se} {k:Nat} (h:k+1<G.length),¬(G[k]).nu<(G[k+1]).nu→risS G=false
 |[],k,h,_=>absurd h (by simp)
 |[_],k,h,_=>absurd h (by simp)
 |a::b::r,0,h,hk=>by
  have hk': ¬a.nu<b.nu:=hk;rw[risS,decide_eq_false hk'];rfl
 |a::b::r,k+1,h,hk=>by
  have:=risS_no (G:=b::r) (k:=k) (by simpa using h) hk
  rw[risS,this,Bool.and_false]
theorem risS_yes: ∀{G:List Se},(∀k (h:k+1<G.length),(G[k]).nu<(G[k+1]).nu)→risS G=true
 |[],_=>rfl
 |[_],_=>rfl
 |a::b::r,h=>by
  have h0:a.nu<b.nu:=h 0 (by simp);rw[risS,decide_eq_true h0,risS_yes (G:=b::r) fun k hk=>h (k+1) (by simpa using hk)];rfl
/-- How many bytes all of somebody's sessions are to have. -/
def takS:List Se→ByteArray→Int
 |[],_=>0
 |s::r,p=>(if(s.wh.toList==p.toList)=true then s.si else 0)+takS r p
theorem takS_snoc: ∀(L:List Se) (s:Se) (p:ByteArray),takS (L++[s]) p=takS L p+(if(s.wh.toList==p.toList)=true then s.si else 0)
 |[],s,p=>by simp[takS]
 |a::r,s,p=>by rw[List.cons_append,takS,takS,takS_snoc r s p];omega
theorem takS_bound: ∀{L:List Se} (p:ByteArray),(∀s∈L,0≤s.si∧s.si≤300)→0≤takS L p∧takS L p≤300*L.length
 |[],p,_=>by simp[takS]
 |a::r,p,h=>by
  have h1:=h a (by simp);have h2:=takS_bound (L:=r) p fun s hs=>h s (by simp[hs])
  rw[takS,List.length_cons];split<;>omega
def roE (L:List Se) (room:Int):Int:=if(L.all fun s=>decide (takS L s.wh≤room))=true then 0 else 10
theorem ro_no {L:List Se} {room:Int} {k:Nat} (h:k<L.length) (hk:room<takS L (L[k]).wh):10=roE L room:=by
 rw[roE,if_neg];rw[List.all_eq_true];intro hh;have:=of_decide_eq_true (hh L[k] (List.getElem_mem h))
 omega
theorem ro_yes {L:List Se} {room:Int} (h: ∀j (h:j<L.length),takS L (L[j]).wh≤room):0=roE L room:=by
 rw[roE,if_pos];rw[List.all_eq_true];intro x hx;obtain⟨j,hj,rfl⟩:=List.getElem_of_mem hx
 exact decide_eq_true (h j hj)
def sesE (x:Int):List Se→Int
 |[]=>0
 |g::r=>if seE x g=0 then sesE x r else seE x g
theorem ses_hit {x:Int}: ∀{G:List Se} {k:Nat} (hlt:k<G.length),(∀j (h:j<G.length),j<k→seE x G[j]=0)→ ¬seE x G[k]=0→sesE x G=seE x G[k]
 |[],k,hlt,_,_=>absurd hlt (by simp)
 |g::r,0,_,_,hk=>by rw[sesE,if_neg (show¬seE x g=0 from hk)];rfl
 |g::r,k+1,hlt,h,hk=>by
  rw[sesE,if_pos (show seE x g=0 from h 0 (by simp) (by omega))];have:=ses_hit (G:=r) (k:=k) (by simpa using hlt) (fun j hj hjk=>h (j+1) (by simpa using hj) (by omega)) hk
  rw[this];rfl
theorem ses_all {x:Int}: ∀{G:List Se},(∀j (h:j<G.length),seE x G[j]=0)→sesE x G=0
 |[],_=>rfl
 |g::r,h=>by
  rw[sesE,if_pos (show seE x g=0 from h 0 (by simp))];exact ses_all fun j hj=>h (j+1) (by simpa using hj)
theorem ses_mem {x:Int} {G:List Se}:sesE x G=0↔ ∀g∈G,seE x g=0:=by
 induction G with
 |nil=>simp[sesE]
 |cons g r ih=>
  rw[sesE];by_cases h:seE x g=0
  · rw[if_pos h,ih];simp[h]
  · rw[if_neg h];simp[h]
theorem se_zero {x:Int} {s:Se} (h:seE x s=0):inR 1 s.nu (x-1)=true∧inR 0 s.si 300=true∧inR 0 s.ti 2199023255552=true∧nameB s.wh.data.toList=true∧(s.tx.size:Int)≤s.si:=by
 rcases se_cases x s with⟨h1,hE⟩|⟨h1,h2,hE⟩|⟨h1,h2,h3,hE⟩|⟨h1,h2,h3,h4,hE⟩|⟨h1,h2,h3,h4,h5,hE⟩|⟨h1,h2,h3,h4,h5,hE⟩
 · rw[h]at hE;cases hE
 · rw[h]at hE;cases hE
 · rw[h]at hE;cases hE
 · rw[h]at hE;cases hE
 · rw[h]at hE;cases hE
 · exact⟨h1,h2,h3,h4,by omega⟩
theorem ses_si {x:Int} {G:List Se} (h:sesE x G=0): ∀s∈G,0≤s.si∧s.si≤300:=fun s hs=>inR_yes (se_zero (ses_mem.1 h s hs)).2.1
/-- Check of uploads. -/
def uchE (G:List Se) (x l r:Int):Int:=if¬bndE G.length x l r=0 then bndE G.length x l r else if¬sesE x G=0 then sesE x G else if risS G=false then 4 else roE G r
theorem uch_bnd {G:List Se} {x l r:Int} (h: ¬bndE G.length x l r=0):uchE G x l r=bndE G.length x l r:=if_pos h
theorem uch_ses {G:List Se} {x l r:Int} (h:bndE G.length x l r=0) (h2: ¬sesE x G=0):uchE G x l r=sesE x G:=by rw[uchE,if_neg (fun k=>k h),if_pos h2]
theorem uch_ris {G:List Se} {x l r:Int} (h:bndE G.length x l r=0) (h2:sesE x G=0) (h3:risS G=false):uchE G x l r=4:=by rw[uchE,if_neg (fun k=>k h),if_neg (fun k=>k h2),if_pos h3]
theorem uch_ro {G:List Se} {x l r:Int} (h:bndE G.length x l r=0) (h2:sesE x G=0) (h3:risS G=true):uchE G x l r=roE G r:=by rw[uchE,if_neg (fun k=>k h),if_neg (fun k=>k h2),if_neg (by rw[h3];decide)]
theorem bnd_zero {n:Nat} {x l r:Int} (h:bndE n x l r=0):n≤20∧(1≤l∧l≤1000000)∧(0≤r∧r≤100000)∧(1≤x∧x≤1099511627776):=by
 rcases bnd_cases n x l r with⟨h1,hE⟩|⟨h1,h2,hE⟩|⟨h1,h2,h3,hE⟩|⟨h1,h2,h3,h4,hE⟩|⟨h1,h2,h3,h4,hE⟩
 · rw[h]at hE;cases hE
 · rw[h]at hE;cases hE
 · rw[h]at hE;cases hE
 · rw[h]at hE;cases hE
 · exact⟨by omega,inR_yes h1,inR_yes h2,inR_yes h3⟩
end Pp

set_option maxHeartbeats 1000000 in
theorem urises_any (G:List Se) (v:Value) (w:World) (hv:LiesS w v G):
    Calls Tryz.prog 66 #[v] w fun e w'=>e= .returned (.bool (Pp.risS G))∧Below w.heap.size w w':=by
 obtain⟨a,cap,rfl,hcap,hcap2,hLL⟩:=hv
 have HL:Hid (∀i (h:i<G.length),∃b o,a=some ⟨b,o,none⟩∧b<w.heap.size∧SeAt w b (o+i*5) G[i]):=hLL;clear hLL;obtain⟨r,hr⟩: ∃r,r=Pp.risS G:=⟨_,rfl⟩
 rw[←hr];have HR:=ghid hr;clear hr;go_enter Tryz.func66,Tryz.ntmps66
 go_wp2_with fail;go_loopw [3] (fun i wr=> ∃k:Nat,(k≤G.length∨k=1)∧1≤k∧i= .int .i64 k∧Hid (∀j (h:j+1<G.length),j+1<k→(G[j]).nu<(G[j+1]).nu)∧Below w.heap.size w wr) (fun i _=>G.length-(intOf i).toNat)
 case atStart=>exact⟨1,Or.inr rfl,Nat.le_refl _,rfl,(fun j _ h=>absurd h (by omega): ∀j (h:j+1<G.length),j+1<1→(G[j]).nu<(G[j+1]).nu),Below.refl _ _⟩
 case round=>
  obtain⟨k,hk,hk1,rfl,HP,hbel⟩:=hrel
  obtain⟨m,rfl⟩: ∃m,k=m+1:=⟨k-1,by omega⟩
  by_cases hlt:m+1<G.length
  · obtain⟨b,o,rfl,hb,he⟩:=HL.out m (by omega)
    obtain⟨c0,_⟩:=he.below hb hbel
    obtain⟨b',o',hbo,hb',he'⟩:=HL.out (m+1) hlt
    obtain⟨rfl,rfl⟩:b'=b∧o'=o:=by simp at hbo;exact⟨hbo.1.symm,hbo.2.symm⟩
    obtain⟨d0,_⟩:=he'.below hb' hbel
    clear he he' hbo;by_cases hn:(G[m]).nu<(G[m+1]).nu
    · have HP2:=hid (show∀j (h:j+1<G.length),j+1<m+1+1→(G[j]).nu<(G[j+1]).nu from fun j h1 h2=>by
       by_cases e:j=m
       · subst e;exact hn
       · exact HP.out j h1 (by omega))
      generalize (G[m]).nu=p at*;generalize (G[m+1]).nu=q at*;go_wp2_with fail;go_region
      go_wp2_with fail;go_roundw
      case rel=>exact⟨m+1+1,by omega,by omega,by simp,HP2,hbel.drew⟩
      case measure=>simp[intOf];omega
    · have HE:=hid (show false=r from by rw[HR.out];exact(Pp.risS_no hlt hn).symm)
      generalize (G[m]).nu=p at*;generalize (G[m+1]).nu=q at*;go_wp2_with fail;go_region
      go_wp2_with fail;go_ret;exact⟨Pp.ret_bool HE.out,hbel.drew⟩
  · have HE:=hid (show true=r from by rw[HR.out];exact(Pp.risS_yes fun j h=>HP.out j h (by omega)).symm)
    go_wp2_with fail;go_ret;exact⟨Pp.ret_bool HE.out,hbel⟩
set_option maxHeartbeats 1000000 in
theorem taken_any (G:List Se) (v:Value) (p:ByteArray) (w:World) (hv:LiesS w v G) (hn:G.length≤1000) (hs: ∀s∈G,0≤s.si∧s.si≤300):
    Calls Tryz.prog 109 #[v,.string p] w fun e w'=>e= .returned (.int .i64 (Pp.takS G p))∧Below w.heap.size w w':=by
 obtain⟨a,cap,rfl,hcap,hcap2,hLL⟩:=hv
 have HL:Hid (∀i (h:i<G.length),∃b o,a=some ⟨b,o,none⟩∧b<w.heap.size∧SeAt w b (o+i*5) G[i]):=hLL;have HS:=hid (show∀i (h:i<G.length),0≤(G[i]).si∧(G[i]).si≤300 from fun i h=>hs _ (List.getElem_mem h))
 have HT:=hid (show∀k,0≤Pp.takS (G.take k) p∧Pp.takS (G.take k) p≤300*G.length from fun k=>by
  have h1:=Pp.takS_bound (L:=G.take k) p fun s hs'=>hs s (List.mem_of_mem_take hs')
  have h2:(G.take k).length≤G.length:=by rw[List.length_take];omega
  omega)
 clear hLL hs;go_enter Tryz.func109,Tryz.ntmps109
 go_wp2_with fail;go_loopw [5,10] (fun t i wr=> ∃k:Nat,k≤G.length∧i= .int .i64 k∧t= .int .i64 (Pp.takS (G.take k) p)∧Below w.heap.size w wr) (fun _ i _=>G.length-(intOf i).toNat)
 case atStart=>exact⟨0,Nat.zero_le _,rfl,rfl,Below.refl _ _⟩
 case round=>
  obtain⟨k,hk,rfl,rfl,hbel⟩:=hrel
  by_cases hlt:k<G.length
  · obtain⟨b,o,rfl,hb,he⟩:=HL.out k hlt
    obtain⟨c0,c1,c2,c3,c4⟩:=he.below hb hbel
    obtain⟨s1,s2⟩:=HS.out k hlt
    obtain⟨t1,t2⟩:=HT.out k
    have hsn:Pp.takS (G.take (k+1)) p=Pp.takS (G.take k) p+(if((G[k]).wh.toList==p.toList)=true then(G[k]).si else 0):=by rw[List.take_succ_eq_append_getElem hlt,Pp.takS_snoc]
    have hsz:=hbel.size;clear he;generalize G[k]=s at*;generalize Pp.takS (G.take k) p=T at*;cases hq:(s.wh.toList==p.toList)with
    |true=>
     have HSN:=hid (show Pp.takS (G.take (k+1)) p=T+s.si from by rw[hsn,hq];rfl);clear hsn;go_wp2_with fail;go_roundw
     case rel=>exact⟨k+1,by omega,by simp,by rw[HSN.out],hbel.alloc hbel.size _⟩
     case measure=>simp[intOf];omega
    |false=>
     have HSN:=hid (show Pp.takS (G.take (k+1)) p=T from by rw[hsn,hq];simp);clear hsn;go_wp2_with fail;go_roundw
     case rel=>exact⟨k+1,by omega,by simp,by rw[HSN.out],hbel.alloc hbel.size _⟩
     case measure=>simp[intOf];omega
  · have HE:=hid (show Pp.takS (G.take k) p=Pp.takS G p from by rw[List.take_of_length_le (by omega)])
    go_wp2_with fail;go_ret;exact⟨Pp.ret_int HE.out,hbel⟩
end Go.Proofs.YtppdfeehhnofaaaGreatDoor
namespace Go.Proofs.YtppdfeehhnofaaaGreatDoor
open Go.RowKit

set_option maxRecDepth 100000 in
set_option maxHeartbeats 1000000 in
theorem checkRoom_any (G:List Se) (v:Value) (x l r:Int) (w:World) (hv:LiesS w v G) (hn:G.length≤1000) (hs: ∀s∈G,0≤s.si∧s.si≤300):
    Calls Tryz.prog 67 #[.agg #[v,.int .i64 x,.int .i64 l,.int .i64 r]] w fun e w'=>e= .returned (.int .i64 (Pp.roE G r))∧Below w.heap.size w w':=by
 have HV:=ghid hv;have HS:=ghid hs;obtain⟨a,cap,rfl,hcap,hcap2,hLL⟩:=hv
 have HL:Hid (∀i (h:i<G.length),∃b o,a=some ⟨b,o,none⟩∧b<w.heap.size∧SeAt w b (o+i*5) G[i]):=hLL;clear hLL hs;go_enter Tryz.func67,Tryz.ntmps67
 go_wp2_with fail;go_loopw [8] (fun i wr=> ∃k:Nat,k≤G.length∧i= .int .i64 k∧Hid (∀j (h:j<G.length),j<k→Pp.takS G (G[j]).wh≤r)∧Below (w.alloc (.cells #[.slice a G.length cap,.int .i64 x,.int .i64 l,.int .i64 r] 26)).heap.size (w.alloc (.cells #[.slice a G.length cap,.int .i64 x,.int .i64 l,.int .i64 r] 26)) wr) (fun i _=>G.length-(intOf i).toNat)
 case atStart=>exact⟨0,Nat.zero_le _,rfl,(fun j _ h=>absurd h (Nat.not_lt_zero _): ∀j (h:j<G.length),j<0→Pp.takS G (G[j]).wh≤r),Below.refl _ _⟩
 case round=>
  obtain⟨k,hk,rfl,HP,hbel0⟩:=hrel
  obtain⟨b0,b1,b2,b3,hbel,hltw⟩:=bx4 hbel0
  have HB0:=ghid hbel0;clear hbel0;by_cases hlt:k<G.length
  · obtain⟨b,o,rfl,hb,he⟩:=HL.out k hlt
    obtain⟨c0,c1,c2,c3,c4⟩:=he.below hb hbel
    have hsz:=hbel.size;clear he;have HNO:=hid (show r<Pp.takS G (G[k]).wh→10=Pp.roE G r from fun h=>Pp.ro_no hlt h)
    have HYES:=hid (show Pp.takS G (G[k]).wh≤r→ ∀j (h:j<G.length),j<k+1→Pp.takS G (G[j]).wh≤r from fun hh j h1 h2=>by
     by_cases e:j=k
     · subst e;exact hh
     · exact HP.out j h1 (by omega))
    generalize G[k]=s at*;obtain⟨wz,hwz⟩: ∃wz,wz=wr.alloc (.cells #[.int .i64 s.nu,.string s.wh,.string s.tx,.int .i64 s.si,.int .i64 s.ti] 139):=⟨_,rfl⟩
    have hbz0:Below (w.alloc (.cells #[.slice (some ⟨b,o,none⟩) G.length cap,.int .i64 x,.int .i64 l,.int .i64 r] 26)).heap.size (w.alloc (.cells #[.slice (some ⟨b,o,none⟩) G.length cap,.int .i64 x,.int .i64 l,.int .i64 r] 26)) wz:=hwz▸HB0.out.alloc HB0.out.size _;obtain⟨z0,_,_,z3,hbz,hltz⟩:=bx4 hbz0
    have z1:wz.cell? ⟨wr.heap.size,1,none⟩=some (.string s.wh):=by rw[hwz];simp
    have hsz1:wr.heap.size<wz.heap.size:=by rw[hwz];simp
    have HBZ0:=ghid hbz0;clear hbz0 HB0 hbel b0 b1 b2 b3;go_wp2_with fail;rw[←hwz];clear hwz c0 c1 c2 c3 c4
    go_region_held3 (fun W=>W.cell? ⟨w.heap.size,0,none⟩=some (.slice (some ⟨b,o,none⟩) G.length cap)∧W.cell? ⟨w.heap.size,3,none⟩=some (.int .i64 r)∧W.cell? ⟨wr.heap.size,1,none⟩=some (.string s.wh)) (go_keep) (first
     |(go_at_call 109;refine(taken_any G _ s.wh _ (HV.out.below hbz.drew) hn HS.out).mono ?_;rintro e wa ⟨rfl,hba⟩;have k0:=(hba.cell (p:=⟨w.heap.size,0,none⟩) hltz).trans z0;have k3:=(hba.cell (p:=⟨w.heap.size,3,none⟩) hltz).trans z3;have k1:=(hba.cell (p:=⟨wr.heap.size,1,none⟩) hsz1).trans z1))
    all_goals
     have hb01:Below (w.alloc (.cells #[.slice (some ⟨b,o,none⟩) G.length cap,.int .i64 x,.int .i64 l,.int .i64 r] 26)).heap.size (w.alloc (.cells #[.slice (some ⟨b,o,none⟩) G.length cap,.int .i64 x,.int .i64 l,.int .i64 r] 26)) wa:=HBZ0.out.drew.trans (hba.mono HBZ0.out.drew.size);clear hba;by_cases hr:r<Pp.takS G s.wh
     · have HE:=ghid (HNO.out hr)
       generalize Pp.takS G s.wh=T at*;go_wp2_with fail;go_ret;exact⟨Pp.ret_int HE.out,(bx4 hb01).2.2.2.2.1⟩
     · have HP2:=ghid (HYES.out (by omega))
       generalize Pp.takS G s.wh=T at*;go_wp2_with fail;go_roundw
       case rel=>exact⟨k+1,by omega,by simp,HP2,hb01⟩
       case measure=>simp[intOf];omega
  · have HE:=hid (show 0=Pp.roE G r from Pp.ro_yes fun j h=>HP.out j h (by omega))
    go_wp2_with fail;go_ret;exact⟨Pp.ret_int HE.out,hbel⟩
set_option maxRecDepth 100000 in
set_option maxHeartbeats 2000000 in
theorem ucheck_any (G:List Se) (v:Value) (x l r:Int) (w:World) (hv:LiesS w v G) (hs:SizedS G):
    Calls Tryz.prog 31 #[.agg #[v,.int .i64 x,.int .i64 l,.int .i64 r]] w fun e w'=>e= .returned (.int .i64 (Pp.uchE G x l r))∧Below w.heap.size w w':=by
 have HV:=ghid hv;have HS:=ghid hs;obtain⟨a,cap,rfl,hcap,hcap2,hLL⟩:=hv
 have HL:Hid (∀i (h:i<G.length),∃b o,a=some ⟨b,o,none⟩∧b<w.heap.size∧SeAt w b (o+i*5) G[i]):=hLL;clear hLL hs;by_cases hbd:Pp.bndE G.length x l r=0
 case neg=>
  have HE:=hid (show Pp.bndE G.length x l r=Pp.uchE G x l r from(Pp.uch_bnd hbd).symm);have hz:(Pp.bndE G.length x l r==0)=false:=by simpa using hbd
  clear hbd;go_enter Tryz.func31,Tryz.ntmps31
  go_wp2_with fail;refine(checkBounds_any G _ x l r _ (HV.out.below ((Below.refl _ _).alloc (Nat.le_refl _) _))).mono ?_
  rintro e w1 ⟨rfl,hb1⟩;obtain⟨b0,b1,b2,b3,hbel,hltw⟩:=bx4 hb1
  clear hb1;generalize Pp.bndE G.length x l r=y at*;go_wp2;go_ret;exact⟨Pp.ret_int HE.out,hbel⟩
 case pos=>
 have HBD:=ghid hbd;obtain⟨h20,⟨hl1,hl2⟩,⟨hr1,hr2⟩,⟨hx1,hx2⟩⟩:=Pp.bnd_zero hbd
 clear hbd;go_enter Tryz.func31,Tryz.ntmps31
 go_wp2_with fail;refine(checkBounds_any G _ x l r _ (HV.out.below ((Below.refl _ _).alloc (Nat.le_refl _) _))).mono ?_
 rintro e w1 ⟨rfl,hb1⟩;rw[HBD.out];have HB1:=ghid hb1;obtain⟨b0,b1,b2,b3,hbel1,hltw⟩:=bx4 hb1
 clear hb1;go_wp2_with fail;go_loopw [15] (fun i wr=> ∃k:Nat,k≤G.length∧i= .int .i64 k∧Hid (∀j (h:j<G.length),j<k→Pp.seE x G[j]=0)∧Below (w.alloc (.cells #[.slice a G.length cap,.int .i64 x,.int .i64 l,.int .i64 r] 26)).heap.size (w.alloc (.cells #[.slice a G.length cap,.int .i64 x,.int .i64 l,.int .i64 r] 26)) wr) (fun i _=>G.length-(intOf i).toNat)
 case atStart=>exact⟨0,Nat.zero_le _,rfl,(fun j _ h=>absurd h (Nat.not_lt_zero _): ∀j (h:j<G.length),j<0→Pp.seE x G[j]=0),HB1.out⟩
 case round=>
  clear b0 b1 b2 b3 hbel1 hltw;obtain⟨k,hk,rfl,HP,hbel0⟩:=hrel
  obtain⟨b0,b1,b2,b3,hbel,hltw⟩:=bx4 hbel0
  have HB0:=ghid hbel0;clear hbel0;by_cases hlt:k<G.length
  · obtain⟨b,o,rfl,hb,he⟩:=HL.out k hlt
    obtain⟨c0,c1,c2,c3,c4⟩:=he.below hb hbel
    have hsz:=hbel.size;clear he
    have HNO:=hid (show¬Pp.seE x G[k]=0→Pp.seE x G[k]=Pp.uchE G x l r from fun h=>by
     have hg:=Pp.ses_hit hlt HP.out h;rw[Pp.uch_ses HBD.out (by rw[hg];exact h),hg])
    have HYES:=hid (show Pp.seE x G[k]=0→ ∀j (h:j<G.length),j<k+1→Pp.seE x G[j]=0 from fun hh j h1 h2=>by
     by_cases e:j=k
     · subst e;exact hh
     · exact HP.out j h1 (by omega))
    have hss:=(HS.out G[k] (List.getElem_mem hlt)).1;generalize G[k]=s at*;by_cases hr:Pp.seE x s=0
    · have HP2:=ghid (HYES.out hr)
      have HR:=ghid hr;clear hr;go_wp2_with fail;refine(checkSession_any s x _ hx1 hx2 hss).mono ?_
      rintro e w1 ⟨rfl,hb1⟩;rw[HR.out];obtain⟨d0,d1,d2,d3,d4,hbw1,hlt1⟩:=bxU5 hb1
      have hb01:=HB0.out.trans (hbw1.mono HB0.out.size);clear hb1 hbw1 hbel;go_wp2_with fail;go_roundw
      case rel=>exact⟨k+1,by omega,by simp,HP2,hb01⟩
      case measure=>simp[intOf];omega
    · have HE:=ghid (HNO.out hr)
      have hz:(Pp.seE x s==0)=false:=by simpa using hr
      clear hr;go_wp2_with fail;refine(checkSession_any s x _ hx1 hx2 hss).mono ?_
      rintro e w1 ⟨rfl,hb1⟩;obtain⟨d0,d1,d2,d3,d4,hbw1,hlt1⟩:=bxU5 hb1
      have hb01:=below_trans hbel hbw1;clear hb1 hbw1 hbel;generalize Pp.seE x s=y at*;go_wp2_with fail;go_ret;exact⟨Pp.ret_int HE.out,hb01⟩
  · have HSE:=ghid (Pp.ses_all fun j h=>HP.out j h (by omega))
    have HSI:=ghid (Pp.ses_si HSE.out);cases hris:Pp.risS G with
    |false=>
     have HE:=hid (show 4=Pp.uchE G x l r from(Pp.uch_ris HBD.out HSE.out hris).symm);have HR:=ghid hris;clear hris;go_wp2_with fail;refine(urises_any G _ _ (HV.out.below hbel)).mono ?_
     rintro e w1 ⟨rfl,hb1⟩;rw[HR.out];have hb01:=below_trans hbel hb1;go_wp2;go_ret;exact⟨Pp.ret_int HE.out,hb01⟩
    |true=>
     have HE:=hid (show Pp.roE G r=Pp.uchE G x l r from(Pp.uch_ro HBD.out HSE.out hris).symm);have HR:=ghid hris;clear hris;go_wp2_with fail;refine(urises_any G _ _ (HV.out.below hbel)).mono ?_
     rintro e w1 ⟨rfl,hb1⟩;rw[HR.out];have hb01:=below_trans hbel hb1;have f0:=(hb1.cell (p:=⟨w.heap.size,0,none⟩) hltw).trans b0;have f1:=(hb1.cell (p:=⟨w.heap.size,1,none⟩) hltw).trans b1;have f2:=(hb1.cell (p:=⟨w.heap.size,2,none⟩) hltw).trans b2;have f3:=(hb1.cell (p:=⟨w.heap.size,3,none⟩) hltw).trans b3;clear hb1 hbel b0 b1 b2 b3;go_wp2_with fail;refine(checkRoom_any G _ x l r _ (HV.out.below hb01) (by omega) HSI.out).mono ?_
     rintro e w2 ⟨rfl,hb2⟩;have hb02:=below_trans hb01 hb2;generalize Pp.roE G r=y at*;go_wp2;go_ret;exact⟨Pp.ret_int HE.out,hb02⟩
/-- A grant. -/
structure Gr where
 fo:ByteArray
 wh:ByteArray
 ri:Int
def GrAt (w:World) (b o:Nat) (g:Gr):Prop:=w.cell? ⟨b,o,none⟩=some (.string g.fo)∧w.cell? ⟨b,o+1,none⟩=some (.string g.wh)∧w.cell? ⟨b,o+2,none⟩=some (.int .i64 g.ri)
def LiesG (w:World) (v:Value) (G:List Gr):Prop:= ∃a cap,v= .slice a G.length cap∧G.length≤cap∧G.length≤1000000000000000∧ ∀i (h:i<G.length),∃b o,a=some ⟨b,o,none⟩∧b<w.heap.size∧GrAt w b (o+i*3) G[i]
theorem GrAt.below {w w':World} {b o:Nat} {g:Gr} (h:GrAt w b o g) (hb:b<w.heap.size) (hw:Below w.heap.size w w'):GrAt w' b o g:=
 ⟨(hw.cell (p:=⟨b,o,none⟩) hb).trans h.1,(hw.cell (p:=⟨b,o+1,none⟩) hb).trans h.2.1,(hw.cell (p:=⟨b,o+2,none⟩) hb).trans h.2.2⟩
theorem LiesG.below {w w':World} {v:Value} {G:List Gr} (h:LiesG w v G) (hw:Below w.heap.size w w'):LiesG w' v G:=by
 obtain⟨a,cap,hv,h1,h2,h3⟩:=h
 refine⟨a,cap,hv,h1,h2,fun i hi=>?_⟩
 obtain⟨b,o,ha,hb,he⟩:=h3 i hi
 exact⟨b,o,ha,Nat.lt_of_lt_of_le hb hw.size,he.below hb hw⟩
theorem liesG_nil (w:World):LiesG w (.slice none 0 0) []:=⟨none,0,rfl,Nat.le_refl _,by decide,fun i h=>absurd h (by simp)⟩
def SizedG (G:List Gr):Prop:= ∀g∈G,g.fo.size≤150000000000000∧g.wh.size≤150000000000000
theorem bxG3 {w w1:World} {a b c:Value} {T:TypeId} (h:Below (w.alloc (.cells #[a,b,c] T)).heap.size (w.alloc (.cells #[a,b,c] T)) w1):
    w1.cell? ⟨w.heap.size,0,none⟩=some a∧w1.cell? ⟨w.heap.size,1,none⟩=some b∧w1.cell? ⟨w.heap.size,2,none⟩=some c∧Below w.heap.size w w1∧w.heap.size<w1.heap.size:=by
 have hz:w.heap.size<(w.alloc (.cells #[a,b,c] T)).heap.size:=by simp
 refine⟨?_,?_,?_,((Below.refl _ _).alloc (Nat.le_refl _) _).trans (h.mono (Nat.le_of_lt hz)),Nat.lt_of_lt_of_le hz h.size⟩
 · exact(h.cell (p:=⟨w.heap.size,0,none⟩) hz).trans (by simp)
 · exact(h.cell (p:=⟨w.heap.size,1,none⟩) hz).trans (by simp)
 · exact(h.cell (p:=⟨w.heap.size,2,none⟩) hz).trans (by simp)
namespace Pp
def nm2 (g:Gr):Bool:=nameB g.fo.data.toList && nameB g.wh.data.toList
def grE (g:Gr):Int:=if nm2 g=true then(if g.ri<1∨3<g.ri then 3 else 0)else 1
end Pp

set_option maxRecDepth 100000 in
set_option maxHeartbeats 1000000 in
theorem checkGrant_any (g:Gr) (w:World) (hf:g.fo.size≤150000000000000) (hh:g.wh.size≤150000000000000):
    Calls Tryz.prog 79 #[.agg #[.string g.fo,.string g.wh,.int .i64 g.ri]] w fun e w'=>e= .returned (.int .i64 (Pp.grE g))∧Below w.heap.size w w':=by
 have hns:Pp.nmsE [g.fo,g.wh]=if Pp.nm2 g=true then 0 else 1:=by simp[Pp.nmsE,Pp.nm2]
 have hcs:(Pp.nmsE [g.fo,g.wh]=1∧Pp.grE g=1)∨(Pp.nmsE [g.fo,g.wh]=0∧g.ri<1∧Pp.grE g=3)∨(Pp.nmsE [g.fo,g.wh]=0∧1≤g.ri∧3<g.ri∧Pp.grE g=3)∨(Pp.nmsE [g.fo,g.wh]=0∧1≤g.ri∧g.ri≤3∧Pp.grE g=0):=by
  rw[hns,Pp.grE];cases Pp.nm2 g with
  |false=>left;simp
  |true=>
   right
   by_cases h1:g.ri<1
   · left;simp[h1]
   · right
     by_cases h3:3<g.ri
     · left;simp[h3];omega
     · right;simp;omega
 clear hns;rcases hcs with⟨hn,hE⟩|⟨hn,h1,hE⟩|⟨hn,h1,h2,hE⟩|⟨hn,h1,h2,hE⟩
 all_goals
  have HN:=ghid hn;have HE:=ghid hE;clear hn hE;go_enter Tryz.func79,Tryz.ntmps79
  go_wp2_with fail;refine(names_any [g.fo,g.wh] (w.heap.size+1) 0 2 _ (by simp) (fun i h=>by match i,h with|0,_=>exact Nat.le_trans hf (by decide)|1,_=>exact Nat.le_trans hh (by decide)) (by simp) (fun i h=>by match i,h with|0,_=>simp|1,_=>simp)).mono ?_
  rintro e w1 ⟨rfl,hb1⟩;rw[HN.out];have hb2:Below (w.alloc (.cells #[.string g.fo,.string g.wh,.int .i64 g.ri] 137)).heap.size (w.alloc (.cells #[.string g.fo,.string g.wh,.int .i64 g.ri] 137)) w1:=((Below.refl _ _).alloc (Nat.le_refl _) _).trans (hb1.mono (by simp));obtain⟨c0,c1,c2,hbw,hlt⟩:=bxG3 hb2
  clear hb1 hb2;go_wp2_with fail;go_ret;exact⟨by rw[HE.out];rfl,hbw⟩
end Go.Proofs.YtppdfeehhnofaaaGreatDoor
