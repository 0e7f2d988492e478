/- What the law's spoilEntries, spoilChanges and spoilCommits do: they write what is no slice, in rows of one's own. -/
import Derived.Test.YtdifomkoegmngaaGreatDoorRKA
import Derived.Test.YtdifomkoegmngaaGreatDoorRKB
import Derived.Test.YtdifomkoegmngaaGreatDoorRKG
import Derived.Test.YtdifomkoegmngaaGreatDoorProg
import Derived.WalkKit
import Derived.WalkSpells
import Derived.WalkLawsBesides
import Derived.Handy
import Derived.Test.YtdifomkoegmngaaGreatDoorRKC
set_option linter.unusedSimpArgs false
set_option linter.unusedVariables false
namespace Go.Proofs.YtdifomkoegmngaaGreatDoor
open Go.RowKit

/-- A value that is no slice. -/
def NonS:Value→Prop
 | .slice _ _ _=>False
 |_=>True
/-- Behind what is spoilt: what may be written still may be; slices lie as they did; what is no slice is none. -/
structure StW (w W:World):Prop where
 fr: ∀b x,(∃u,w.cell? ⟨b,x,none⟩=some u)→w.frozen? ⟨b,x,none⟩=false→W.frozen? ⟨b,x,none⟩=false
 sl: ∀b x a k c,w.cell? ⟨b,x,none⟩=some (.slice a k c)→W.cell? ⟨b,x,none⟩=some (.slice a k c)
 ns: ∀b x v,w.cell? ⟨b,x,none⟩=some v→NonS v→ ∃v',W.cell? ⟨b,x,none⟩=some v'∧NonS v'
theorem StW.refl (w:World):StW w w:=⟨fun _ _ _ h=>h,fun _ _ _ _ _ h=>h,fun _ _ v h hn=>⟨v,h,hn⟩⟩
theorem StW.has {w W:World} (h:StW w W) {b x:Nat} (hc: ∃u,w.cell? ⟨b,x,none⟩=some u): ∃u,W.cell? ⟨b,x,none⟩=some u:=by
 obtain⟨u,hu⟩:=hc
 cases u with
 |slice a k c=>exact⟨_,h.sl b x a k c hu⟩
 |_=>exact(h.ns b x _ hu trivial).imp fun _ h=>h.1
theorem StW.trans {a b c:World} (h:StW a b) (k:StW b c):StW a c:=
 ⟨fun g x hc hf=>k.fr g x (h.has hc) (h.fr g x hc hf),fun g x p q r hs=>k.sl g x p q r (h.sl g x p q r hs),fun g x v hv hn=>by
  obtain⟨v',h1,h2⟩:=h.ns g x v hv hn
  exact k.ns g x v' h1 h2⟩
theorem cell_in {w:World} {b x:Nat} {u:Value} (h:w.cell? ⟨b,x,none⟩=some u):b<w.heap.size:=by
 rcases Nat.lt_or_ge b w.heap.size with h1|h1
 · exact h1
 · simp[World.cell?,Array.getElem?_eq_none h1]at h
theorem StW.below {a b:World} (h:Below a.heap.size a b):StW a b:=
 ⟨fun g x hc hf=>by
  obtain⟨u,hu⟩:=hc
  exact(h.frozen (p:=⟨g,x,none⟩) (cell_in hu)).trans hf,fun g x p q r hs=>(h.cell (p:=⟨g,x,none⟩) (cell_in hs)).trans hs,fun g x v hv hn=>⟨v,(h.cell (p:=⟨g,x,none⟩) (cell_in hv)).trans hv,hn⟩⟩
theorem StW.set {w W:World} (h:StW w W) {b o:Nat} {u v:Value} (hu:W.cell? ⟨b,o,none⟩=some u) (hn:NonS u) (hv:NonS v):StW w (W.setCell ⟨b,o,none⟩ v):=h.trans<|by
 refine⟨fun g x hc hf=>?_,fun g x p q r hs=>?_,fun g x y hy hyn=>?_⟩
 · rw[World.frozen?_setCell];exact hf
 · rw[World.cell?_setCell_other (h:=fun e=>by
    injection e with e1 e2
    subst e1;subst e2;rw[hs]at hu;injection hu with hu
    subst hu;exact hn)]
   exact hs
 · by_cases hb:b=g∧o=x
   · obtain⟨rfl,rfl⟩:=hb
     exact⟨v,World.cell?_setCell_same' _ _ _ (by rw[hu];rfl),hv⟩
   · exact⟨y,by rw[World.cell?_setCell_other (h:=fun e=>hb (by injection e with e1 e2;exact⟨e1,e2⟩))];exact hy,hyn⟩
/-- A row that may be spoilt, c cells each, none a slice, in a block from B on. -/
def SpN (B c:Nat) (w:World) (v:Value):Prop:= ∃a n cap,v= .slice a n cap∧n≤1000000000000000∧(n=0∨ ∃b o,a=some ⟨b,o,none⟩∧B≤b∧ ∀x,x<n*c→w.frozen? ⟨b,o+x,none⟩=false∧ ∃u,w.cell? ⟨b,o+x,none⟩=some u∧NonS u)
theorem SpN.keep {B c:Nat} {w W:World} {v:Value} (h:SpN B c w v) (hk:StW w W):SpN B c W v:=by
 obtain⟨a,n,cap,hv,hn,h⟩:=h
 refine⟨a,n,cap,hv,hn,h.imp id fun⟨b,o,h1,h2,h3⟩=>⟨b,o,h1,h2,fun x hx=>?_⟩⟩
 obtain⟨h4,u,h5,h6⟩:=h3 x hx
 exact⟨hk.fr _ _ ⟨u,h5⟩ h4,hk.ns _ _ u h5 h6⟩
theorem SpN.mono {A B c:Nat} {w:World} {v:Value} (h:SpN B c w v) (hA:A≤B):SpN A c w v:=by
 obtain⟨a,n,cap,hv,hn,h⟩:=h
 exact⟨a,n,cap,hv,hn,h.imp id fun⟨b,o,h1,h2,h3⟩=>⟨b,o,h1,Nat.le_trans hA h2,h3⟩⟩
theorem own_fr {B g x:Nat} {w:World} {v:Value} (h:Own B w v) (hg:v.ownBlock=some g):w.frozen? ⟨g,x,none⟩=false:=by
 obtain⟨_,cur,T,hh⟩:=h g hg
 simp[World.frozen?,hh]
theorem spn_of {B c n cap:Nat} {w:World} {a:Option Addr} (hO:Own B w (.slice a n cap)) (hc:0<c) (hn:n≤1000000000000000) (h: ∀i,i<n→ ∃b o,a=some ⟨b,o,none⟩∧ ∀d,d<c→ ∃u,w.cell? ⟨b,o+i*c+d,none⟩=some u∧NonS u):SpN B c w (.slice a n cap):=by
 refine⟨a,n,cap,rfl,hn,?_⟩
 rcases Nat.eq_zero_or_pos n with h0|h0
 · exact Or.inl h0
 · obtain⟨b,o,rfl,_⟩:=h 0 h0
   refine Or.inr ⟨b,o,rfl,(hO b rfl).1,fun x hx=>⟨own_fr hO rfl,?_⟩⟩
   have hd:x/c<n:=Nat.div_lt_of_lt_mul (by rw[Nat.mul_comm];exact hx);obtain⟨b',o',ha,hu⟩:=h (x/c) hd
   cases ha
   have:=hu (x % c) (Nat.mod_lt _ hc)
   rw[Nat.add_assoc,Nat.mul_comm,Nat.div_add_mod]at this;exact this
theorem spn_tree {B:Nat} {w:World} {v:Value} {L:List En} (h:Lies w v L) (hO:Own B w v):SpN B 4 w v:=by
 obtain⟨a,cap,rfl,_,hn,hL⟩:=h
 exact spn_of hO (by decide) hn fun i hi=>by
  obtain⟨b,o,ha,_,e0,e1,e2,e3⟩:=hL i hi
  refine⟨b,o,ha,fun d hd=>?_⟩
  match d,hd with
  |0,_=>exact⟨_,e0,trivial⟩
  |1,_=>exact⟨_,e1,trivial⟩
  |2,_=>exact⟨_,e2,trivial⟩
  |3,_=>exact⟨_,e3,trivial⟩
theorem spn_ch {B:Nat} {w:World} {v:Value} {L:List Pp.Ch} (h:LiesC w v L) (hO:Own B w v):SpN B 5 w v:=by
 obtain⟨a,cap,rfl,_,hn,hL⟩:=h
 exact spn_of hO (by decide) hn fun i hi=>by
  obtain⟨b,o,ha,_,e0,e1,e2,e3,e4⟩:=hL i hi
  refine⟨b,o,ha,fun d hd=>?_⟩
  match d,hd with
  |0,_=>exact⟨_,e0,trivial⟩
  |1,_=>exact⟨_,e1,trivial⟩
  |2,_=>exact⟨_,e2,trivial⟩
  |3,_=>exact⟨_,e3,trivial⟩
  |4,_=>exact⟨_,e4,trivial⟩
/-- Commits that may be spoilt. -/
def SpO (B:Nat) (w:World) (v:Value):Prop:= ∃a n cap,v= .slice a n cap∧n≤1000000000000000∧(n=0∨ ∃b o,a=some ⟨b,o,none⟩∧B≤b∧ ∀i,i<n→w.frozen? ⟨b,o+i*3+1,none⟩=false∧(∃u,w.cell? ⟨b,o+i*3+1,none⟩=some u∧NonS u)∧ ∃u,w.cell? ⟨b,o+i*3+2,none⟩=some u∧SpN B 5 w u)
theorem SpO.keep {B:Nat} {w W:World} {v:Value} (h:SpO B w v) (hk:StW w W):SpO B W v:=by
 obtain⟨a,n,cap,hv,hn,h⟩:=h
 refine⟨a,n,cap,hv,hn,h.imp id fun⟨b,o,h1,h2,h3⟩=>⟨b,o,h1,h2,fun i hi=>?_⟩⟩
 obtain⟨h4,⟨u,h5,h6⟩,u2,h7,h8⟩:=h3 i hi
 have h9:=h8;obtain⟨a2,n2,c2,rfl,_⟩:=h8
 exact⟨hk.fr _ _ ⟨u,h5⟩ h4,hk.ns _ _ u h5 h6,_,hk.sl _ _ _ _ _ h7,h9.keep hk⟩
theorem SpO.mono {A B:Nat} {w:World} {v:Value} (h:SpO B w v) (hA:A≤B):SpO A w v:=by
 obtain⟨a,n,cap,hv,hn,h⟩:=h
 exact⟨a,n,cap,hv,hn,h.imp id fun⟨b,o,h1,h2,h3⟩=>⟨b,o,h1,Nat.le_trans hA h2,fun i hi=>(h3 i hi).imp id (And.imp id fun⟨u,h4,h5⟩=>⟨u,h4,h5.mono hA⟩)⟩⟩
theorem spo_own {B:Nat} {w:World} {v:Value} {l:List Co} (h:OwnO B w v l):SpO B w v:=by
 obtain⟨us,⟨hlen,hch⟩,⟨a,cap,rfl,h1,h2,h4,h3⟩,hO,hU⟩:=h
 rw[rowsO_len hlen]at hO h2⊢;refine⟨a,_,cap,rfl,h2,?_⟩
 rcases Nat.eq_zero_or_pos l.length with h0|h0
 · exact Or.inl h0
 · obtain⟨b,o,rfl,_⟩:=h3 0 (by rw[rowsO_len hlen];exact h0)
   refine Or.inr ⟨b,o,rfl,(hO b rfl).1,fun i hi=>⟨own_fr hO rfl,?_⟩⟩
   obtain⟨b',o',ha,_,he⟩:=h3 i (by rw[rowsO_len hlen];exact hi)
   cases ha
   have hr:=rowsO_at hlen hi;rw[List.getElem?_eq_getElem (by rw[rowsO_len hlen];exact hi)]at hr;injection hr with hr
   rw[hr]at he;have hiu:i<us.length:=by omega
   exact⟨⟨_,he 1 _ rfl,trivial⟩,_,he 2 _ rfl,spn_ch (hch i _ _ (List.getElem?_eq_getElem hi) (List.getElem?_eq_getElem hiu)) (hU _ (List.getElem_mem hiu))⟩
theorem cell_oth {W:World} {b x y:Nat} {u v:Value} (hne:x≠y) (h:W.cell? ⟨b,x,none⟩=some u):(W.setCell ⟨b,y,none⟩ v).cell? ⟨b,x,none⟩=some u:=by
 rw[World.cell?_setCell_other (h:=fun e=>hne (by injection e with _ e2;exact e2.symm))];exact h
set_option maxHeartbeats 2000000 in
theorem spoilM_any (v:Value) (B:Nat) (w:World) (h:SpN B 4 w v) (hBw:B≤w.heap.size):
    Calls Tryz.prog 20 #[v] w fun e w'=>e= .returned (.tuple #[])∧StW w w'∧Below B w w':=by
 obtain⟨a,n,cap,rfl,hn,h⟩:=h
 rcases h with rfl|⟨b,o,rfl,hB2,hB⟩
 · go_enter Tryz.func20,Tryz.ntmps20
   go_wp2_with fail;go_loopw [2] (fun i wr=>i= .int .i64 0∧wr=w) (fun _ _=>0)
   case atStart=>exact⟨rfl,rfl⟩
   case round=>
    obtain⟨rfl,rfl⟩:=hrel
    go_wp2_with fail;go_end0
    exact⟨rfl,StW.refl _,Below.refl _ _⟩
 · have HB:Hid (∀x,x<n*4→w.frozen? ⟨b,o+x,none⟩=false∧ ∃u,w.cell? ⟨b,o+x,none⟩=some u∧NonS u):=hB
   clear hB;go_enter Tryz.func20,Tryz.ntmps20
   go_wp2_with fail;go_loopw [2] (fun i wr=> ∃j:Nat,j≤n∧i= .int .i64 j∧Hid (StW w wr)∧Below B w wr) (fun i _=>n-(intOf i).toNat)
   case atStart=>exact⟨0,Nat.zero_le _,rfl,StW.refl _,Below.refl _ _⟩
   case round=>
    obtain⟨j,hj,rfl,HK,hbel⟩:=hrel
    by_cases hlt:j<n
    · have hjn:j*4+4≤n*4:=by omega
      have HK2: ∀x,x<n*4→wr.frozen? ⟨b,o+x,none⟩=false∧ ∃u,wr.cell? ⟨b,o+x,none⟩=some u∧NonS u:=fun x hx=>by
       obtain⟨h4,u,h5,h6⟩:=HB.out x hx
       exact⟨HK.out.fr _ _ ⟨u,h5⟩ h4,HK.out.ns _ _ u h5 h6⟩
      obtain⟨f0,u0,c0,n0⟩:=HK2 (j*4) (by omega)
      obtain⟨f1,u1,c1,n1⟩:=HK2 (j*4+1) (by omega)
      obtain⟨f2,u2,c2,n2⟩:=HK2 (j*4+2) (by omega)
      obtain⟨f3,u3,c3,n3⟩:=HK2 (j*4+3) (by omega)
      simp only[←Nat.add_assoc]at f1 c1 f2 c2 f3 c3;have HC0:=hid (And.intro c0 n0);have HC1:=hid (And.intro c1 n1);have HC2:=hid (And.intro c2 n2);have HC3:=hid (And.intro c3 n3);clear HK2 n0 n1 n2 n3;go_wp2_with fail;go_roundw
      case rel=>exact⟨j+1,by omega,by simp,(StW.set (v:= .int .i64 0) (StW.set (v:= .string ⟨#[33]⟩) (StW.set (v:= .bool false) (StW.set (v:= .string ⟨#[63]⟩) HK.out HC0.out.1 HC0.out.2 trivial) (cell_oth (y:=o+j*4) (by omega) (HC1.out.1)) HC1.out.2 trivial) (cell_oth (y:=o+j*4+1) (by omega) ((cell_oth (y:=o+j*4) (by omega) (HC2.out.1)))) HC2.out.2 trivial) (cell_oth (y:=o+j*4+2) (by omega) ((cell_oth (y:=o+j*4+1) (by omega) ((cell_oth (y:=o+j*4) (by omega) (HC3.out.1)))))) HC3.out.2 trivial),((((hbel.setCell hB2 _).setCell hB2 _).setCell hB2 _).setCell hB2 _)⟩
      case measure=>simp[intOf];omega
    · go_wp2_with fail
      go_end0
      exact⟨rfl,HK.out,hbel⟩
set_option maxHeartbeats 2000000 in
theorem spoilN_any (v:Value) (B:Nat) (w:World) (h:SpN B 5 w v) (hBw:B≤w.heap.size):
    Calls Tryz.prog 22 #[v] w fun e w'=>e= .returned (.tuple #[])∧StW w w'∧Below B w w':=by
 obtain⟨a,n,cap,rfl,hn,h⟩:=h
 rcases h with rfl|⟨b,o,rfl,hB2,hB⟩
 · go_enter Tryz.func22,Tryz.ntmps22
   go_wp2_with fail;go_loopw [2] (fun i wr=>i= .int .i64 0∧wr=w) (fun _ _=>0)
   case atStart=>exact⟨rfl,rfl⟩
   case round=>
    obtain⟨rfl,rfl⟩:=hrel
    go_wp2_with fail;go_end0
    exact⟨rfl,StW.refl _,Below.refl _ _⟩
 · have HB:Hid (∀x,x<n*5→w.frozen? ⟨b,o+x,none⟩=false∧ ∃u,w.cell? ⟨b,o+x,none⟩=some u∧NonS u):=hB
   clear hB;go_enter Tryz.func22,Tryz.ntmps22
   go_wp2_with fail;go_loopw [2] (fun i wr=> ∃j:Nat,j≤n∧i= .int .i64 j∧Hid (StW w wr)∧Below B w wr) (fun i _=>n-(intOf i).toNat)
   case atStart=>exact⟨0,Nat.zero_le _,rfl,StW.refl _,Below.refl _ _⟩
   case round=>
    obtain⟨j,hj,rfl,HK,hbel⟩:=hrel
    by_cases hlt:j<n
    · have hjn:j*5+5≤n*5:=by omega
      have HK2: ∀x,x<n*5→wr.frozen? ⟨b,o+x,none⟩=false∧ ∃u,wr.cell? ⟨b,o+x,none⟩=some u∧NonS u:=fun x hx=>by
       obtain⟨h4,u,h5,h6⟩:=HB.out x hx
       exact⟨HK.out.fr _ _ ⟨u,h5⟩ h4,HK.out.ns _ _ u h5 h6⟩
      obtain⟨f0,u0,c0,n0⟩:=HK2 (j*5) (by omega)
      obtain⟨f1,u1,c1,n1⟩:=HK2 (j*5+1) (by omega)
      obtain⟨f2,u2,c2,n2⟩:=HK2 (j*5+2) (by omega)
      obtain⟨f3,u3,c3,n3⟩:=HK2 (j*5+3) (by omega)
      obtain⟨f4,u4,c4,n4⟩:=HK2 (j*5+4) (by omega)
      simp only[←Nat.add_assoc]at f1 c1 f2 c2 f3 c3 f4 c4;have HC0:=hid (And.intro c0 n0);have HC1:=hid (And.intro c1 n1);have HC2:=hid (And.intro c2 n2);have HC3:=hid (And.intro c3 n3);have HC4:=hid (And.intro c4 n4);clear HK2 n0 n1 n2 n3 n4;go_wp2_with fail;go_roundw
      case rel=>exact⟨j+1,by omega,by simp,(StW.set (v:= .int .i64 0) (StW.set (v:= .string ⟨#[]⟩) (StW.set (v:= .string ⟨#[]⟩) (StW.set (v:= .string ⟨#[]⟩) (StW.set (v:= .int .i64 77) HK.out HC0.out.1 HC0.out.2 trivial) (cell_oth (y:=o+j*5) (by omega) (HC1.out.1)) HC1.out.2 trivial) (cell_oth (y:=o+j*5+1) (by omega) ((cell_oth (y:=o+j*5) (by omega) (HC2.out.1)))) HC2.out.2 trivial) (cell_oth (y:=o+j*5+2) (by omega) ((cell_oth (y:=o+j*5+1) (by omega) ((cell_oth (y:=o+j*5) (by omega) (HC3.out.1)))))) HC3.out.2 trivial) (cell_oth (y:=o+j*5+3) (by omega) ((cell_oth (y:=o+j*5+2) (by omega) ((cell_oth (y:=o+j*5+1) (by omega) ((cell_oth (y:=o+j*5) (by omega) (HC4.out.1)))))))) HC4.out.2 trivial),(((((hbel.setCell hB2 _).setCell hB2 _).setCell hB2 _).setCell hB2 _).setCell hB2 _)⟩
      case measure=>simp[intOf];omega
    · go_wp2_with fail
      go_end0
      exact⟨rfl,HK.out,hbel⟩
set_option maxHeartbeats 2000000 in
theorem spoilO_any (v:Value) (B:Nat) (w:World) (h:SpO B w v) (hBw:B≤w.heap.size):
    Calls Tryz.prog 21 #[v] w fun e w'=>e= .returned (.tuple #[])∧StW w w'∧Below B w w':=by
 obtain⟨a,n,cap,rfl,hn,h⟩:=h
 rcases h with rfl|⟨b,o,rfl,hB2,hB⟩
 · go_enter Tryz.func21,Tryz.ntmps21
   go_wp2_with fail;go_loopw [2] (fun i wr=>i= .int .i64 0∧wr=w) (fun _ _=>0)
   case atStart=>exact⟨rfl,rfl⟩
   case round=>
    obtain⟨rfl,rfl⟩:=hrel
    go_wp2_with fail;go_end0
    exact⟨rfl,StW.refl _,Below.refl _ _⟩
 · have HB:=hid hB
   clear hB;go_enter Tryz.func21,Tryz.ntmps21
   go_wp2_with fail;go_loopw [2] (fun i wr=> ∃j:Nat,j≤n∧i= .int .i64 j∧Hid (StW w wr)∧Below B w wr) (fun i _=>n-(intOf i).toNat)
   case atStart=>exact⟨0,Nat.zero_le _,rfl,StW.refl _,Below.refl _ _⟩
   case round=>
    obtain⟨j,hj,rfl,HK,hbel⟩:=hrel
    by_cases hlt:j<n
    · obtain⟨h4,⟨u,h5,h6⟩,u2,h7,h8⟩:=HB.out j hlt
      have HS:=hid (h8.keep HK.out);have H5:=hid (show w.frozen? ⟨b,o+j*3+1,none⟩=false∧w.cell? ⟨b,o+j*3+1,none⟩=some u∧NonS u from⟨h4,h5,h6⟩);obtain⟨a2,n2,cp2,rfl,_⟩:=h8
      have c2:=HK.out.sl _ _ _ _ _ h7;clear h4 h5 h6 h7;have hbs:=hbel.size;go_wp2_with fail;refine(spoilN_any _ B _ HS.out (by omega)).mono ?_
      rintro e w1 ⟨rfl,hk1,hb1⟩;have hk01:=HK.out.trans hk1;have HK01:=hid hk01;have f1:=hk01.fr _ _ ⟨u,H5.out.2.1⟩ H5.out.1;obtain⟨v1,c1,n1⟩:=hk01.ns _ _ u H5.out.2.1 H5.out.2.2
      have HC1:=hid (And.intro c1 n1);have hb01:=hbel.trans hb1;clear hk01 hk1 hb1 hbel c2 n1;go_wp2_with fail;go_roundw
      case rel=>exact⟨j+1,by omega,by simp,StW.set (v:= .string ⟨#[63]⟩) HK01.out HC1.out.1 HC1.out.2 trivial,hb01.setCell hB2 _⟩
      case measure=>simp[intOf];omega
    · go_wp2_with fail
      go_end0
      exact⟨rfl,HK.out,hbel⟩
namespace Pp
theorem cls (c:UInt8):(97≤(c.toNat:Int)∧(c.toNat:Int)≤122)∨(65≤(c.toNat:Int)∧(c.toNat:Int)≤90)∨(48≤(c.toNat:Int)∧(c.toNat:Int)≤57)∨
    (c.toNat:Int)=45∨(c.toNat:Int)=95∨(c.toNat:Int)=46∨(c.toNat:Int)=40∨(c.toNat:Int)=41∨(c.toNat:Int)=32∨okB c=false:=by
 cases h:okB c with
 |false=>simp
 |true=>have:=(okB_iff c).1 h;omega
theorem not_ok (c:UInt8) (h:okB c=false):(c.toNat:Int)<32∨(32<(c.toNat:Int)∧(c.toNat:Int)<40)∨(41<(c.toNat:Int)∧(c.toNat:Int)<45)∨(46<(c.toNat:Int)∧(c.toNat:Int)<48)∨
    (57<(c.toNat:Int)∧(c.toNat:Int)<65)∨(90<(c.toNat:Int)∧(c.toNat:Int)<95)∨(95<(c.toNat:Int)∧(c.toNat:Int)<97)∨122<(c.toNat:Int):=by
 have h1: ¬(okB c=true):=by simp[h]
 rw[okB_iff]at h1;omega
def goodTo (s:ByteArray) (k:Nat):Prop:=(s.data.toList.take k).all okB=true∧ ∀j (h:j<s.size),j<k→(j=0∨j=s.size-1)→(s[j].toNat:Int)≠32
theorem good_zero (s:ByteArray):goodTo s 0:=⟨by simp,fun j h h1=>absurd h1 (Nat.not_lt_zero _)⟩
theorem good_step (s:ByteArray) (k:Nat) (hk:k<s.size) (h:goodTo s k) (h1:okB s[k]=true) (h2:(k=0∨k=s.size-1)→(s[k].toNat:Int)≠32):goodTo s (k+1):=by
 refine⟨all_snoc s k hk h.1 h1,fun j hj hj2 hj3=>?_⟩
 by_cases e:j=k
 · subst e;exact h2 hj3
 · exact h.2 j hj (by omega) hj3
theorem good_end (s:ByteArray) (h:goodTo s s.size) (h1:1≤s.size) (h2:s.size≤20) (h3:s.toList≠[46]) (h4:s.toList≠[46,46]):true=nameB s.data.toList:=
 nameB_yes s h1 h2 h3 h4 (by omega) (h.2 0 (by omega) (by omega) (Or.inl rfl)) (by omega) (h.2 (s.size-1) (by omega) (by omega) (Or.inr rfl))
  (by have:=h.1;rwa [List.take_of_length_le (by rw[←Lib.size_eq];exact Nat.le_refl _)]at this)
theorem blank_ok (c:UInt8) (h:(c.toNat:Int)=32):okB c=true:=(okB_iff c).2 (by omega)
end Pp

set_option maxRecDepth 100000 in
set_option maxHeartbeats 2000000 in
theorem rIsName_any (s:ByteArray) (w:World) (hs:s.size≤150000000000000):
    Calls Tryz.prog 102 #[.string s] w fun e w'=>e= .returned (.bool (Pp.nameB s.data.toList))∧w'=w:=by
 go_enter Tryz.func102,Tryz.ntmps102
 go_wp2_with fail;go_loop [3] (fun i=> ∃k:Nat,k≤s.size∧i= .int .i64 k∧Hid (Pp.goodTo s k)) (fun i=>s.size-(intOf i).toNat)
 case atStart=>exact⟨0,Nat.zero_le _,rfl,Pp.good_zero s⟩
 case round=>
  obtain⟨k,hk,rfl,HG⟩:=hrel
  by_cases hlt:k<s.size
  · rcases Pp.cls s[k]with⟨h1,h2⟩|⟨h1,h2⟩|⟨h1,h2⟩|h|h|h|h|h|h|h
    iterate 3
     · have HK:=hid (show Pp.okB s[k]=true from(Pp.okB_iff _).2 (by omega))
       have HB:=hid (show(k=0∨k=s.size-1)→(s[k].toNat:Int)≠32 from fun _=>by omega);go_wp2_with fail;go_round
       case rel=>exact⟨k+1,by omega,by go_num,Pp.good_step s k hlt HG.out HK.out HB.out⟩
       case measure=>simp[intOf];omega
    iterate 5
     · have HK:=hid (show Pp.okB s[k]=true from(Pp.okB_iff _).2 (by omega))
       have HB:=hid (show(k=0∨k=s.size-1)→(s[k].toNat:Int)≠32 from fun _=>by omega);go_wp2_with fail;go_round
       case rel=>exact⟨k+1,by omega,by go_num,Pp.good_step s k hlt HG.out HK.out HB.out⟩
       case measure=>simp[intOf];omega
    · have HK:=hid (show Pp.okB s[k]=true from Pp.blank_ok _ h)
      by_cases hk0:k=0
      · clear HK
        subst hk0;have HF:Hid (false=Pp.nameB s.data.toList):=Pp.nameB_head s hlt h;go_wp2_with fail;go_ret;exact⟨Pp.ret_bool HF.out,rfl⟩
      by_cases hk1:k=s.size-1
      · have HF:Hid (false=Pp.nameB s.data.toList):=Pp.nameB_last s (by omega) (by subst hk1;exact h)
        have hk2:((k:Int)==(s.size:Int)-1)=true:=by rw[beq_iff_eq];omega
        have hk3:((k:Int)==0)=false:=by rw[beq_eq_false_iff_ne];omega
        clear hk1 hk0;go_wp2_with fail;go_ret;exact⟨Pp.ret_bool HF.out,rfl⟩
      have HB:=hid (show(k=0∨k=s.size-1)→(s[k].toNat:Int)≠32 from fun e=>by omega);have hk2:((k:Int)==(s.size:Int)-1)=false:=by rw[beq_eq_false_iff_ne];omega
      have hk3:((k:Int)==0)=false:=by rw[beq_eq_false_iff_ne];omega
      clear hk1 hk0;go_wp2_with fail;go_round
      case rel=>exact⟨k+1,by omega,by go_num,Pp.good_step s k hlt HG.out HK.out HB.out⟩
      case measure=>simp[intOf];omega
    · have HF:Hid (false=Pp.nameB s.data.toList):=Pp.nameB_bad s k hlt h
      rcases Pp.not_ok _ h with g1|⟨g1,g2⟩|⟨g1,g2⟩|⟨g1,g2⟩|⟨g1,g2⟩|⟨g1,g2⟩|⟨g1,g2⟩|g1
      all_goals
       clear h;go_wp2_with fail;go_ret;exact⟨Pp.ret_bool HF.out,rfl⟩
  · obtain rfl:k=s.size:=by omega
    clear hlt hk;cases c0:s.toList.isEmpty with
    |true=>
     have HF:=hid (show false=Pp.nameB s.data.toList from Pp.nameB_no s (Or.inl (by rw[Lib.toList_data]at c0;rw[Lib.size_eq];rw[List.isEmpty_iff]at c0;rw[c0];decide)));go_wp2_with fail;go_ret;exact⟨Pp.ret_bool HF.out,rfl⟩
    |false=>
    by_cases c2:20<(s.size:Int)
    · have HF:=hid (show false=Pp.nameB s.data.toList from Pp.nameB_no s (Or.inr (Or.inl (by omega))))
      go_wp2_with fail;go_ret;exact⟨Pp.ret_bool HF.out,rfl⟩
    cases c3:(s.toList==[46])with
    |true=>
     have HF:=hid (show false=Pp.nameB s.data.toList from Pp.nameB_no s (Or.inr (Or.inr (Or.inl (by simpa using c3)))));go_wp2_with fail;go_ret;exact⟨Pp.ret_bool HF.out,rfl⟩
    |false=>
    cases c4:(s.toList==[46,46])with
    |true=>
     have HF:=hid (show false=Pp.nameB s.data.toList from Pp.nameB_no s (Or.inr (Or.inr (Or.inr (by simpa using c4)))));go_wp2_with fail;go_ret;exact⟨Pp.ret_bool HF.out,rfl⟩
    |false=>
     have HF:=hid (show true=Pp.nameB s.data.toList from Pp.good_end s HG.out (by
      rw[Lib.toList_data]at c0;rw[Lib.size_eq];cases e:s.data.toList with
      |nil=>rw[e]at c0;cases c0
      |cons _ _=>simp) (by omega) (by simpa using c3) (by simpa using c4))
     go_wp2_with fail;go_ret;exact⟨Pp.ret_bool HF.out,rfl⟩
end Go.Proofs.YtdifomkoegmngaaGreatDoor
namespace Go.Proofs.YtdifomkoegmngaaGreatDoor
open Go.RowKit

namespace Pp
def vs (l:List (List UInt8)):List Value:=l.map fun x=> .string ⟨x.toArray⟩
theorem vs_snoc (l:List (List UInt8)) (x:List UInt8):vs l++[.string ⟨x.toArray⟩]=vs (l++[x]):=by simp[vs]
theorem piece (s:ByteArray) (f k:Nat):s.extract f k=⟨((s.data.toList.drop f).take (k-f)).toArray⟩:=bytes_eq (Lib.extract_data s f k)
theorem piece_end (s:ByteArray) (f:Nat):s.extract f s.size=⟨(s.data.toList.drop f).toArray⟩:=bytes_eq (by rw[Lib.extract_data];exact List.take_of_length_le (by rw[List.length_drop,←Lib.size_eq];exact Nat.le_refl _))
theorem drop_split (s:ByteArray) (f k:Nat) (hf:f≤k) (hk:k<s.size):s.data.toList.drop f=(s.data.toList.drop f).take (k-f)++s[k]::s.data.toList.drop (k+1):=by
 have hl:k<s.data.toList.length:=by simpa using hk
 conv=>lhs;rw[←List.take_append_drop (k-f) (s.data.toList.drop f)]
 rw[List.drop_drop,show f+(k-f)=k by omega,List.drop_eq_getElem_cons hl,byte_at' s k hk hl]
theorem seg_snoc (s:ByteArray) (f k:Nat) (hf:f≤k) (hk:k<s.size):(s.data.toList.drop f).take (k+1-f)=(s.data.toList.drop f).take (k-f)++[s[k]]:=by
 have hl:k<s.data.toList.length:=by simpa using hk
 have h2:k-f<(s.data.toList.drop f).length:=by rw[List.length_drop];omega
 rw[show k+1-f=(k-f)+1 by omega,List.take_succ_eq_append_getElem h2,List.getElem_drop];congr 2
 rw[←byte_at' s k hk hl];congr 1
 omega
/-- After k bytes: the names that are whole, and where the next one begins. -/
def cutTo (s:ByteArray) (dn:List (List UInt8)) (f k:Nat):Prop:=nm s.data.toList=dn++nm (s.data.toList.drop f)∧47∉(s.data.toList.drop f).take (k-f)∧dn.length≤k∧f≤k
theorem cut_zero (s:ByteArray):cutTo s [] 0 0:=⟨by simp,by simp,by simp,Nat.le_refl _⟩
theorem cut_slash (s:ByteArray) {dn:List (List UInt8)} {f k:Nat} (hk:k<s.size) (h:cutTo s dn f k) (hc:(s[k].toNat:Int)=47):cutTo s (dn++[(s.data.toList.drop f).take (k-f)]) (k+1) (k+1):=by
 have e:s[k]=47:=UInt8.toNat_inj.1 (by simpa using Int.ofNat.inj hc);refine⟨?_,by simp,by have:=h.2.2.1;simp;omega,Nat.le_refl _⟩
 have e2:=drop_split s f k h.2.2.2 hk;rw[e]at e2
 have e3:nm (s.data.toList.drop f)=(s.data.toList.drop f).take (k-f)::nm (s.data.toList.drop (k+1)):=by
  conv=>lhs;rw[e2]
  exact nm_cut _ _ h.2.1
 rw[h.1,e3];simp
theorem cut_other (s:ByteArray) {dn:List (List UInt8)} {f k:Nat} (hk:k<s.size) (h:cutTo s dn f k) (hc:(s[k].toNat:Int)≠47):cutTo s dn f (k+1):=by
 refine⟨h.1,?_,by have:=h.2.2.1;omega,by have:=h.2.2.2;omega⟩
 rw[seg_snoc s f k h.2.2.2 hk];intro hm;rcases List.mem_append.1 hm with hm|hm
 · exact h.2.1 hm
 · rw[List.mem_singleton]at hm
   exact hc (by rw[←hm];rfl)
theorem cut_end (s:ByteArray) {dn:List (List UInt8)} {f:Nat} (h:cutTo s dn f s.size):nm s.data.toList=dn++[s.data.toList.drop f]:=by
 rw[h.1,nm_none];have:=h.2.1
 rwa [List.take_of_length_le (by rw[List.length_drop,←Lib.size_eq];exact Nat.le_refl _)]at this
end Pp

theorem Tryz.infoS:(Tryz.prog.info? 9).map (fun i=>(i.zero,i.size,i.bytes))=some (some (.string ⟨#[]⟩),1,16):=by kernel_rfl
set_option maxRecDepth 100000 in
set_option maxHeartbeats 1000000 in
theorem rNames_any (s:ByteArray) (w:World) (hs:s.size≤1000000000):
    Calls Tryz.prog 98 #[.string s] w fun e w'=> ∃v,e= .returned v∧w'.ownsRow w.heap.size 9 1 v (Pp.nm s.data.toList).length (Pp.vs (Pp.nm s.data.toList))∧Below w.heap.size w w':=by
 obtain⟨i0,hi,hz0,hz1,hz2⟩:=info_parts Tryz.infoS
 go_enter Tryz.func98,Tryz.ntmps98
 go_wp2_with fail
 go_loopw [3,4,5] (fun v fr i wr=> ∃(dn:List (List UInt8)) (f k:Nat),k≤s.size∧f≤k∧dn.length≤k∧fr= .int .i64 f∧i= .int .i64 k∧wr.ownsRow w.heap.size 9 1 v dn.length (Pp.vs dn)∧Below w.heap.size w wr∧Hid (Pp.cutTo s dn f k))
  (fun _ _ i _=>s.size-(intOf i).toNat)
 case atStart=>exact⟨[],0,0,Nat.zero_le _,Nat.le_refl _,Nat.le_refl _,rfl,rfl,World.ownsRow_nil _ _ _ _,Below.refl _ _,Pp.cut_zero s⟩
 case round=>
  obtain⟨dn,f,k,hk,hf,hd,rfl,rfl,hown,hbel,HC⟩:=hrel
  by_cases hlt:k<s.size
  · cases hc:((s[k].toNat:Int)==47)with
    |true=>
     have HX:=hid (show(s[k].toNat:Int)=47 from by simpa using hc);go_wp2_with (at_builtin;refine wpList_append_own _ rfl _ _ 125 rfl w.heap.size 9 i0 (.string ⟨#[]⟩) 1 16 Tryz.underlying125 hi hz0 hz1 hz2 rfl (by decide) _ _ _ rfl (hown.alloc _) ⟨wr.heap.size,0,none⟩ 1 1 [.string (s.extract f k)] rfl rfl ?c1 ?c2 ?c3 ?c4 ?c5 ?_)
     case c1=>
      intro j u hj;match j,hj with
      |0,hj=>simp at hj;subst hj;simp[Addr.add]
     case c2=>intro u hu;simp at hu;subst hu;rfl
     case c3=>unfold maxLen;omega
     case c4=>omega
     case c5=>have:=hbel.size;simp;omega
     intro v' w1 hown' hgrow _;have hb1:Below w.heap.size w w1:=(hbel.alloc hbel.size _).grown hgrow (by have:=hbel.size;simp;omega) (fun g hg=>(hown.lt g hg).1);rw[Pp.piece,Pp.vs_snoc]at hown';have HO:Hid (w1.ownsRow w.heap.size 9 1 v' (dn.length+1) (Pp.vs (dn++[(s.data.toList.drop f).take (k-f)]))):=hown';clear hown' hgrow hown hbel;go_wp2;go_roundw
     case rel=>exact⟨dn++[(s.data.toList.drop f).take (k-f)],k+1,k+1,by omega,Nat.le_refl _,by simp;omega,by simp,by simp,by rw[List.length_append];exact HO.out,hb1,Pp.cut_slash s hlt HC.out HX.out⟩
     case measure=>simp[intOf];omega
    |false=>
     have HX:=hid (show(s[k].toNat:Int)≠47 from by simpa using hc);go_wp2_with fail;go_roundw
     case rel=>exact⟨dn,f,k+1,by omega,by omega,by omega,rfl,by simp,hown,hbel,Pp.cut_other s hlt HC.out HX.out⟩
     case measure=>simp[intOf];omega
  · obtain rfl:k=s.size:=by omega
    go_wp2_with (at_builtin;refine wpList_append_own _ rfl _ _ 125 rfl w.heap.size 9 i0 (.string ⟨#[]⟩) 1 16 Tryz.underlying125 hi hz0 hz1 hz2 rfl (by decide) _ _ _ rfl (hown.alloc _) ⟨wr.heap.size,0,none⟩ 1 1 [.string (s.extract f s.size)] rfl rfl ?d1 ?d2 ?d3 ?d4 ?d5 ?_)
    case d1=>
     intro j u hj;match j,hj with
     |0,hj=>simp at hj;subst hj;simp[Addr.add]
    case d2=>intro u hu;simp at hu;subst hu;rfl
    case d3=>unfold maxLen;omega
    case d4=>omega
    case d5=>have:=hbel.size;simp;omega
    intro v' w1 hown' hgrow _;have hb1:Below w.heap.size w w1:=(hbel.alloc hbel.size _).grown hgrow (by have:=hbel.size;simp;omega) (fun g hg=>(hown.lt g hg).1);rw[Pp.piece_end,Pp.vs_snoc]at hown';have HO:Hid (w1.ownsRow w.heap.size 9 1 v' (dn.length+1) (Pp.vs (dn++[s.data.toList.drop f]))):=hown';clear hown' hgrow hown hbel;go_wp2;go_ret;exact⟨v',rfl,by rw[Pp.cut_end s HC.out,List.length_append];exact HO.out,hb1⟩
end Go.Proofs.YtdifomkoegmngaaGreatDoor
namespace Go.Proofs.YtdifomkoegmngaaGreatDoor
open Go.RowKit

theorem Pp.nm_mem_len: ∀(l:List UInt8) (x:List UInt8),x∈Pp.nm l→x.length≤l.length
 |[],x,h=>by simp[Pp.nm]at h;simp[h]
 |c::r,x,h=>by
  rw[Pp.nm]at h;split at h
  · rcases List.mem_cons.1 h with h|h
    · simp[h]
    · have:=Pp.nm_mem_len r x h;simp;omega
  · cases e:Pp.nm r with
    |nil=>exact absurd e (Pp.nm_ne r)
    |cons y t=>
     rw[e]at h;rcases List.mem_cons.1 h with h|h
     · have:=Pp.nm_mem_len r y (by rw[e];simp);rw[h];simp;omega
     · have:=Pp.nm_mem_len r x (by rw[e];simp[h]);simp;omega
theorem rNames_at (s:ByteArray) (w:World) (hs:s.size≤1000000000):
    Calls Tryz.prog 98 #[.string s] w fun e w'=> ∃g cap,e= .returned (.slice (some ⟨g,0,none⟩) (Pp.nm s.data.toList).length cap)∧(Pp.nm s.data.toList).length≤cap∧cap≤maxLen∧w.heap.size≤g∧g<w'.heap.size∧
     (∀i (h:i<(Pp.nm s.data.toList).length),w'.cell? ⟨g,i,none⟩=some (.string ⟨((Pp.nm s.data.toList)[i]).toArray⟩))∧Below w.heap.size w w':=by
 refine(rNames_any s w hs).mono ?_
 rintro e w' ⟨v,rfl,hown,hb⟩;obtain⟨hl,h2⟩:=hown
 rcases h2 with⟨_,h0⟩|⟨g,cap,cur,rfl,hg,hh,hn,hm,hz,htake⟩
 · exact absurd (List.length_eq_zero_iff.1 h0) (Pp.nm_ne _)
 · have hlt:g<w'.heap.size:=by
    rcases Nat.lt_or_ge g w'.heap.size with h|h
    · exact h
    · rw[Array.getElem?_eq_none h]at hh;cases hh
   refine⟨g,cap,rfl,hn,hm,hg,hlt,fun i h=>?_,hb⟩
   have ho:w'.ownsRow w.heap.size 9 1 (.slice (some ⟨g,0,none⟩) (Pp.nm s.data.toList).length cap) (Pp.nm s.data.toList).length (Pp.vs (Pp.nm s.data.toList)):=⟨hl,.inr ⟨g,cap,cur,rfl,hg,hh,hn,hm,hz,htake⟩⟩
   rw[ho.cellAt i (by omega)];simp[Pp.vs,h]
set_option maxHeartbeats 400000 in
theorem rTooGreat_any (s:ByteArray) (w:World) (hs:s.size≤1000000000):
    Calls Tryz.prog 99 #[.string s] w fun e w'=>e= .returned (.bool (Pp.big s.data.toList))∧Below w.heap.size w w':=by
 have hn:(Pp.nm s.data.toList).length≤s.size+1:=by have:=Pp.nm_len_le s.data.toList;rwa [←Lib.size_eq]at this
 have hb1:(6:Int)<(Pp.nm s.data.toList).length→true=Pp.big s.data.toList:=fun h=>by
  symm;simp only[Pp.big,Bool.or_eq_true,decide_eq_true_eq];omega
 have hb2:(80:Int)<s.size→true=Pp.big s.data.toList:=fun h=>by
  symm;simp only[Pp.big,Bool.or_eq_true,decide_eq_true_eq,←Lib.size_eq];omega
 have hb3:((Pp.nm s.data.toList).length:Int)≤6→(s.size:Int)≤80→false=Pp.big s.data.toList:=fun h1 h2=>by
  symm;simp only[Pp.big,Bool.or_eq_false_iff,decide_eq_false_iff_not,←Lib.size_eq];omega
 by_cases c1:(6:Int)<(Pp.nm s.data.toList).length
 · have H:Hid (true=Pp.big s.data.toList):=hb1 c1
   clear hb1 hb2 hb3;go_enter Tryz.func99,Tryz.ntmps99
   go_wp2_with fail;refine(rNames_at s _ hs).mono ?_
   rintro e w1 ⟨g,cap,rfl,_,_,_,_,_,hb⟩;go_wp2;go_ret;exact⟨Pp.ret_bool H.out,hb⟩
 by_cases c2:(80:Int)<s.size
 · have H:Hid (true=Pp.big s.data.toList):=hb2 c2
   clear hb1 hb2 hb3;go_enter Tryz.func99,Tryz.ntmps99
   go_wp2_with fail;refine(rNames_at s _ hs).mono ?_
   rintro e w1 ⟨g,cap,rfl,_,_,_,_,_,hb⟩;go_wp2;go_ret;exact⟨Pp.ret_bool H.out,hb⟩
 · have H:Hid (false=Pp.big s.data.toList):=hb3 (by omega) (by omega)
   clear hb1 hb2 hb3;go_enter Tryz.func99,Tryz.ntmps99
   go_wp2_with fail;refine(rNames_at s _ hs).mono ?_
   rintro e w1 ⟨g,cap,rfl,_,_,_,_,_,hb⟩;go_wp2;go_ret;exact⟨Pp.ret_bool (by rw[←H.out];simp;omega),hb⟩
set_option maxHeartbeats 600000 in
theorem rCheck_any (s:ByteArray) (w:World) (hs:s.size≤1000000000):
    Calls Tryz.prog 82 #[.string s] w fun e w'=>e= .returned (.int .i64 (Pp.chk s.data.toList))∧Below w.heap.size w w':=by
 have hn:(Pp.nm s.data.toList).length≤s.size+1:=by have:=Pp.nm_len_le s.data.toList;rwa [←Lib.size_eq]at this
 obtain⟨L,hL⟩: ∃L,L=Pp.nm s.data.toList:=⟨_,rfl⟩
 have HL:Hid (L=Pp.nm s.data.toList):=hL;rw[←hL]at hn
 have hsz: ∀i (h:i<L.length),(L[i]).length≤s.size:=by
  intro i h;have:=Pp.nm_mem_len s.data.toList L[i] (by rw[←hL];exact List.getElem_mem h)
  rwa [←Lib.size_eq]at this
 clear hL;go_enter Tryz.func82,Tryz.ntmps82
 go_wp2_with fail;refine(rNames_at s _ hs).mono ?_
 rintro e w1 ⟨g,cap,rfl,hc1,hc2,hg1,hg2,hcell,hb⟩;rw[←HL.out]at hc1 hcell⊢;have HC:Hid (∀i (h:i<L.length),w1.cell? ⟨g,i,none⟩=some (.string ⟨(L[i]).toArray⟩)):=hcell;clear hcell;go_wp2_with fail;go_loopw [4] (fun i wr=> ∃k:Nat,k≤L.length∧i= .int .i64 k∧Hid ((L.take k).all Pp.nameB=true)∧wr=w1) (fun i _=>L.length-(intOf i).toNat)
 case atStart=>exact⟨0,Nat.zero_le _,rfl,rfl,rfl⟩
 case round=>
  obtain⟨k,hk,rfl,HA,rfl⟩:=hrel
  by_cases hlt:k<L.length
  · have hce:=HC.out k hlt
    cases hnm:Pp.nameB L[k]with
    |true=>
     have HN:Hid (Pp.nameB L[k]=true):=hnm;clear hnm;go_wp2_with fail;refine(rIsName_any _ _ (by rw[Pp.sz];have:=hsz k hlt;omega)).mono ?_
     rintro e w2 ⟨rfl,rfl⟩;simp only[HN.out];go_wp2_with fail;go_roundw
     case rel=>exact⟨k+1,by omega,by simp,(by rw[List.take_succ_eq_append_getElem hlt];exact Pp.all_add HA.out HN.out:(L.take (k+1)).all Pp.nameB=true),trivial⟩
     case measure=>simp[intOf];omega
    |false=>
     have HN:Hid (Pp.nameB L[k]=false):=hnm;clear hnm;go_wp2_with fail;refine(rIsName_any _ _ (by rw[Pp.sz];have:=hsz k hlt;omega)).mono ?_
     rintro e w2 ⟨rfl,rfl⟩;simp only[HN.out];go_wp2_with fail;go_ret;exact⟨Pp.ret_int (Pp.chk_one s (dn:=L.take k) (r:=L.drop (k+1)) (n:=L[k]) (by rw[←HL.out,←List.drop_eq_getElem_cons hlt,List.take_append_drop]) HN.out),hb⟩
  · have HB:=hid (show L.all Pp.nameB=true from by have:=HA.out;rwa [List.take_of_length_le (by omega)]at this)
    cases hbig:Pp.big s.data.toList with
    |true=>
     have HG:Hid (Pp.big s.data.toList=true):=hbig;clear hbig;go_wp2_with fail;refine(rTooGreat_any s _ hs).mono ?_
     rintro e w2 ⟨rfl,hb2⟩;simp only[HG.out];go_wp2;go_ret;exact⟨Pp.ret_int (by rw[Pp.chk,←HL.out,if_pos HB.out,if_pos HG.out]),hb.trans (hb2.mono hb.size)⟩
    |false=>
     have HG:Hid (Pp.big s.data.toList=false):=hbig;clear hbig;go_wp2_with fail;refine(rTooGreat_any s _ hs).mono ?_
     rintro e w2 ⟨rfl,hb2⟩;simp only[HG.out];go_wp2;go_ret;exact⟨Pp.ret_int (by rw[Pp.chk,←HL.out,if_pos HB.out,if_neg (by rw[HG.out];decide)]),hb.trans (hb2.mono hb.size)⟩
set_option maxHeartbeats 2000000 in
theorem changeForm_any (k:Int) (p q t:ByteArray) (b:Int) (w:World) (hp:p.size≤1000000000) (hq:q.size≤1000000000) (ht:t.size≤1000000000000000):
    Calls Tryz.prog 93 #[.agg #[.int .i64 k,.string p,.string q,.string t,.int .i64 b]] w fun e w'=>e= .returned (.int .i64 (Pp.chgE ⟨k,p,q,t,b⟩))∧Below w.heap.size w w':=by
 by_cases h1:k<1
 · have HE:=hid (show 7=Pp.chgE ⟨k,p,q,t,b⟩from by rw[Pp.chgE,if_pos (Or.inl h1)])
   go_enter Tryz.func93,Tryz.ntmps93
   go_wp2;go_ret;exact⟨Pp.ret_int HE.out,(Below.refl _ _).alloc (Nat.le_refl _) _⟩
 by_cases h2:4<k
 · have HE:=hid (show 7=Pp.chgE ⟨k,p,q,t,b⟩from by rw[Pp.chgE,if_pos (Or.inr h2)])
   go_enter Tryz.func93,Tryz.ntmps93
   go_wp2;go_ret;exact⟨Pp.ret_int HE.out,(Below.refl _ _).alloc (Nat.le_refl _) _⟩
 by_cases hz:Pp.chk p.data.toList=0
 · have HZ:Hid (Pp.chk p.data.toList=0):=hz
   have h4:(k=1∨k=4)∨k=2∨k=3:=by omega
   clear h1 h2;rcases h4 with h|rfl|rfl
   · have hcases:=Pp.cc14 h p q t b hz
     clear hz;rcases h with rfl|rfl
     all_goals
      rcases hcases with⟨f1,HE⟩|⟨f1,f2,HE⟩|⟨f1,f2,f3,f4,HE⟩|⟨f1,f2,f3,f4,HE⟩|⟨f1,f2,f3,f4,f5,HE⟩
     all_goals
      go_enter Tryz.func93,Tryz.ntmps93
      go_wp2_with fail;refine(rCheck_any p _ hp).mono ?_
      rintro e w1 ⟨rfl,hb1'⟩;rw[HZ.out];obtain⟨c0,c1,c2,c3,c4,hbw,hlt⟩:=bx5 hb1'
      clear hb1';go_wp2_with fail;go_ret;exact⟨Pp.ret_int HE.out,hbw⟩
   · have hcases:=Pp.cc2 p q t b hz
     clear hz;rcases hcases with⟨f1,HE⟩|⟨f1,f2,HE⟩|⟨f1,f2,f3,HE⟩|⟨f1,f2,f3,HE⟩|⟨f1,f2,f3,f4,HE⟩
     all_goals
      go_enter Tryz.func93,Tryz.ntmps93
      go_wp2_with fail;refine(rCheck_any p _ hp).mono ?_
      rintro e w1 ⟨rfl,hb1'⟩;rw[HZ.out];obtain⟨c0,c1,c2,c3,c4,hbw,hlt⟩:=bx5 hb1'
      clear hb1';go_wp2_with fail;go_ret;exact⟨Pp.ret_int HE.out,hbw⟩
   · by_cases hy:Pp.chk q.data.toList=0
     · have hcases:=Pp.cc3 p q t b hz hy
       have HY:Hid (Pp.chk q.data.toList=0):=hy;clear hz hy;rcases hcases with⟨f1,HE⟩|⟨f1,f2,f3,HE⟩|⟨f1,f2,f3,HE⟩|⟨f1,f2,f3,f4,HE⟩
       all_goals
        go_enter Tryz.func93,Tryz.ntmps93
        go_wp2_with fail;refine(rCheck_any p _ hp).mono ?_
        rintro e w1 ⟨rfl,hb1'⟩;rw[HZ.out];obtain⟨c0,c1,c2,c3,c4,hbw,hlt⟩:=bx5 hb1'
        go_wp2_with fail;refine(rCheck_any q _ hq).mono ?_
        rintro e w2 ⟨rfl,hb2'⟩;rw[HY.out];have hb02:=hb1'.trans (hb2'.mono hb1'.size);clear c0 c1 c2 c3 c4 hbw hlt hb1' hb2';obtain⟨c0,c1,c2,c3,c4,hbw,hlt⟩:=bx5 hb02
        clear hb02;go_wp2_with fail;go_ret;exact⟨Pp.ret_int HE.out,hbw⟩
     · have HE:=hid (show Pp.chk q.data.toList=Pp.chgE ⟨3,p,q,t,b⟩from by simp[Pp.chgE,hz,hy])
       have hy2:(Pp.chk q.data.toList==0)=false:=by simpa using hy
       clear hz;go_enter Tryz.func93,Tryz.ntmps93
       go_wp2_with fail;refine(rCheck_any p _ hp).mono ?_
       rintro e w1 ⟨rfl,hb1'⟩;rw[HZ.out];obtain⟨c0,c1,c2,c3,c4,hbw,hlt⟩:=bx5 hb1'
       go_wp2_with fail;refine(rCheck_any q _ hq).mono ?_
       rintro e w2 ⟨rfl,hb2'⟩;have hb02:=hb1'.trans (hb2'.mono hb1'.size);clear c0 c1 c2 c3 c4 hbw hlt hb1' hb2';obtain⟨c0,c1,c2,c3,c4,hbw,hlt⟩:=bx5 hb02
       clear hb02;go_wp2_with fail;go_ret;exact⟨Pp.ret_int HE.out,hbw⟩
 · have HE:=hid (show Pp.chk p.data.toList=Pp.chgE ⟨k,p,q,t,b⟩from by rw[Pp.chgE,if_neg (by simp only;omega),if_pos hz])
   have hz2:(Pp.chk p.data.toList==0)=false:=by simpa using hz
   go_enter Tryz.func93,Tryz.ntmps93
   go_wp2_with fail;refine(rCheck_any p _ hp).mono ?_
   rintro e w1 ⟨rfl,hb1⟩;obtain⟨c0,c1,c2,c3,c4,hb,hlt⟩:=bx5 hb1
   clear hb1;go_wp2_with fail;go_ret;exact⟨Pp.ret_int HE.out,hb⟩
namespace Pp
/-- The place of the first entry at a path; -1: there is none. -/
def idx (L:List En) (q:List UInt8):Int:=match L.findIdx? (atB q)with
 |some i=>(i:Int)
 |none=> -1
theorem idx_hit {L:List En} {q:List UInt8} {k:Nat} (hlt:k<L.length) (h: ∀j (h:j<L.length),j<k→atB q L[j]=false) (hp:atB q L[k]=true):(k:Int)=idx L q:=by
 have:L.findIdx? (atB q)=some k:=List.findIdx?_eq_some_iff_getElem.2 ⟨hlt,hp,fun j hj=>by rw[h j (by omega) hj];simp⟩
 rw[idx,this]
theorem idx_miss {L:List En} {q:List UInt8} (h: ∀j (h:j<L.length),atB q L[j]=false): -1=idx L q:=by
 have:L.findIdx? (atB q)=none:=List.findIdx?_eq_none_iff.2 fun x hx=>by
  obtain⟨j,hj,rfl⟩:=List.getElem_of_mem hx
  exact h j hj
 rw[idx,this]
theorem idx_cases (L:List En) (q:List UInt8):(idx L q= -1∧L.find? (atB q)=none)∨ ∃k,∃h:k<L.length,idx L q=(k:Int)∧L.find? (atB q)=some L[k]:=by
 cases hf:L.findIdx? (atB q)with
 |none=>
  refine Or.inl ⟨by rw[idx,hf],?_⟩
  rw[List.find?_eq_none];intro x hx;have:=List.findIdx?_eq_none_iff.1 hf x hx
  simp[this]
 |some k=>
  obtain⟨hlt,hp,hmin⟩:=List.findIdx?_eq_some_iff_getElem.1 hf
  refine Or.inr ⟨k,hlt,by rw[idx,hf],find_hit hlt (fun j h hj=>?_) hp⟩
  have:=hmin j hj
  simpa using this
end Pp

set_option maxHeartbeats 800000 in
theorem entryAt_any (L:List En) (v:Value) (q:ByteArray) (w:World) (hv:Lies w v L):
    Calls Tryz.prog 94 #[v,.string q] w fun e w'=>e= .returned (.int .i64 (Pp.idx L q.data.toList))∧Below w.heap.size w w':=by
 obtain⟨a,cap,rfl,hcap,hcap2,hL⟩:=hv
 have HL:Hid (∀i (h:i<L.length),∃b o,a=some ⟨b,o,none⟩∧b<w.heap.size∧EnAt w b (o+i*4) L[i]):=hL;clear hL;go_enter Tryz.func94,Tryz.ntmps94
 go_wp2_with fail;go_loopw [5] (fun i wr=> ∃k:Nat,k≤L.length∧i= .int .i64 k∧Hid (∀j (h:j<L.length),j<k→Pp.atB q.data.toList L[j]=false)∧Below w.heap.size w wr) (fun i _=>L.length-(intOf i).toNat)
 case atStart=>exact⟨0,Nat.zero_le _,rfl,(fun j _ h=>absurd h (Nat.not_lt_zero _): ∀j (h:j<L.length),j<0→Pp.atB q.data.toList L[j]=false),Below.refl _ _⟩
 case round=>
  obtain⟨k,hk,rfl,HP,hbel⟩:=hrel
  by_cases hlt:k<L.length
  · obtain⟨b,o,rfl,hb,he⟩:=HL.out k hlt
    obtain⟨c0,c1,c2,c3⟩:=he.below hb hbel
    cases hp:Pp.atB q.data.toList L[k]with
    |true=>
     have hp2:((L[k]).path.toList==q.toList)=true:=by rw[←hp,Pp.atB,Lib.toList_data,Lib.toList_data]
     have HE:=hid (show(k:Int)=Pp.idx L q.data.toList from Pp.idx_hit hlt HP.out hp);go_wp2_with fail;go_ret;exact⟨Pp.ret_int HE.out,hbel⟩
    |false=>
     have hp2:((L[k]).path.toList==q.toList)=false:=by rw[←hp,Pp.atB,Lib.toList_data,Lib.toList_data]
     go_wp2_with fail;go_roundw
     case rel=>exact⟨k+1,by omega,by simp,(fun j h1 h2=>by
      by_cases e:j=k
      · subst e;exact hp
      · exact HP.out j h1 (by omega): ∀j (h:j<L.length),j<k+1→Pp.atB q.data.toList L[j]=false),hbel⟩
     case measure=>simp[intOf];omega
  · have HE:=hid (show-1=Pp.idx L q.data.toList from Pp.idx_miss (fun j h=>HP.out j h (by omega)))
    go_wp2_with fail;go_ret;exact⟨Pp.ret_int HE.out,hbel⟩
end Go.Proofs.YtdifomkoegmngaaGreatDoor
namespace Go.Proofs.YtdifomkoegmngaaGreatDoor
open Go.RowKit


set_option maxHeartbeats 400000 in
theorem pathOf_any (L:List (List UInt8)) (g o cap:Nat) (w:World) (hL:(Pp.join L).length≤1000000000) (hn:L.length≤1000000000) (hcell: ∀i (h:i<L.length),w.cell? ⟨g,o+i,none⟩=some (.string ⟨(L[i]).toArray⟩)):
    Calls Tryz.prog 97 #[.slice (some ⟨g,o,none⟩) L.length cap] w fun e w'=>e= .returned (.string ⟨(Pp.join L).toArray⟩)∧w'=w:=by
 have HC:Hid (∀i (h:i<L.length),w.cell? ⟨g,o+i,none⟩=some (.string ⟨(L[i]).toArray⟩)):=hcell;clear hcell;go_enter Tryz.func97,Tryz.ntmps97
 go_wp2_with fail;go_loop [3,4] (fun s i=> ∃k:Nat,k≤L.length∧i= .int .i64 k∧s= .string ⟨(Pp.join (L.take k)).toArray⟩) (fun _ i=>L.length-(intOf i).toNat)
 case atStart=>exact⟨0,Nat.zero_le _,rfl,rfl⟩
 case round=>
  obtain⟨k,hk,rfl,rfl⟩:=hrel
  by_cases hlt:k<L.length
  · have hce:=HC.out k hlt
    have b1:=Pp.join_take_le L k;have b2:=Pp.join_take_le L (k+1);have b3:=Pp.mem_join_len L k hlt;by_cases hk0:0<k
    · have HJ:Hid ((⟨(Pp.join (L.take k)).toArray⟩:ByteArray)++⟨#[47]⟩++⟨(L[k]).toArray⟩=⟨(Pp.join (L.take (k+1))).toArray⟩):=Pp.join_step L k hlt hk0
      have hk1:0<(k:Int):=by omega
      go_wp2;go_round
      case rel=>exact⟨k+1,by omega,by go_num,by rw[←HJ.out]⟩
      case measure=>simp[intOf];omega
    · obtain rfl:k=0:=by omega
      have HJ:Hid ((⟨#[]⟩:ByteArray)++⟨(L[0]).toArray⟩=⟨(Pp.join (L.take 1)).toArray⟩):=Pp.join_first L hlt;have hce0:w.cell? ⟨g,o,none⟩=some (.string ⟨(L[0]).toArray⟩):=hce;have b4:(Pp.join []).length=0:=rfl;clear hce;go_wp2;go_round
      case rel=>exact⟨0+1,by omega,by go_num,by rw[←HJ.out];rfl⟩
      case measure=>simp[intOf];omega
  · go_wp2
    go_ret;exact⟨by rw[List.take_of_length_le (by omega)];rfl,rfl⟩
set_option maxHeartbeats 400000 in
theorem parentOf_any (s:ByteArray) (w:World) (hs:s.size≤1000000000):
    Calls Tryz.prog 84 #[.string s] w fun e w'=>e= .returned (.string ⟨(Pp.par s.data.toList).toArray⟩)∧Below w.heap.size w w':=by
 have hn:(Pp.nm s.data.toList).length≤s.size+1:=by have:=Pp.nm_len_le s.data.toList;rwa [←Lib.size_eq]at this
 have hp:=Pp.len_par s.data.toList;rw[←Lib.size_eq]at hp;have h1:1≤(Pp.nm s.data.toList).length:=Nat.pos_of_ne_zero (fun e=>Pp.nm_ne _ (List.length_eq_zero_iff.1 e));have HP:Hid (Pp.join (Pp.nm s.data.toList).dropLast=Pp.par s.data.toList):=rfl;have HD:=hid (show∀i (h:i<(Pp.nm s.data.toList).dropLast.length) (h2:i<(Pp.nm s.data.toList).length),(Pp.nm s.data.toList).dropLast[i]=(Pp.nm s.data.toList)[i]from fun i h h2=>List.getElem_dropLast h);have HL:Hid ((Pp.nm s.data.toList).dropLast.length=(Pp.nm s.data.toList).length-1):=List.length_dropLast;go_enter Tryz.func84,Tryz.ntmps84
 go_wp2_with fail;refine(rNames_at s _ hs).mono ?_
 rintro e w1 ⟨g,cap,rfl,hc1,hc2,hg1,hg2,hcell,hb⟩;have HC:Hid (∀i (h:i<(Pp.nm s.data.toList).length),w1.cell? ⟨g,i,none⟩=some (.string ⟨((Pp.nm s.data.toList)[i]).toArray⟩)):=hcell;clear hcell;go_wp2_with fail;rw[←HL.out];refine(pathOf_any (Pp.nm s.data.toList).dropLast g 0 cap _ (by rw[HP.out];omega) (by rw[HL.out];omega) (fun i h=>?_)).mono ?_
 · have h2:i<(Pp.nm s.data.toList).length:=by rw[HL.out]at h;omega
   rw[Nat.zero_add,HD.out i h h2];exact HC.out i h2
 rintro e w2 ⟨rfl,rfl⟩;rw[HP.out,HL.out];go_wp2;go_ret;exact⟨rfl,hb⟩
set_option maxHeartbeats 800000 in
theorem isFolder_any (L:List En) (v:Value) (q:ByteArray) (w:World) (hv:Lies w v L):
    Calls Tryz.prog 83 #[v,.string q] w fun e w'=>e= .returned (.int .i64 (Pp.foldE L q.data.toList))∧Below w.heap.size w w':=by
 have HV:Hid (Lies w v L):=hv;cases hc:q.toList.isEmpty with
 |true=>
  have HE:=hid (show 0=Pp.foldE L q.data.toList from by rw[Pp.foldE,if_pos ((Pp.empty_iff q).1 hc)]);clear hv;go_enter Tryz.func83,Tryz.ntmps83
  go_wp2;go_ret;exact⟨Pp.ret_int HE.out,Below.refl _ _⟩
 |false=>
  have hne:=Pp.not_empty hc;rcases Pp.idx_cases L q.data.toList with⟨hi,hf⟩|⟨k,hk,hi,hf⟩
  · have HI:Hid (Pp.idx L q.data.toList= -1):=hi
    have HE:=hid (show 5=Pp.foldE L q.data.toList from by rw[Pp.foldE,if_neg hne,hf]);clear hf hne hi hv;go_enter Tryz.func83,Tryz.ntmps83
    go_wp2_with fail;refine(entryAt_any L v q _ HV.out).mono ?_
    rintro e w1 ⟨rfl,hb1⟩;rw[HI.out];go_wp2_with fail;go_ret;exact⟨Pp.ret_int HE.out,hb1⟩
  · have HI:Hid (Pp.idx L q.data.toList=(k:Int)):=hi
    have hE:Pp.foldE L q.data.toList=if(L[k]).folder=true then 0 else 4:=by rw[Pp.foldE,if_neg hne,hf]
    obtain⟨a,cap,rfl,hcap,hcap2,hL⟩:=hv
    obtain⟨b,o,rfl,hb,he⟩:=hL k hk
    have hkk:(k:Int)<L.length:=by omega
    clear hf hne hi hL;cases hx:(L[k]).folder with
    |true=>
     have HE:=hid (show 0=Pp.foldE L q.data.toList from by rw[hE,hx];rfl);clear hE;go_enter Tryz.func83,Tryz.ntmps83
     go_wp2_with fail;refine(entryAt_any L _ q _ HV.out).mono ?_
     rintro e w1 ⟨rfl,hb1⟩;rw[HI.out];obtain⟨c0,c1,c2,c3⟩:=he.below hb hb1
     rw[hx]at c1;clear hx;go_wp2_with fail;go_ret;exact⟨Pp.ret_int HE.out,hb1⟩
    |false=>
     have HE:=hid (show 4=Pp.foldE L q.data.toList from by rw[hE,hx];rfl);clear hE;go_enter Tryz.func83,Tryz.ntmps83
     go_wp2_with fail;refine(entryAt_any L _ q _ HV.out).mono ?_
     rintro e w1 ⟨rfl,hb1⟩;rw[HI.out];obtain⟨c0,c1,c2,c3⟩:=he.below hb hb1
     rw[hx]at c1;clear hx;go_wp2_with fail;go_ret;exact⟨Pp.ret_int HE.out,hb1⟩
end Go.Proofs.YtdifomkoegmngaaGreatDoor
