/- How grants are compared: cmp.Compare of texts, cmp.Or of two numbers, grant.compare, grant.rises. -/
import Derived.Test.YtppdfeehhnofaaaGreatDoorHAL
import Derived.Deep.RegionHeld3
import Derived.Deep.RegionLaw
import Derived.Deep.DeepCutAuto
import Derived.Deep.DeepMust
import Derived.Test.YtppdfeehhnofaaaGreatDoorHAK
set_option linter.unusedSimpArgs false
set_option linter.unusedVariables false
namespace Go.Proofs.YtppdfeehhnofaaaGreatDoor
open Go.RowKit

namespace Pp
def cS (x y:ByteArray):Int:=if Op.bytesLess x.toList y.toList=true then-1 else if(x.toList==y.toList)=true then 0 else 1
def cG (a b:Gr):Int:=if cS a.fo b.fo=0 then cS a.wh b.wh else cS a.fo b.fo
end Pp

set_option maxHeartbeats 1000000 in
theorem cmpS_any (x y:ByteArray) (w:World):
    Calls Tryz.prog 153 #[.string x,.string y] w fun e w'=>e= .returned (.int .i64 (Pp.cS x y))∧w'=w:=by
 cases h1:Op.bytesLess x.toList y.toList with
 |true=>
  have HE:=hid (show-1=Pp.cS x y from by rw[Pp.cS,if_pos h1]);go_enter Tryz.func153,Tryz.ntmps153
  go_wp2;go_ret;exact⟨Pp.ret_int HE.out,rfl⟩
 |false=>
  cases h2:(x.toList==y.toList)with
  |true=>
   have HE:=hid (show 0=Pp.cS x y from by rw[Pp.cS,if_neg (by rw[h1];decide),if_pos h2]);go_enter Tryz.func153,Tryz.ntmps153
   go_wp2;go_ret;exact⟨Pp.ret_int HE.out,rfl⟩
  |false=>
   have HE:=hid (show 1=Pp.cS x y from by rw[Pp.cS,if_neg (by rw[h1];decide),if_neg (by rw[h2];decide)]);go_enter Tryz.func153,Tryz.ntmps153
   go_wp2;go_ret;exact⟨Pp.ret_int HE.out,rfl⟩
set_option maxHeartbeats 1000000 in
theorem or2_any (a b:Int) (g:Nat) (w:World) (hg:g<w.heap.size) (h0:w.cell? ⟨g,0,none⟩=some (.int .i64 a)) (h1:w.cell? ⟨g,1,none⟩=some (.int .i64 b)):
    Calls Tryz.prog 152 #[.slice (some ⟨g,0,none⟩) 2 2] w fun e w'=>e= .returned (.int .i64 (if a=0 then b else a))∧Below w.heap.size w w':=by
 have H0:=ghid h0;have H1:=ghid h1;clear h0 h1;obtain⟨r,hr⟩: ∃r,r=if a=0 then b else a:=⟨_,rfl⟩
 rw[←hr];have HR:=ghid hr;clear hr;go_enter Tryz.func152,Tryz.ntmps152
 go_wp2_with fail;go_loopw [8] (fun i wr=>(i= .int .i64 0∨(i= .int .i64 1∧a=0)∨(i= .int .i64 2∧a=0∧b=0))∧Below w.heap.size w wr) (fun i _=>2-(intOf i).toNat)
 case atStart=>exact⟨Or.inl rfl,Below.refl _ _⟩
 case round=>
  obtain⟨hi,hbel⟩:=hrel
  have c0:=(hbel.cell (p:=⟨g,0,none⟩) hg).trans H0.out;have c1:=(hbel.cell (p:=⟨g,1,none⟩) hg).trans H1.out;rcases hi with rfl|⟨rfl,ha⟩|⟨rfl,ha,hb⟩
  · by_cases ha:a=0
    · subst ha
      go_wp2_with fail;go_roundw
      case rel=>exact⟨by simp,hbel⟩
      case measure=>simp[intOf]
    · have HE:=hid (show a=r from by rw[HR.out,if_neg ha])
      have hz:(a==0)=false:=by simpa using ha
      go_wp2_with fail;go_ret;exact⟨Pp.ret_int HE.out,hbel⟩
  · subst ha
    by_cases hb:b=0
    · subst hb
      go_wp2_with fail;go_roundw
      case rel=>exact⟨by simp,hbel⟩
      case measure=>simp[intOf]
    · have HE:=hid (show b=r from by rw[HR.out,if_pos rfl])
      have hz:(b==0)=false:=by simpa using hb
      go_wp2_with fail;go_ret;exact⟨Pp.ret_int HE.out,hbel⟩
  · subst ha
    subst hb;have HE:=hid (show(0:Int)=r from by rw[HR.out,if_pos rfl]);go_wp2_with fail;go_ret;exact⟨Pp.ret_int HE.out,hbel⟩
set_option maxHeartbeats 1000000 in
theorem compare_any (a b:Gr) (w:World):
    Calls Tryz.prog 116 #[.agg #[.string a.fo,.string a.wh,.int .i64 a.ri],.agg #[.string b.fo,.string b.wh,.int .i64 b.ri]] w fun e w'=>e= .returned (.int .i64 (Pp.cG a b))∧Below w.heap.size w w':=by
 have HE:Hid ((if Pp.cS a.fo b.fo=0 then Pp.cS a.wh b.wh else Pp.cS a.fo b.fo)=Pp.cG a b):=rfl;go_enter Tryz.func116,Tryz.ntmps116
 go_wp2_with fail
 go_region_held3 (fun W=>W.cell? ⟨w.heap.size,0,none⟩=some (.string a.fo)∧W.cell? ⟨w.heap.size,1,none⟩=some (.string a.wh)∧W.cell? ⟨w.heap.size+1,0,none⟩=some (.string b.fo)∧W.cell? ⟨w.heap.size+1,1,none⟩=some (.string b.wh)) (go_keep) (first
  |(go_at_call 153;refine(cmpS_any _ _ _).mono ?_;rintro e wa ⟨rfl,rfl⟩)
  |(go_at_call 152;go_must (refine(or2_any (Pp.cS a.fo b.fo) (Pp.cS a.wh b.wh) _ _ (by first|(simp;done)|(simp;omega)) (by simp[go_sem]) (by simp[go_sem])).mono ?_);rintro e wb ⟨rfl,hbb⟩;rw[HE.out];have k1:wb.cell? ⟨w.heap.size,0,none⟩=some (.string a.fo):=(hbb.cell (p:=⟨w.heap.size,0,none⟩) (by simp;omega)).trans (by simp[go_sem]);have k2:wb.cell? ⟨w.heap.size,1,none⟩=some (.string a.wh):=(hbb.cell (p:=⟨w.heap.size,1,none⟩) (by simp;omega)).trans (by simp[go_sem]);have k3:wb.cell? ⟨w.heap.size+1,0,none⟩=some (.string b.fo):=(hbb.cell (p:=⟨w.heap.size+1,0,none⟩) (by simp)).trans (by simp[go_sem]);have k4:wb.cell? ⟨w.heap.size+1,1,none⟩=some (.string b.wh):=(hbb.cell (p:=⟨w.heap.size+1,1,none⟩) (by simp)).trans (by simp[go_sem])))
 all_goals
  go_wp2;go_ret;exact⟨rfl,Below.trans (by go_grown) (hbb.mono (by simp;omega))⟩
end Go.Proofs.YtppdfeehhnofaaaGreatDoor
namespace Go.Proofs.YtppdfeehhnofaaaGreatDoor
open Go.RowKit

namespace Pp
/-- Does each grant come ahead of the next one? -/
def risG:List Gr→Bool
 |[]=>true
 |[_]=>true
 |a::b::r=>decide (cG a b<0) && risG (b::r)
theorem risG_iff (G:List Gr):risG G=true↔ ∀k (h:k+1<G.length),cG G[k] G[k+1]<0:=by
 match G with
 |[]=>simp[risG]
 |[a]=>simp[risG]
 |a::b::r=>
  rw[risG,Bool.and_eq_true,risG_iff (b::r)];constructor
  · intro ⟨h1,h2⟩ k hk
    match k with
    |0=>simpa using h1
    |k+1=>
     have:=h2 k (by simpa using hk)
     simpa using this
  · intro h
    refine⟨by simpa using h 0 (by simp),fun k hk=>?_⟩
    have:=h (k+1) (by simpa using hk)
    simpa using this
theorem risG_no {G:List Gr} {k:Nat} (h:k+1<G.length) (hk:0≤cG G[k] G[k+1]):risG G=false:=by
 cases hr:risG G with
 |false=>rfl
 |true=>
  have:=(risG_iff G).1 hr k h
  omega
end Pp

set_option maxRecDepth 100000 in
set_option maxHeartbeats 1000000 in
theorem grises_any (G:List Gr) (v:Value) (w:World) (hv:LiesG w v G) (hn:G.length≤1000):
    Calls Tryz.prog 80 #[v] w fun e w'=>e= .returned (.bool (Pp.risG G))∧Below w.heap.size w w':=by
 obtain⟨a,cap,rfl,hcap,hcap2,hLL⟩:=hv
 have HL:Hid (∀i (h:i<G.length),∃b o,a=some ⟨b,o,none⟩∧b<w.heap.size∧GrAt w b (o+i*3) G[i]):=hLL;clear hLL;go_enter Tryz.func80,Tryz.ntmps80
 go_wp2_with fail;go_loopw [3] (fun i wr=> ∃m:Nat,(m=0∨m<G.length)∧i= .int .i64 ((m:Int)+1)∧Hid (∀j (h:j+1<G.length),j<m→Pp.cG G[j] G[j+1]<0)∧Below w.heap.size w wr) (fun i _=>G.length+2-(intOf i).toNat)
 case atStart=>exact⟨0,Or.inl rfl,rfl,(fun j _ h=>absurd h (Nat.not_lt_zero _): ∀j (h:j+1<G.length),j<0→Pp.cG G[j] G[j+1]<0),Below.refl _ _⟩
 case round=>
  obtain⟨m,hk,rfl,HP,hbel⟩:=hrel
  by_cases hlt:m+1<G.length
  · obtain⟨b,o,rfl,hb,he⟩:=HL.out (m+1) hlt
    obtain⟨b',o',hab,hb',he'⟩:=HL.out m (by omega)
    cases hab
    obtain⟨c0,c1,c2⟩:=he.below hb hbel
    obtain⟨d0,d1,d2⟩:=he'.below hb' hbel
    have hbr:b<wr.heap.size:=Nat.lt_of_lt_of_le hb hbel.size;have hm0:(0:Int)≤(m:Int):=by omega
    have hm1:(m:Int)<(G.length:Int):=by omega
    have hm2:(m:Int)+1<(G.length:Int):=by omega
    have hm3:(0:Int)≤(m:Int)+1:=by omega
    have hm5:((m:Int)+1).toNat=m+1:=by omega
    have hm6:IntKind.i64.wrap ((m:Int)+1-1)=(m:Int):=by rw[IntKind.wrap_i64];omega
    have hm7:IntKind.i64.wrap (m:Int)=(m:Int):=by rw[IntKind.wrap_i64];omega
    have C0:=ghid c0;have C1:=ghid c1;have C2:=ghid c2;have D0:=ghid d0;have D1:=ghid d1;have D2:=ghid d2;have HNO:=hid (show 0≤Pp.cG G[m] G[m+1]→false=Pp.risG G from fun h=>(Pp.risG_no hlt h).symm)
    have HP2:=hid (show Pp.cG G[m] G[m+1]<0→ ∀j (h:j+1<G.length),j<m+1→Pp.cG G[j] G[j+1]<0 from fun h0 j h1 h2=>by
     by_cases e:j=m
     · subst e;exact h0
     · exact HP.out j h1 (by omega))
    generalize G[m]=x at*;generalize G[m+1]=y at*;go_wp2_with fail
    go_region_held3 (fun W=>W.cell? ⟨b,o+m*3,none⟩=some (.string x.fo)∧W.cell? ⟨b,o+m*3+1,none⟩=some (.string x.wh)∧W.cell? ⟨b,o+m*3+2,none⟩=some (.int .i64 x.ri)∧W.cell? ⟨b,o+(m+1)*3,none⟩=some (.string y.fo)∧W.cell? ⟨b,o+(m+1)*3+1,none⟩=some (.string y.wh)∧W.cell? ⟨b,o+(m+1)*3+2,none⟩=some (.int .i64 y.ri)) (go_keep) (first
     |(go_at_call 116;refine(compare_any x y _).mono ?_;rintro e wa ⟨rfl,hba⟩;have k0:=(hba.cell (p:=⟨b,o+m*3,none⟩) hbr).trans D0.out;have k1:=(hba.cell (p:=⟨b,o+m*3+1,none⟩) hbr).trans D1.out;have k2:=(hba.cell (p:=⟨b,o+m*3+2,none⟩) hbr).trans D2.out;have k3:=(hba.cell (p:=⟨b,o+(m+1)*3,none⟩) hbr).trans C0.out;have k4:=(hba.cell (p:=⟨b,o+(m+1)*3+1,none⟩) hbr).trans C1.out;have k5:=(hba.cell (p:=⟨b,o+(m+1)*3+2,none⟩) hbr).trans C2.out))
    have hbel2:Below w.heap.size w wa:=hbel.drew.trans (hba.mono hbel.drew.size);by_cases hc:0≤Pp.cG x y
    · have HE:=ghid (HNO.out hc)
      go_wp2_with fail;go_ret;exact⟨Pp.ret_bool HE.out,hbel2⟩
    · have HP3:=ghid (HP2.out (by omega))
      go_wp2_with fail;go_roundw
      case rel=>exact⟨m+1,by omega,by simp,HP3,hbel2⟩
      case measure=>simp[intOf];omega
  · have HE:=hid (show true=Pp.risG G from((Pp.risG_iff G).2 fun j h=>HP.out j h (by omega)).symm)
    go_wp2_with fail;go_ret;exact⟨Pp.ret_bool HE.out,hbel⟩
end Go.Proofs.YtppdfeehhnofaaaGreatDoor
namespace Go.Proofs.YtppdfeehhnofaaaGreatDoor
open Go.RowKit

/-- A predicate on grants, as a function value. -/
def TellsG (w:World) (g:Nat) (cb:Array Value) (pr:Gr→Bool):Prop:=
 (∀args w,(callFunc g args).run Tryz.prog w= .ok (.enter g args) w)∧
 ∀(W:World),Below w.heap.size w W→ ∀e:Gr,Calls Tryz.prog g (#[.agg #[.string e.fo,.string e.wh,.int .i64 e.ri]]++cb) W fun r W'=>r= .returned (.bool (pr e))∧Below W.heap.size W W'
theorem TellsG.below {w w':World} {g:Nat} {cb:Array Value} {pr:Gr→Bool} (h:TellsG w g cb pr) (hw:Below w.heap.size w w'):TellsG w' g cb pr:=
 ⟨h.1,fun W hW=>h.2 W (hw.trans (hW.mono hw.size))⟩
namespace Pp
/-- The place of the first grant of which a predicate holds; -1: of none. -/
def idG (G:List Gr) (pr:Gr→Bool):Int:=match G.findIdx? pr with
 |some i=>(i:Int)
 |none=> -1
theorem idG_hit {G:List Gr} {pr:Gr→Bool} {k:Nat} (hlt:k<G.length) (h: ∀j (h:j<G.length),j<k→pr G[j]=false) (hp:pr G[k]=true):(k:Int)=idG G pr:=by
 have:G.findIdx? pr=some k:=List.findIdx?_eq_some_iff_getElem.2 ⟨hlt,hp,fun j hj=>by rw[h j (by omega) hj];simp⟩
 rw[idG,this]
theorem idG_miss {G:List Gr} {pr:Gr→Bool} (h: ∀j (h:j<G.length),pr G[j]=false): -1=idG G pr:=by
 have:G.findIdx? pr=none:=List.findIdx?_eq_none_iff.2 fun x hx=>by
  obtain⟨j,hj,rfl⟩:=List.getElem_of_mem hx
  exact h j hj
 rw[idG,this]
theorem idG_cases (G:List Gr) (pr:Gr→Bool):(idG G pr= -1∧G.find? pr=none∧G.any pr=false)∨ ∃k,∃h:k<G.length,idG G pr=(k:Int)∧G.find? pr=some G[k]∧G.any pr=true:=by
 cases hf:G.findIdx? pr with
 |none=>
  have hn:=List.findIdx?_eq_none_iff.1 hf;refine Or.inl ⟨by rw[idG,hf],?_,?_⟩
  · rw[List.find?_eq_none]
    intro x hx;simp[hn x hx]
  · exact List.any_eq_false.2 fun x hx=>by simp[hn x hx]
 |some k=>
  obtain⟨hlt,hp,hmin⟩:=List.findIdx?_eq_some_iff_getElem.1 hf
  refine Or.inr ⟨k,hlt,by rw[idG,hf],?_,List.any_eq_true.2 ⟨G[k],List.getElem_mem hlt,hp⟩⟩
  rw[List.find?_eq_some_iff_getElem];exact⟨hp,k,hlt,rfl,fun j hj=>by have:=hmin j hj;simpa using this⟩
end Pp

set_option maxHeartbeats 1000000 in
theorem indexFunc_any (G:List Gr) (v:Value) (g:Nat) (cb:Array Value) (pr:Gr→Bool) (w:World) (hv:LiesG w v G) (hg:TellsG w g cb pr):
    Calls Tryz.prog 159 #[v,.func (.func g) #[] cb] w fun e w'=>e= .returned (.int .i64 (Pp.idG G pr))∧Below w.heap.size w w':=by
 obtain⟨a,cap,rfl,hcap,hcap2,hLL⟩:=hv
 have HL:Hid (∀i (h:i<G.length),∃b o,a=some ⟨b,o,none⟩∧b<w.heap.size∧GrAt w b (o+i*3) G[i]):=hLL;have HG:=ghid hg;have eg:=hg.1;clear hLL hg;go_enter Tryz.func159,Tryz.ntmps159
 go_wp2_with fail;go_loopw [8] (fun i wr=> ∃k:Nat,k≤G.length∧i= .int .i64 k∧Hid (∀j (h:j<G.length),j<k→pr G[j]=false)∧Below w.heap.size w wr) (fun i _=>G.length-(intOf i).toNat)
 case atStart=>exact⟨0,Nat.zero_le _,rfl,(fun j _ h=>absurd h (Nat.not_lt_zero _): ∀j (h:j<G.length),j<0→pr G[j]=false),Below.refl _ _⟩
 case round=>
  obtain⟨k,hk,rfl,HP,hbel⟩:=hrel
  by_cases hlt:k<G.length
  · obtain⟨b,o,rfl,hb,he⟩:=HL.out k hlt
    obtain⟨c0,c1,c2⟩:=he.below hb hbel
    go_wp2_with fail;refine(HG.out.2 _ hbel G[k]).mono ?_
    rintro e w1 ⟨rfl,hb1⟩;have hbel1:=below_trans hbel hb1;clear c0 c1 c2 hbel hb1;cases hp:pr G[k]with
    |true=>
     have HE:=hid (show(k:Int)=Pp.idG G pr from Pp.idG_hit hlt HP.out hp);go_wp2_with fail;go_ret;exact⟨Pp.ret_int HE.out,hbel1⟩
    |false=>
     have HP2:=hid (show∀j (h:j<G.length),j<k+1→pr G[j]=false from fun j h1 h2=>by
      by_cases e:j=k
      · subst e;exact hp
      · exact HP.out j h1 (by omega))
     go_wp2_with fail;go_roundw
     case rel=>exact⟨k+1,by omega,by simp,HP2,hbel1⟩
     case measure=>simp[intOf];omega
  · have HE:=hid (show-1=Pp.idG G pr from Pp.idG_miss (fun j h=>HP.out j h (by omega)))
    go_wp2_with fail;go_ret;exact⟨Pp.ret_int HE.out,hbel⟩
set_option maxHeartbeats 1000000 in
theorem contains_any (G:List Gr) (v:Value) (g:Nat) (cb:Array Value) (pr:Gr→Bool) (w:World) (hv:LiesG w v G) (hg:TellsG w g cb pr):
    Calls Tryz.prog 196 #[v,.func (.func g) #[] cb] w fun e w'=>e= .returned (.bool (G.any pr))∧Below w.heap.size w w':=by
 have HV:=ghid hv;have HG:=ghid hg;clear hv hg;rcases Pp.idG_cases G pr with⟨hi,_,ha⟩|⟨k,hk,hi,_,ha⟩
 · have HI:=ghid hi
   have HA:=ghid ha;clear hi ha;go_enter Tryz.func196,Tryz.ntmps196
   go_wp2_with fail;refine(indexFunc_any G _ _ _ pr _ HV.out HG.out).mono ?_
   rintro e w1 ⟨rfl,hb1⟩;rw[HI.out];go_wp2;go_ret;exact⟨by rw[HA.out];rfl,hb1⟩
 · have HI:=ghid hi
   have HA:=ghid ha;clear hi ha;go_enter Tryz.func196,Tryz.ntmps196
   go_wp2_with fail;refine(indexFunc_any G _ _ _ pr _ HV.out HG.out).mono ?_
   rintro e w1 ⟨rfl,hb1⟩;rw[HI.out];go_wp2;go_ret;exact⟨by rw[HA.out];rfl,hb1⟩
set_option maxHeartbeats 1000000 in
theorem isAny_any (G:List Gr) (v:Value) (g:Nat) (cb:Array Value) (pr:Gr→Bool) (w:World) (hv:LiesG w v G) (hg:TellsG w g cb pr):
    Calls Tryz.prog 154 #[v,.func (.func g) #[] cb] w fun e w'=>e= .returned (.bool (G.any pr))∧Below w.heap.size w w':=by
 have HV:=ghid hv;have HG:=ghid hg;clear hv hg;go_enter Tryz.func154,Tryz.ntmps154
 go_wp2_with fail;refine(contains_any G _ _ _ pr _ HV.out HG.out).mono ?_
 rintro e w1 ⟨rfl,hb1⟩;obtain⟨r,hr⟩: ∃r,G.any pr=r:=⟨_,rfl⟩
 rw[hr];have HR:=ghid hr;clear hr;go_wp2;go_ret;exact⟨by rw[HR.out];rfl,hb1⟩
namespace Pp
def inF (f:ByteArray) (e:Gr):Bool:=e.fo.toList==f.toList
def ownF (f:ByteArray) (e:Gr):Bool:=(e.fo.toList==f.toList) && (e.ri==3)
def ofW (f h:ByteArray) (e:Gr):Bool:=(e.fo.toList==f.toList) && (e.wh.toList==h.toList)
end Pp

set_option maxHeartbeats 1000000 in
theorem own1_any (e:Gr) (f:ByteArray) (b:Nat) (w:World) (hb:b<w.heap.size) (hc:w.cell? ⟨b,0,none⟩=some (.string f)):
    Calls Tryz.prog 155 #[.agg #[.string e.fo,.string e.wh,.int .i64 e.ri],.pointer (some ⟨b,0,none⟩)] w fun r w'=>r= .returned (.bool (Pp.ownF f e))∧Below w.heap.size w w':=by
 have hc2: ∀o,(w.alloc o).cell? ⟨b,0,none⟩=some (.string f):=fun o=>(((Below.refl w.heap.size w).alloc (Nat.le_refl _) o).cell (p:=⟨b,0,none⟩) hb).trans hc
 cases h1:(e.fo.toList==f.toList)with
 |true=>
  have HE:=hid (show(e.ri==3)=Pp.ownF f e from by rw[Pp.ownF,h1];rfl);go_enter Tryz.func155,Tryz.ntmps155
  go_wp2;go_ret;exact⟨Pp.ret_bool HE.out,(Below.refl _ _).alloc (Nat.le_refl _) _⟩
 |false=>
  have HE:=hid (show false=Pp.ownF f e from by rw[Pp.ownF,h1];rfl);go_enter Tryz.func155,Tryz.ntmps155
  go_wp2;go_ret;exact⟨Pp.ret_bool HE.out,(Below.refl _ _).alloc (Nat.le_refl _) _⟩
set_option maxRecDepth 100000 in
set_option maxHeartbeats 1000000 in
theorem isOwned_any (G:List Gr) (v:Value) (f:ByteArray) (w:World) (hv:LiesG w v G):
    Calls Tryz.prog 117 #[v,.string f] w fun e w'=>e= .returned (.bool (G.any (Pp.ownF f)))∧Below w.heap.size w w':=by
 have HV:=ghid hv;clear hv
 have hT:TellsG (w.alloc (.cells #[.string f] 9)) 155 #[.pointer (some ⟨w.heap.size,0,none⟩)] (Pp.ownF f):=by
  refine⟨enters_of Tryz.func155 (by kernel_rfl) rfl,fun W hW e=>?_⟩
  exact own1_any e f w.heap.size W (Nat.lt_of_lt_of_le (by simp) hW.size) ((hW.cell (p:=⟨w.heap.size,0,none⟩) (by simp)).trans (by simp))
 have HT:=ghid hT;clear hT;go_enter Tryz.func117,Tryz.ntmps117
 go_wp2_with fail;refine(isAny_any G _ _ _ (Pp.ownF f) _ (HV.out.below ((Below.refl _ _).alloc (Nat.le_refl _) _)) HT.out).mono ?_
 rintro e w1 ⟨rfl,hb1⟩;have hbw:=(box1 hb1).2.1;obtain⟨r,hr⟩: ∃r,G.any (Pp.ownF f)=r:=⟨_,rfl⟩
 rw[hr];have HR:=ghid hr;clear hr;go_wp2;go_ret;exact⟨by rw[HR.out];rfl,hbw⟩
end Go.Proofs.YtppdfeehhnofaaaGreatDoor
namespace Go.Proofs.YtppdfeehhnofaaaGreatDoor
open Go.RowKit

namespace Pp
def grsE:List Gr→Int
 |[]=>0
 |g::r=>if grE g=0 then grsE r else grE g
theorem grs_hit: ∀{G:List Gr} {k:Nat} (hlt:k<G.length),(∀j (h:j<G.length),j<k→grE G[j]=0)→ ¬grE G[k]=0→grsE G=grE G[k]
 |[],k,hlt,_,_=>absurd hlt (by simp)
 |g::r,0,_,_,hk=>by rw[grsE,if_neg (show¬grE g=0 from hk)];rfl
 |g::r,k+1,hlt,h,hk=>by
  rw[grsE,if_pos (show grE g=0 from h 0 (by simp) (by omega))];have:=grs_hit (G:=r) (k:=k) (by simpa using hlt) (fun j hj hjk=>h (j+1) (by simpa using hj) (by omega)) hk
  rw[this];rfl
theorem grs_all: ∀{G:List Gr},(∀j (h:j<G.length),grE G[j]=0)→grsE G=0
 |[],_=>rfl
 |g::r,h=>by
  rw[grsE,if_pos (show grE g=0 from h 0 (by simp))];exact grs_all fun j hj=>h (j+1) (by simpa using hj)
def ownsE (G:List Gr):Int:=if(G.all fun g=>G.any (ownF g.fo))=true then 0 else 5
def gchE (G:List Gr):Int:=if 60<G.length then 2 else if¬grsE G=0 then grsE G else if risG G=false then 4 else ownsE G
theorem gch_many {G:List Gr} (h:60<G.length):gchE G=2:=if_pos h
theorem gch_grs {G:List Gr} (h: ¬60<G.length) (h2: ¬grsE G=0):gchE G=grsE G:=by rw[gchE,if_neg h,if_pos h2]
theorem gch_ris {G:List Gr} (h: ¬60<G.length) (h2:grsE G=0) (h3:risG G=false):gchE G=4:=by rw[gchE,if_neg h,if_neg (fun x=>x h2),if_pos h3]
theorem gch_own {G:List Gr} (h: ¬60<G.length) (h2:grsE G=0) (h3:risG G=true):gchE G=ownsE G:=by rw[gchE,if_neg h,if_neg (fun x=>x h2),if_neg (by rw[h3];decide)]
theorem owns_no {G:List Gr} {k:Nat} (hlt:k<G.length) (h:G.any (ownF (G[k]).fo)=false):5=ownsE G:=by
 rw[ownsE,if_neg];rw[List.all_eq_true];intro hh;have:=hh G[k] (List.getElem_mem hlt)
 rw[h]at this;cases this
theorem owns_yes {G:List Gr} (h: ∀j (h:j<G.length),G.any (ownF (G[j]).fo)=true):0=ownsE G:=by
 rw[ownsE,if_pos];rw[List.all_eq_true];intro x hx;obtain⟨j,hj,rfl⟩:=List.getElem_of_mem hx
 exact h j hj
end Pp

set_option maxHeartbeats 1000000 in
theorem checkOwners_any (G:List Gr) (v:Value) (w:World) (hv:LiesG w v G):
    Calls Tryz.prog 81 #[v] w fun e w'=>e= .returned (.int .i64 (Pp.ownsE G))∧Below w.heap.size w w':=by
 have HV:=ghid hv;obtain⟨a,cap,rfl,hcap,hcap2,hLL⟩:=hv
 have HL:Hid (∀i (h:i<G.length),∃b o,a=some ⟨b,o,none⟩∧b<w.heap.size∧GrAt w b (o+i*3) G[i]):=hLL;clear hLL;go_enter Tryz.func81,Tryz.ntmps81
 go_wp2_with fail;go_loopw [7] (fun i wr=> ∃k:Nat,k≤G.length∧i= .int .i64 k∧Hid (∀j (h:j<G.length),j<k→G.any (Pp.ownF (G[j]).fo)=true)∧Below w.heap.size w wr) (fun i _=>G.length-(intOf i).toNat)
 case atStart=>exact⟨0,Nat.zero_le _,rfl,(fun j _ h=>absurd h (Nat.not_lt_zero _): ∀j (h:j<G.length),j<0→G.any (Pp.ownF (G[j]).fo)=true),Below.refl _ _⟩
 case round=>
  obtain⟨k,hk,rfl,HP,hbel⟩:=hrel
  by_cases hlt:k<G.length
  · obtain⟨b,o,rfl,hb,he⟩:=HL.out k hlt
    obtain⟨c0,c1,c2⟩:=he.below hb hbel
    have hsz:=hbel.size;go_wp2_with fail;refine(isOwned_any G _ (G[k]).fo _ (HV.out.below (hbel.alloc hbel.size _))).mono ?_
    rintro e w1 ⟨rfl,hb1⟩;obtain⟨d0,d1,d2,hb1w,hlt1⟩:=bxG3 hb1
    have hbel1:=below_trans hbel hb1w;clear c0 c1 c2 hbel hb1 hb1w d0 d1 d2;cases hp:G.any (Pp.ownF (G[k]).fo)with
    |true=>
     have HP2:=hid (show∀j (h:j<G.length),j<k+1→G.any (Pp.ownF (G[j]).fo)=true from fun j h1 h2=>by
      by_cases e:j=k
      · subst e;exact hp
      · exact HP.out j h1 (by omega))
     clear hp;go_wp2_with fail;go_roundw
     case rel=>exact⟨k+1,by omega,by simp,HP2,hbel1⟩
     case measure=>simp[intOf];omega
    |false=>
     have HE:=hid (show 5=Pp.ownsE G from Pp.owns_no hlt hp);clear hp;go_wp2_with fail;go_ret;exact⟨Pp.ret_int HE.out,hbel1⟩
  · have HE:=hid (show 0=Pp.ownsE G from Pp.owns_yes (fun j h=>HP.out j h (by omega)))
    go_wp2_with fail;go_ret;exact⟨Pp.ret_int HE.out,hbel⟩
set_option maxHeartbeats 2000000 in
theorem gcheck_any (G:List Gr) (v:Value) (w:World) (hv:LiesG w v G) (hs:SizedG G):
    Calls Tryz.prog 46 #[v] w fun e w'=>e= .returned (.int .i64 (Pp.gchE G))∧Below w.heap.size w w':=by
 have HV:=ghid hv;have HS:=ghid hs;obtain⟨a,cap,rfl,hcap,hcap2,hLL⟩:=hv
 have HL:Hid (∀i (h:i<G.length),∃b o,a=some ⟨b,o,none⟩∧b<w.heap.size∧GrAt w b (o+i*3) G[i]):=hLL;clear hLL hs;by_cases h60:60<G.length
 · have HE:=hid (show 2=Pp.gchE G from(Pp.gch_many h60).symm)
   have h60':60<(G.length:Int):=by omega
   go_enter Tryz.func46,Tryz.ntmps46
   go_wp2_with fail;go_ret;exact⟨Pp.ret_int HE.out,Below.refl _ _⟩
 · have h60': ¬60<(G.length:Int):=by omega
   go_enter Tryz.func46,Tryz.ntmps46
   go_wp2_with fail;go_loopw [11] (fun i wr=> ∃k:Nat,k≤G.length∧i= .int .i64 k∧Hid (∀j (h:j<G.length),j<k→Pp.grE G[j]=0)∧Below w.heap.size w wr) (fun i _=>G.length-(intOf i).toNat)
   case atStart=>exact⟨0,Nat.zero_le _,rfl,(fun j _ h=>absurd h (Nat.not_lt_zero _): ∀j (h:j<G.length),j<0→Pp.grE G[j]=0),Below.refl _ _⟩
   case round=>
    obtain⟨k,hk,rfl,HP,hbel⟩:=hrel
    by_cases hlt:k<G.length
    · obtain⟨b,o,rfl,hb,he⟩:=HL.out k hlt
      obtain⟨c0,c1,c2⟩:=he.below hb hbel
      have hsz:=HS.out _ (List.getElem_mem hlt);go_wp2_with fail;refine(checkGrant_any G[k] _ hsz.1 hsz.2).mono ?_
      rintro e w1 ⟨rfl,hb1⟩
      first
       |(have hbel1:=below_trans hbel hb1)
       |(have hbel1:=below_trans hbel (bxG3 hb1).2.2.2.1)
      clear c0 c1 c2 hbel hb1;by_cases hp:Pp.grE G[k]=0
      · rw[hp]
        have HP2:=hid (show∀j (h:j<G.length),j<k+1→Pp.grE G[j]=0 from fun j h1 h2=>by
         by_cases e:j=k
         · subst e;exact hp
         · exact HP.out j h1 (by omega))
        clear hp;go_wp2_with fail;go_roundw
        case rel=>exact⟨k+1,by omega,by simp,HP2,hbel1⟩
        case measure=>simp[intOf];omega
      · have hg:=Pp.grs_hit hlt HP.out hp
        have HE:=hid (show Pp.grE G[k]=Pp.gchE G from by rw[Pp.gch_grs h60 (by rw[hg];exact hp),hg]);have hz:(Pp.grE G[k]==0)=false:=by simpa using hp
        clear hg hp;generalize Pp.grE G[k]=x at*;go_wp2_with fail;go_ret;exact⟨Pp.ret_int HE.out,hbel1⟩
    · have HG0:=ghid (Pp.grs_all (fun j h=>HP.out j h (by omega)))
      clear HP;go_wp2_with fail;refine(grises_any G _ _ (HV.out.below hbel) (by omega)).mono ?_
      rintro e w1 ⟨rfl,hb1⟩;have hbel1:=below_trans hbel hb1;clear hbel hb1;cases hr:Pp.risG G with
      |false=>
       have HE:=hid (show 4=Pp.gchE G from(Pp.gch_ris h60 HG0.out hr).symm);clear hr;go_wp2_with fail;go_ret;exact⟨Pp.ret_int HE.out,hbel1⟩
      |true=>
       have HE:=hid (show Pp.ownsE G=Pp.gchE G from(Pp.gch_own h60 HG0.out hr).symm);clear hr;go_wp2_with fail;refine(checkOwners_any G _ _ (HV.out.below hbel1)).mono ?_
       rintro e w2 ⟨rfl,hb2⟩;go_wp2_with fail;go_ret;exact⟨Pp.ret_int HE.out,below_trans hbel1 hb2⟩
end Go.Proofs.YtppdfeehhnofaaaGreatDoor
namespace Go.Proofs.YtppdfeehhnofaaaGreatDoor
open Go.RowKit

/-- A shared folder: its name, its journal. -/
structure Sh where
 na:ByteArray
 jo:Jo
/-- A hub: its folders, its grants, its uploads (sessions, next, lasts, room), its time. -/
structure Hb where
 fos:List Sh
 gs:List Gr
 ss:List Se
 nx:Int
 la:Int
 ro:Int
 now:Int
def ShAt (w:World) (b o:Nat) (s:Sh):Prop:=w.cell? ⟨b,o,none⟩=some (.string s.na)∧ ∃u x,w.cell? ⟨b,o+1,none⟩=some u∧w.cell? ⟨b,o+2,none⟩=some (.int .i64 s.jo.first)∧w.cell? ⟨b,o+3,none⟩=some x∧Lies w u s.jo.base∧LiesO w x s.jo.cos
def LiesF (w:World) (v:Value) (l:List Sh):Prop:= ∃a cap,v= .slice a l.length cap∧l.length≤cap∧l.length≤1000000000000000∧ ∀i (h:i<l.length),∃b o,a=some ⟨b,o,none⟩∧b<w.heap.size∧ShAt w b (o+i*4) l[i]
def LiesH (w:World) (v:Value) (h:Hb):Prop:= ∃vf vg vs,v= .agg #[vf,vg,vs,.int .i64 h.nx,.int .i64 h.la,.int .i64 h.ro,.int .i64 h.now]∧LiesF w vf h.fos∧LiesG w vg h.gs∧LiesS w vs h.ss
theorem ShAt.below {w w':World} {b o:Nat} {s:Sh} (h:ShAt w b o s) (hb:b<w.heap.size) (hw:Below w.heap.size w w'):ShAt w' b o s:=by
 obtain⟨h0,u,x,h1,h2,h3,h4,h5⟩:=h
 exact⟨(hw.cell (p:=⟨b,o,none⟩) hb).trans h0,u,x,(hw.cell (p:=⟨b,o+1,none⟩) hb).trans h1,(hw.cell (p:=⟨b,o+2,none⟩) hb).trans h2,(hw.cell (p:=⟨b,o+3,none⟩) hb).trans h3,h4.below hw,h5.below hw⟩
theorem LiesF.below {w w':World} {v:Value} {l:List Sh} (h:LiesF w v l) (hw:Below w.heap.size w w'):LiesF w' v l:=by
 obtain⟨a,cap,hv,h1,h2,h3⟩:=h
 refine⟨a,cap,hv,h1,h2,fun i hi=>?_⟩
 obtain⟨b,o,ha,hb,he⟩:=h3 i hi
 exact⟨b,o,ha,Nat.lt_of_lt_of_le hb hw.size,he.below hb hw⟩
theorem LiesH.below {w w':World} {v:Value} {h:Hb} (hl:LiesH w v h) (hw:Below w.heap.size w w'):LiesH w' v h:=by
 obtain⟨vf,vg,vs,rfl,h1,h2,h3⟩:=hl
 exact⟨vf,vg,vs,rfl,h1.below hw,h2.below hw,h3.below hw⟩
theorem liesF_nil (w:World):LiesF w (.slice none 0 0) []:=⟨none,0,rfl,Nat.le_refl _,by decide,fun i h=>absurd h (by simp)⟩
def SizedF (l:List Sh):Prop:= ∀s∈l,s.na.size≤150000000000000∧Sized s.jo.base∧SizedO 150000000000000 s.jo.cos
structure SizedH (h:Hb):Prop where
 fos:SizedF h.fos
 gs:SizedG h.gs
 ss:SizedS h.ss
namespace Hu
/-- Of one folder: its name, its journal. -/
def shE (s:Sh):Int:=if¬Pp.nmsE [s.na]=0 then Pp.nmsE [s.na]else Jn.chkE s.jo
def shsE:List Sh→Int
 |[]=>0
 |s::r=>if¬shE s=0 then shE s else shsE r
def lt (a b:Sh):Bool:=Op.bytesLess a.na.toList b.na.toList
def risB:List Sh→Bool
 |[]=>true
 |[_]=>true
 |a::b::r=>lt a b && risB (b::r)
def cfE (l:List Sh):Int:=if 8<l.length then 2 else if¬shsE l=0 then shsE l else if risB l=true then 0 else 4
theorem ris_iff: ∀(L:List Sh),risB L=true↔ ∀i (h:i+1<L.length),lt L[i] L[i+1]=true
 |[]=>by simp[risB]
 |[_]=>by simp[risB]
 |a::b::r=>by
  rw[risB,Bool.and_eq_true,ris_iff (b::r)];constructor
  · rintro ⟨h1,h2⟩ i h
    cases i with
    |zero=>exact h1
    |succ i=>exact h2 i (by simpa using h)
  · intro h
    exact⟨h 0 (by simp),fun i hi=>h (i+1) (by simpa using hi)⟩
theorem shs_zero {L:List Sh}:shsE L=0↔ ∀i (h:i<L.length),shE L[i]=0:=by
 induction L with
 |nil=>simp[shsE]
 |cons s r ih=>
  rw[shsE];constructor
  · intro h i hi
    by_cases h0:shE s=0
    · rw[if_neg (fun x=>x h0)]at h
      cases i with
      |zero=>exact h0
      |succ i=>exact ih.1 h i (by simpa using hi)
    · rw[if_pos h0]at h;exact absurd h h0
  · intro h
    rw[if_neg (fun x=>x (h 0 (by simp)))];exact ih.2 fun i hi=>h (i+1) (by simpa using hi)
theorem shs_bad {L:List Sh} {k:Nat} (hk:k<L.length) (h: ∀i (h:i<L.length),i<k→shE L[i]=0) (h0: ¬shE L[k]=0):shsE L=shE L[k]:=by
 induction L generalizing k with
 |nil=>exact absurd hk (by simp)
 |cons s r ih=>
  rw[shsE];cases k with
  |zero=>exact if_pos h0
  |succ k=>
   rw[if_neg (fun x=>x (h 0 (by simp) (by omega)))];exact ih (by simpa using hk) (fun i hi hik=>h (i+1) (by simpa using hi) (by omega)) h0
theorem cf_many {L:List Sh} (h:8<L.length):cfE L=2:=by rw[cfE,if_pos h]
theorem cf_bad {L:List Sh} {k:Nat} (h8: ¬8<L.length) (hk:k<L.length) (h: ∀i (h:i<L.length),i<k→shE L[i]=0) (h0: ¬shE L[k]=0):cfE L=shE L[k]:=by
 have e:=shs_bad hk h h0;rw[cfE,if_neg h8,e,if_pos h0]
theorem cf_order {L:List Sh} {m:Nat} (h8: ¬8<L.length) (h: ∀i (h:i<L.length),shE L[i]=0) (hm:m+1<L.length) (hl:lt L[m] L[m+1]=false):cfE L=4:=by
 rw[cfE,if_neg h8,if_neg (fun x=>x (shs_zero.2 h)),if_neg (fun x=>by have:=(ris_iff L).1 x m hm;rw[hl]at this;cases this)]
theorem cf_ok {L:List Sh} (h8: ¬8<L.length) (h: ∀i (h:i<L.length),shE L[i]=0) (hl: ∀i (h:i+1<L.length),lt L[i] L[i+1]=true):cfE L=0:=by
 rw[cfE,if_neg h8,if_neg (fun x=>x (shs_zero.2 h)),if_pos ((ris_iff L).2 hl)]
end Hu
end Go.Proofs.YtppdfeehhnofaaaGreatDoor
namespace Go.Proofs.YtppdfeehhnofaaaGreatDoor
open Go.RowKit

set_option maxRecDepth 100000 in
set_option maxHeartbeats 2000000 in
theorem checkFolders_any (L:List Sh) (v:Value) (w:World) (hv:LiesF w v L) (hs:SizedF L):
    Calls Tryz.prog 45 #[v] w fun e w'=>e= .returned (.int .i64 (Hu.cfE L))∧Below w.heap.size w w':=by
 have HS:=hid hs;obtain⟨a,cap,rfl,hcap,hcap2,hLL⟩:=hv
 have HL:Hid (∀i (h:i<L.length),∃b o,a=some ⟨b,o,none⟩∧b<w.heap.size∧ShAt w b (o+i*4) L[i]):=hLL;clear hLL hs;by_cases h8:8<L.length
 · have HE:=hid (show 2=Hu.cfE L from(Hu.cf_many h8).symm)
   have h8':8<(L.length:Int):=by omega
   go_enter Tryz.func45,Tryz.ntmps45
   go_wp2_with fail;go_ret;exact⟨Pp.ret_int HE.out,Below.refl _ _⟩
 have H8:=hid h8;have h8': ¬8<(L.length:Int):=by omega
 go_enter Tryz.func45,Tryz.ntmps45
 go_wp2_with fail;go_loopw [13] (fun i wr=> ∃k:Nat,k≤L.length∧i= .int .i64 k∧Hid (∀i (h:i<L.length),i<k→Hu.shE L[i]=0)∧Below w.heap.size w wr) (fun i _=>L.length-(intOf i).toNat)
 case atStart=>exact⟨0,Nat.zero_le _,rfl,(fun i _ h=>absurd h (Nat.not_lt_zero _): ∀i (h:i<L.length),i<0→Hu.shE L[i]=0),Below.refl _ _⟩
 case round=>
  obtain⟨k,hk,rfl,HP,hbel⟩:=hrel
  by_cases hlt:k<L.length
  · obtain⟨b,o,rfl,hb,he⟩:=HL.out k hlt
    obtain⟨c0,u,x,c1,c2,c3,hu,hx⟩:=he.below hb hbel
    have HZ:=hid (HS.out L[k] (List.getElem_mem hlt));have HBAD:=hid (show¬Hu.shE L[k]=0→Hu.cfE L=Hu.shE L[k]from fun h0=>Hu.cf_bad H8.out hlt HP.out h0)
    have HNX:=hid (show Hu.shE L[k]=0→ ∀i (h:i<L.length),i<k+1→Hu.shE L[i]=0 from fun h0 i h1 h2=>by
     by_cases e:i=k
     · subst e;exact h0
     · exact HP.out i h1 (by omega))
    clear he;generalize L[k]=s at*;obtain⟨na,⟨jb,jf,jc⟩⟩:=s
    simp only at c0 c1 c2 c3 hu hx;have HU:=hid hu;have HX:=hid hx;obtain⟨ua,uc,rfl,_⟩:=hu
    obtain⟨xa,xc,rfl,_⟩:=hx
    obtain⟨wx,hwx⟩: ∃wx,wx=wr.alloc (.cells #[.string na,.slice ua jb.length uc,.int .i64 jf,.slice xa jc.length xc] 90):=⟨_,rfl⟩
    obtain⟨wy,hwy⟩: ∃wy,wy=wx.alloc (.cells #[.string na] 9):=⟨_,rfl⟩
    have sx:wx.heap.size=wr.heap.size+1:=by rw[hwx];simp
    have bwx:Below wr.heap.size wr wx:=by rw[hwx];exact(Below.refl _ _).alloc (Nat.le_refl _) _
    have bwy:Below wx.heap.size wx wy:=by rw[hwy];exact(Below.refl _ _).alloc (Nat.le_refl _) _
    have hby:Below wr.heap.size wr wy:=below_tr bwx bwy;have HB:Hid (Cs wy wr.heap.size [.string na,.slice ua jb.length uc,.int .i64 jf,.slice xa jc.length xc]):=((by rw[hwx];exact Cs.new wr [.string na,.slice ua jb.length uc,.int .i64 jf,.slice xa jc.length xc] _:Cs wx wr.heap.size [.string na,.slice ua jb.length uc,.int .i64 jf,.slice xa jc.length xc]).below bwy:Cs wy wr.heap.size _)
    have HN:=hid (show Cs wy (wr.heap.size+1) [.string na]from by rw[←sx,hwy];exact Cs.new wx [.string na] _);have HWY:=hid (show(wr.alloc (.cells #[.string na,.slice ua jb.length uc,.int .i64 jf,.slice xa jc.length xc] 90)).alloc (.cells #[.string na] 9)=wy from by rw[hwy,hwx]);clear hwx hwy bwx bwy sx;go_wp2_with fail;rw[HWY.out];clear HWY c0 c1 c2 c3
    refine(names_any [na] (wr.heap.size+1) 0 1 wy HN.out.lt (fun i hi=>by
     match i,hi with
     |0,_=>show na.size≤_;have:na.size≤150000000000000:=HZ.out.1;omega) (by simp) (fun i hi=>by
     match i,hi with
     |0,_=>exact HN.out.cell 0 rfl)).mono ?_
    rintro e w1 ⟨rfl,hb1⟩;have hy1:=below_tr hby hb1;have hbel1:=below_tr hbel hy1;have HB1:=hid (HB.out.below hb1);by_cases hn:Pp.nmsE [na]=0
    · have HQ:=hid (show Hu.shE ⟨na,⟨jb,jf,jc⟩⟩=Jn.chkE ⟨jb,jf,jc⟩from by rw[Hu.shE,if_neg (fun x=>x hn)])
      have c1:=HB1.out.cell 1 rfl;have c2:=HB1.out.cell 2 rfl;have c3:=HB1.out.cell 3 rfl;rw[hn];clear hn;go_wp2_with fail;refine(jcheck_any ⟨jb,jf,jc⟩ _ _ ⟨_,_,rfl,HU.out.below hy1,HX.out.below hy1⟩ HZ.out.2.1 HZ.out.2.2).mono ?_
      rintro e w2 ⟨rfl,hb2⟩;have hbel2:=below_tr hbel1 hb2;clear c1 c2 c3;rw[←HQ.out];by_cases h0:Hu.shE ⟨na,⟨jb,jf,jc⟩⟩=0
      · have HP2:=hid (HNX.out h0)
        rw[h0];clear h0 HBAD HNX HQ;go_wp2_with fail;go_roundw
        case rel=>exact⟨k+1,by omega,by simp,HP2,hbel2⟩
        case measure=>simp[intOf];omega
      · have HE:=hid (HBAD.out h0)
        have hz:(Hu.shE ⟨na,⟨jb,jf,jc⟩⟩==0)=false:=by simpa using h0
        have hz2:(Hu.shE ⟨na,⟨jb,jf,jc⟩⟩ !=0)=true:=by simpa using h0
        clear h0 HBAD HNX HQ;generalize Hu.shE ⟨na,⟨jb,jf,jc⟩⟩=r at*;go_wp2_with fail;go_ret;exact⟨by rw[HE.out];rfl,hbel2⟩
    · have HQ:=hid (show Hu.shE ⟨na,⟨jb,jf,jc⟩⟩=Pp.nmsE [na]from by rw[Hu.shE,if_pos hn])
      have HE:=hid (show Hu.cfE L=Pp.nmsE [na]from by rw[←HQ.out];exact HBAD.out (by rw[HQ.out];exact hn));have hz:(Pp.nmsE [na]==0)=false:=by simpa using hn
      have hz2:(Pp.nmsE [na] !=0)=true:=by simpa using hn
      clear HQ HBAD HNX hn;generalize Pp.nmsE [na]=r at*;go_wp2_with fail;go_ret;exact⟨by rw[HE.out];rfl,hbel1⟩
  · have HA:=hid (show∀i (h:i<L.length),Hu.shE L[i]=0 from fun i h=>HP.out i h (by omega))
    go_wp2_with fail;go_loopw [7] (fun i wr=> ∃m:Nat,m≤L.length∧i= .int .i64 ((m:Int)+1)∧Hid (∀i (h:i+1<L.length),i<m→Hu.lt L[i] L[i+1]=true)∧Below w.heap.size w wr) (fun i _=>L.length+2-(intOf i).toNat)
    case atStart=>exact⟨0,Nat.zero_le _,rfl,(fun i _ h=>absurd h (Nat.not_lt_zero _): ∀i (h:i+1<L.length),i<0→Hu.lt L[i] L[i+1]=true),hbel⟩
    case round=>
     clear hbel;obtain⟨m,hm,rfl,HR,hbel⟩:=hrel
     by_cases hlt2:m+1<L.length
     · obtain⟨b,o,rfl,hb,he⟩:=HL.out m (by omega)
       obtain⟨c0,_⟩:=he.below hb hbel
       obtain⟨b',o',hbo,hb',he'⟩:=HL.out (m+1) hlt2
       obtain⟨rfl,rfl⟩:b=b'∧o=o':=by simpa using hbo
       obtain⟨d0,_⟩:=he'.below hb hbel
       have hlt3:(m:Int)+1<L.length:=by omega
       clear hbo he he';cases hl:Hu.lt L[m] L[m+1]with
       |true=>
        have hl2:Op.bytesLess (L[m]).na.toList (L[m+1]).na.toList=true:=hl
        have HL2:=hid (show∀i (h:i+1<L.length),i<m+1→Hu.lt L[i] L[i+1]=true from fun i h1 h2=>by
         by_cases e:i=m
         · subst e;exact hl
         · exact HR.out i h1 (by omega))
        clear hl;go_wp2_with fail;go_region
        go_wp2;go_roundw
        case rel=>exact⟨m+1,by omega,by simp,HL2,hbel.drew⟩
        case measure=>simp[intOf];omega
       |false=>
        have hl2:Op.bytesLess (L[m]).na.toList (L[m+1]).na.toList=false:=hl;have HE:=hid (Hu.cf_order H8.out HA.out hlt2 hl);clear hl;go_wp2_with fail;go_region
        go_wp2;go_ret;exact⟨by rw[HE.out];rfl,hbel.drew⟩
     · have HE:=hid (show Hu.cfE L=0 from Hu.cf_ok H8.out HA.out fun i h=>HR.out i h (by omega))
       go_wp2_with fail;go_ret;exact⟨by rw[HE.out];rfl,hbel⟩
end Go.Proofs.YtppdfeehhnofaaaGreatDoor
