/- What the reference's ChangeOf answers, for every change of a tree that passes Check. -/
import Derived.Test.YtdifomkoegmngaaGreatDoorRKF
import Derived.Test.YtdifomkoegmngaaGreatDoorRKJ
import Derived.Test.YtdifomkoegmngaaGreatDoorRKK
import Derived.Test.YtdifomkoegmngaaGreatDoorRKL
import Derived.Test.YtdifomkoegmngaaGreatDoorRKH
import Derived.Test.YtdifomkoegmngaaGreatDoorRKA
import Derived.Test.YtdifomkoegmngaaGreatDoorRKB
import Derived.BigQuiet
set_option linter.unusedSimpArgs false
set_option linter.unusedVariables false
namespace Go.Proofs.YtdifomkoegmngaaGreatDoor
open Go.RowKit

theorem changeOf_any (L:List En) (v:Value) (k:Int) (p q t:ByteArray) (b n:Int) (w:World) (hv:Lies w v L) (hp:p.size≤1000000000) (hq:q.size≤1000000000) (ht:t.size≤1000000000) (hL:Pp.Good L) (hver:Pp.verE n=0):
    Calls Tryz.prog 75 #[v,.agg #[.int .i64 k,.string p,.string q,.string t,.int .i64 b],.int .i64 n] w fun e w'=> ∃u,e= .returned (.tuple #[u,.int .i64 (Pp.appE L ⟨k,p,q,t,b⟩ n)])∧(Pp.appE L ⟨k,p,q,t,b⟩ n=0→Lies w' u (Pp.chdR L ⟨k,p,q,t,b⟩ n))∧Below w.heap.size w w':=by
 have hs: ∀e∈L,e.path.size≤1000000000:=fun e he=>by
  have:=Pp.chk_len (Pp.entE_path (hL.ents e he))
  rw[Lib.size_eq];omega
 by_cases hc:Pp.chgE ⟨k,p,q,t,b⟩=0
 · by_cases hpl:Pp.plcE L ⟨k,p,q,t,b⟩=0
   · have hr:Pp.appE L ⟨k,p,q,t,b⟩ n=Pp.rstE L ⟨k,p,q,t,b⟩ n:=by
      rw[Pp.appE,if_neg (fun x=>x hver),if_neg (fun x=>x hc),if_neg (fun x=>x hpl)];rfl
     rw[hr];have h4:1≤k∧k≤4:=Pp.chg_kind hc;obtain⟨h0,hcs⟩:=Pp.plc_ok h4 hpl
     have hrest:=Pp.chg_rest hc;rcases hcs with⟨rfl,hi⟩|⟨rfl,hi⟩|⟨rfl,j,hj,hi,hx⟩|⟨rfl,⟨j,hj,hi⟩,hx,hi2,hf2⟩|⟨rfl,j,hj,hi⟩
     · have ht0:t=⟨#[]⟩:=by
        rcases hrest.2.1 with h2|h2
        · exact absurd (show(1:Int)=2 from h2) (by decide)
        · exact Pp.no_text h2
       subst ht0;exact changeOf_mk L v p q b n w hv hs hp hq hL hc (hid (by simpa[Pp.goal]using h0)) hi
     · exact changeOf_wr L v p q t b n w hv hs hp hq ht hL hc (hid (by simpa[Pp.goal]using h0)) hi
     · exact changeOf_rw L v p q t b n w hv hs hp hq ht hL hc (hid (by simpa[Pp.goal]using h0)) j hj hi hx
     · exact changeOf_mv L v p q t b n w hv hs hp hq ht hL hc (hid (by simpa[Pp.goal]using h0)) j hj hi hx hi2 hf2
     · exact changeOf_del L v p q t b n w hv hs hp hq ht hL hc (hid (by simpa[Pp.goal]using h0)) j hj hi
   · have hr:Pp.appE L ⟨k,p,q,t,b⟩ n=Pp.plcE L ⟨k,p,q,t,b⟩:=Pp.app_plc hver hc hpl
     rw[hr];refine(changeOf_place L v k p q t b n w hv hp hq ht hc hpl).mono ?_
     rintro e w1 ⟨rfl,hb⟩;exact⟨_,rfl,fun h=>absurd h hpl,hb⟩
 · have hr:Pp.appE L ⟨k,p,q,t,b⟩ n=Pp.chgE ⟨k,p,q,t,b⟩:=Pp.app_chg hver hc
   rw[hr];refine(changeOf_form L v k p q t b n w hp hq ht hc).mono ?_
   rintro e w1 ⟨rfl,hb⟩;exact⟨_,rfl,fun h=>absurd h hc,hb⟩
namespace Pp
theorem ent_cases (e:En):
    (¬chk e.path.data.toList=0∧entE e=chk e.path.data.toList)∨
    (chk e.path.data.toList=0∧e.folder=true∧e.text.toList.isEmpty=false∧entE e=1)∨
    (chk e.path.data.toList=0∧e.folder=false∧300<(e.text.size:Int)∧entE e=2)∨
    (chk e.path.data.toList=0∧e.folder=true∧e.text.toList.isEmpty=true∧(e.text.size:Int)≤300∧entE e=verE e.ver)∨
    (chk e.path.data.toList=0∧e.folder=false∧(e.text.size:Int)≤300∧entE e=verE e.ver):=by
 by_cases hz:chk e.path.data.toList=0
 · refine Or.inr ?_
   have hE:entE e=if e.folder=true∧ ¬e.text.data.toList=[]then 1 else if 300<e.text.size then 2 else verE e.ver:=by rw[entE,if_pos hz]
   cases hx:e.folder with
   |true=>
    cases hc:e.text.toList.isEmpty with
    |false=>exact Or.inl ⟨hz,rfl,rfl,by rw[hE,if_pos ⟨hx,not_empty hc⟩]⟩
    |true=>
     have ht0:e.text.size=0:=by rw[Lib.size_eq,(empty_iff e.text).1 hc];rfl
     exact Or.inr (Or.inr (Or.inl ⟨hz,rfl,rfl,by omega,by rw[hE,if_neg (fun h=>h.2 ((empty_iff e.text).1 hc)),if_neg (by omega)]⟩))
   |false=>
    by_cases hl:300<e.text.size
    · exact Or.inr (Or.inl ⟨hz,rfl,by omega,by rw[hE,hx,if_neg (fun h=>by cases h.1),if_pos hl]⟩)
    · exact Or.inr (Or.inr (Or.inr ⟨hz,rfl,by omega,by rw[hE,hx,if_neg (fun h=>by cases h.1),if_neg hl]⟩))
 · exact Or.inl ⟨hz,by rw[entE,if_neg hz]⟩
theorem pars4 {L:List En} {k:Nat} (hlt:k<L.length) (h: ∀j (h:j<L.length),parF L L[j]≠5) (hk:parF L L[k]≠0):4=parsE L L:=by
 have h4:parF L L[k]=4:=by
  rcases foldE_range L (par (L[k]).path.data.toList)with h0|h0|h0
  · exact absurd h0 hk
  · exact h0
  · exact absurd h0 (h k hlt)
 have n5: ¬L.any (fun e=>parF L e==5)=true:=by
  intro h5;obtain⟨x,hx,h6⟩:=List.any_eq_true.1 h5
  obtain⟨j,hj,rfl⟩:=List.getElem_of_mem hx
  exact h j hj (by simpa using h6)
 have y4:L.any (fun e=>parF L e==4)=true:=List.any_eq_true.2 ⟨L[k],List.getElem_mem hlt,by simp[h4]⟩;rw[parsE,if_neg n5,if_pos y4]
theorem pars0 {L:List En} (h: ∀j (h:j<L.length),parF L L[j]=0):0=parsE L L:=by
 have n: ∀c:Int,c≠0→ ¬L.any (fun e=>parF L e==c)=true:=by
  intro c hc h5;obtain⟨x,hx,h6⟩:=List.any_eq_true.1 h5
  obtain⟨j,hj,rfl⟩:=List.getElem_of_mem hx
  rw[h j hj]at h6;exact hc (by simpa using h6:(0:Int)=c).symm
 rw[parsE,if_neg (n 5 (by decide)),if_neg (n 4 (by decide))]
theorem lt_flip {x y:En} (h:lt x y=true):lt y x=false∧(y.path.toList==x.path.toList)=false:=by
 constructor
 · cases h2:lt y x with
   |false=>rfl
   |true=>
    have:=lt_trans _ _ _ h h2
    rw[lt_irrefl]at this;cases this
 · rw[beq_eq_false_iff_ne]
   intro e;have e2:lt x y=lt x x:=by rw[lt,lt,e]
   rw[e2,lt_irrefl]at h;cases h
theorem lt_no {x y:En} (h:lt x y=false):lt y x=true∨(lt y x=false∧(y.path.toList==x.path.toList)=true):=by
 cases h2:lt y x with
 |true=>exact Or.inl rfl
 |false=>
  refine Or.inr ⟨rfl,?_⟩
  rw[Lib.toList_data,Lib.toList_data,lt_same h2 h];simp
theorem ver_zero {n:Int}:verE n=0↔1≤n∧n≤1000000:=by
 unfold verE;split<;>omega
end Pp

set_option maxHeartbeats 400000 in
theorem isVersion_any (n:Int) (w:World):
    Calls Tryz.prog 50 #[.int .i64 n] w fun e w'=>e= .returned (.bool (Pp.verE n==0))∧w'=w:=by
 by_cases h1:1≤n
 · by_cases h2:n≤1000000
   · have HE:=hid (show true=(Pp.verE n==0)from by rw[Pp.ver_zero.2 ⟨h1,h2⟩];rfl)
     go_enter Tryz.func50,Tryz.ntmps50
     go_wp2;go_ret;exact⟨Pp.ret_bool HE.out,rfl⟩
   · have HE:=hid (show false=(Pp.verE n==0)from by symm;rw[beq_eq_false_iff_ne];exact fun h=>h2 (Pp.ver_zero.1 h).2)
     go_enter Tryz.func50,Tryz.ntmps50
     go_wp2;go_ret;exact⟨Pp.ret_bool HE.out,rfl⟩
 · have HE:=hid (show false=(Pp.verE n==0)from by symm;rw[beq_eq_false_iff_ne];exact fun h=>h1 (Pp.ver_zero.1 h).1)
   go_enter Tryz.func50,Tryz.ntmps50
   go_wp2;go_ret;exact⟨Pp.ret_bool HE.out,rfl⟩
set_option maxHeartbeats 2000000 in
theorem rCheckTree_any (L:List En) (v:Value) (w:World) (hv:Lies w v L) (hs: ∀e∈L,e.path.size≤1000000000):
    Calls Tryz.prog 49 #[v] w fun e w'=>e= .returned (.int .i64 (Pp.treeE L))∧Below w.heap.size w w':=by
 have HV:Hid (Lies w v L):=hv;have HS:Hid (∀e∈L,e.path.size≤1000000000):=hs;obtain⟨a,cap,rfl,hcap,hcap2,hL⟩:=hv
 have HL:Hid (∀i (h:i<L.length),∃b o,a=some ⟨b,o,none⟩∧b<w.heap.size∧EnAt w b (o+i*4) L[i]):=hL;clear hL hs;by_cases h60:60<(L.length:Int)
 · have HE:=hid (show 2=Pp.treeE L from by rw[Pp.treeE,if_pos (by omega)])
   go_enter Tryz.func49,Tryz.ntmps49
   go_wp2_with fail;go_ret;exact⟨Pp.ret_int HE.out,Below.refl _ _⟩
 have HT:=hid (show Pp.treeE L=if Pp.entsE L=0 then(if Pp.risesB L=true then Pp.parsE L L else 4)else Pp.entsE L from by rw[Pp.treeE,if_neg (by omega)]);go_enter Tryz.func49,Tryz.ntmps49
 go_wp2_with fail;go_loopw [3] (fun i wr=> ∃k:Nat,k≤L.length∧i= .int .i64 k∧Hid (Pp.entsE L=Pp.entsE (L.drop k))∧Below w.heap.size w wr) (fun i _=>L.length-(intOf i).toNat)
 case atStart=>exact⟨0,Nat.zero_le _,rfl,(rfl:Pp.entsE L=Pp.entsE (L.drop 0)),Below.refl _ _⟩
 case round=>
  obtain⟨k,hk,rfl,HQ,hbel⟩:=hrel
  by_cases hlt:k<L.length
  · obtain⟨b,o,rfl,hb,he⟩:=HL.out k hlt
    obtain⟨c0,c1,c2,c3⟩:=he.below hb hbel
    have HD:Hid (L.drop k=L[k]::L.drop (k+1)):=List.drop_eq_getElem_cons hlt;have hsz:=HS.out L[k] (List.getElem_mem hlt)
    have HN := hid (show Pp.entE L[k] ≠ 0 → Pp.entE L[k] = Pp.treeE L from fun hz => by
        have e1:Pp.entsE L=Pp.entE L[k]:=by rw[HQ.out,HD.out,Pp.entsE,if_neg hz]
        rw[HT.out,if_neg (by rw[e1];exact hz),e1])
    have HG:=hid (show Pp.entE L[k]=0→Pp.entsE L=Pp.entsE (L.drop (k+1))from fun hz=>by rw[HQ.out,HD.out,Pp.entsE,if_pos hz]);rcases Pp.ent_cases L[k]with⟨hz,hE⟩|⟨hz,hx,hc,hE⟩|⟨hz,hx,hc,hE⟩|⟨hz,hx,hc,hc2,hE⟩|⟨hz,hx,hc2,hE⟩
    · have HE:=hid (show Pp.chk (L[k]).path.data.toList=Pp.treeE L from by rw[←hE];exact HN.out (by rw[hE];exact hz))
      have hz2:(Pp.chk (L[k]).path.data.toList==0)=false:=by simpa using hz
      clear hE;go_wp2_with fail;refine(rCheck_any (L[k]).path _ hsz).mono ?_
      rintro e w1 ⟨rfl,hb1⟩;have hbel1:=below_trans hbel hb1;clear c0 c1 c2 c3 hbel hb1;go_wp2_with fail;go_ret;exact⟨Pp.ret_int HE.out,hbel1⟩
    · have HE:=hid (show 1=Pp.treeE L from by rw[←HN.out (by rw[hE];decide),hE])
      have HZ:Hid (Pp.chk (L[k]).path.data.toList=0):=hz;clear hE hz;go_wp2_with fail;refine(rCheck_any (L[k]).path _ hsz).mono ?_
      rintro e w1 ⟨rfl,hb1⟩;rw[HZ.out];have hbel1:=below_trans hbel hb1;obtain⟨d0,d1,d2,d3⟩:=he.below hb hbel1
      rw[hx]at d1;clear c0 c1 c2 c3 hbel hb1 hx;go_wp2_with fail;go_ret;exact⟨Pp.ret_int HE.out,hbel1⟩
    · have HE:=hid (show 2=Pp.treeE L from by rw[←HN.out (by rw[hE];decide),hE])
      have HZ:Hid (Pp.chk (L[k]).path.data.toList=0):=hz;clear hE hz;go_wp2_with fail;refine(rCheck_any (L[k]).path _ hsz).mono ?_
      rintro e w1 ⟨rfl,hb1⟩;rw[HZ.out];have hbel1:=below_trans hbel hb1;obtain⟨d0,d1,d2,d3⟩:=he.below hb hbel1
      rw[hx]at d1;clear c0 c1 c2 c3 hbel hb1 hx;go_wp2_with fail;go_ret;exact⟨Pp.ret_int HE.out,hbel1⟩
    all_goals
     have HZ:Hid (Pp.chk (L[k]).path.data.toList=0):=hz;have HVE:Hid (Pp.entE L[k]=Pp.verE (L[k]).ver):=hE;clear hE hz;go_wp2_with fail;refine(rCheck_any (L[k]).path _ hsz).mono ?_
     rintro e w1 ⟨rfl,hb1⟩;rw[HZ.out];have hbel1:=below_trans hbel hb1;obtain⟨d0,d1,d2,d3⟩:=he.below hb hbel1
     rw[hx]at d1;clear c0 c1 c2 c3 hbel hb1 hx;go_wp2_with fail;refine(isVersion_any (L[k]).ver _).mono ?_
     rintro e w2 ⟨rfl,rfl⟩;cases hq:(Pp.verE (L[k]).ver==0)with
     |true=>
      have HR:=hid (show Pp.entsE L=Pp.entsE (L.drop (k+1))from HG.out (by rw[HVE.out];simpa using hq));clear hq;go_wp2_with fail;go_roundw
      case rel=>exact⟨k+1,by omega,by simp,HR,hbel1⟩
      case measure=>simp[intOf];omega
     |false=>
      have HE:=hid (show 3=Pp.treeE L from by
       have h0:Pp.verE (L[k]).ver≠0:=by simpa using hq
       have h3:Pp.verE (L[k]).ver=3:=by unfold Pp.verE at h0⊢;split<;>simp_all
       rw[←HN.out (by rw[HVE.out];exact h0),HVE.out,h3])
      clear hq;go_wp2_with fail;go_ret;exact⟨Pp.ret_int HE.out,hbel1⟩
  · have HX:=hid (show Pp.treeE L=if Pp.risesB L=true then Pp.parsE L L else 4 from by
     have e0:Pp.entsE L=0:=by rw[HQ.out,List.drop_eq_nil_of_le (by omega)];rfl
     rw[HT.out,if_pos e0])
    clear HQ HT;go_wp2_with fail;clear hlt hk;go_loopw [5] (fun i wr=> ∃m:Nat,m≤L.length∧i= .int .i64 ((m:Int)+1)∧Hid (∀i (h:i+1<L.length),i<m→Pp.lt L[i] L[i+1]=true)∧Below w.heap.size w wr) (fun i _=>L.length+2-(intOf i).toNat)
    case atStart=>exact⟨0,Nat.zero_le _,rfl,(fun i _ h=>absurd h (Nat.not_lt_zero _): ∀i (h:i+1<L.length),i<0→Pp.lt L[i] L[i+1]=true),hbel⟩
    case round=>
     clear hbel;obtain⟨m,hm,rfl,HP,hbel⟩:=hrel
     by_cases hlt:m+1<L.length
     · obtain⟨b,o,rfl,hb,he⟩:=HL.out m (by omega)
       obtain⟨c0,c1,c2,c3⟩:=he.below hb hbel
       obtain⟨b',o',hbo,hb',he'⟩:=HL.out (m+1) hlt
       obtain⟨rfl,rfl⟩:b=b'∧o=o':=by simpa using hbo
       obtain⟨d0,d1,d2,d3⟩:=he'.below hb hbel
       have hlt2:(m:Int)+1<L.length:=by omega
       clear c1 c2 c3 d1 d2 d3 hbo;cases hl:Pp.lt L[m] L[m+1]with
       |true=>
        have hl2:Op.bytesLess (L[m+1]).path.toList (L[m]).path.toList=false:=(Pp.lt_flip hl).1;have hl3:((L[m+1]).path.toList==(L[m]).path.toList)=false:=(Pp.lt_flip hl).2;go_wp2_with fail;go_region
        go_wp2;go_roundw
        case rel=>exact⟨m+1,by omega,by simp,(fun i h1 h2=>by
         by_cases e:i=m
         · subst e;exact hl
         · exact HP.out i h1 (by omega): ∀i (h:i+1<L.length),i<m+1→Pp.lt L[i] L[i+1]=true),hbel.drew⟩
        case measure=>simp[intOf];omega
       |false=>
        have HE:=hid (show 4=Pp.treeE L from by rw[HX.out,←Pp.rises_no hlt hl];rfl);rcases Pp.lt_no hl with hl2|⟨hl2,hl3⟩
        · have hl4:Op.bytesLess (L[m+1]).path.toList (L[m]).path.toList=true:=hl2
          go_wp2_with fail;go_region
          go_wp2;go_ret;exact⟨Pp.ret_int HE.out,hbel.drew⟩
        · have hl4:Op.bytesLess (L[m+1]).path.toList (L[m]).path.toList=false:=hl2
          go_wp2_with fail;go_region
          go_wp2;go_ret;exact⟨Pp.ret_int HE.out,hbel.drew⟩
     · have HY:=hid (show Pp.treeE L=Pp.parsE L L from by rw[HX.out,←Pp.rises_yes fun i h=>HP.out i h (by omega)];rfl)
       clear HX HP;go_wp2_with fail;clear hlt hm;go_loopw [6] (fun i wr=> ∃k:Nat,k≤L.length∧i= .int .i64 k∧Hid (∀j (h:j<L.length),j<k→Pp.parF L L[j]≠5)∧Below w.heap.size w wr) (fun i _=>L.length-(intOf i).toNat)
       case atStart=>exact⟨0,Nat.zero_le _,rfl,(fun j _ h=>absurd h (Nat.not_lt_zero _): ∀j (h:j<L.length),j<0→Pp.parF L L[j]≠5),hbel⟩
       case round=>
        clear hbel;obtain⟨k,hk,rfl,HP,hbel⟩:=hrel
        by_cases hlt:k<L.length
        · obtain⟨b,o,rfl,hb,he⟩:=HL.out k hlt
          obtain⟨c0,c1,c2,c3⟩:=he.below hb hbel
          have hsz:=HS.out L[k] (List.getElem_mem hlt);go_wp2_with fail;refine(parentOf_any (L[k]).path _ hsz).mono ?_
          rintro e w1 ⟨rfl,hb1⟩;have hbel1:=below_trans hbel hb1;clear c0 c1 c2 c3 hbel hb1;go_wp2_with fail;refine(isFolder_any L _ ⟨(Pp.par (L[k]).path.data.toList).toArray⟩ _ (HV.out.below hbel1)).mono ?_
          rintro e w2 ⟨rfl,hb2⟩;have hbel2:=below_trans hbel1 hb2;clear hbel1 hb2;rw[show Pp.foldE L _=Pp.parF L L[k]from rfl];by_cases h5:Pp.parF L L[k]=5
          · have H5:Hid (Pp.parF L L[k]=5):=h5
            have HE:=hid (show 5=Pp.treeE L from by rw[HY.out];exact Pp.parsTo_hit hlt h5);clear h5;rw[H5.out];go_wp2_with fail;go_ret;exact⟨Pp.ret_int HE.out,hbel2⟩
          · have h52:(Pp.parF L L[k]==5)=false:=by simpa using h5
            go_wp2_with fail;go_roundw
            case rel=>exact⟨k+1,by omega,by simp,(fun j h1 h2=>by
             by_cases e:j=k
             · subst e;exact h5
             · exact HP.out j h1 (by omega): ∀j (h:j<L.length),j<k+1→Pp.parF L L[j]≠5),hbel2⟩
            case measure=>simp[intOf];omega
        · have H5:=hid (show∀j (h:j<L.length),Pp.parF L L[j]≠5 from fun j h=>HP.out j h (by omega))
          clear HP;go_wp2_with fail;clear hlt hk;go_loopw [7] (fun i wr=> ∃k:Nat,k≤L.length∧i= .int .i64 k∧Hid (∀j (h:j<L.length),j<k→Pp.parF L L[j]=0)∧Below w.heap.size w wr) (fun i _=>L.length-(intOf i).toNat)
          case atStart=>exact⟨0,Nat.zero_le _,rfl,(fun j _ h=>absurd h (Nat.not_lt_zero _): ∀j (h:j<L.length),j<0→Pp.parF L L[j]=0),hbel⟩
          case round=>
           clear hbel;obtain⟨k,hk,rfl,HP,hbel⟩:=hrel
           by_cases hlt:k<L.length
           · obtain⟨b,o,rfl,hb,he⟩:=HL.out k hlt
             obtain⟨c0,c1,c2,c3⟩:=he.below hb hbel
             have hsz:=HS.out L[k] (List.getElem_mem hlt);go_wp2_with fail;refine(parentOf_any (L[k]).path _ hsz).mono ?_
             rintro e w1 ⟨rfl,hb1⟩;have hbel1:=below_trans hbel hb1;clear c0 c1 c2 c3 hbel hb1;go_wp2_with fail;refine(isFolder_any L _ ⟨(Pp.par (L[k]).path.data.toList).toArray⟩ _ (HV.out.below hbel1)).mono ?_
             rintro e w2 ⟨rfl,hb2⟩;have hbel2:=below_trans hbel1 hb2;clear hbel1 hb2;rw[show Pp.foldE L _=Pp.parF L L[k]from rfl];by_cases h0:Pp.parF L L[k]=0
             · have H0:Hid (Pp.parF L L[k]=0):=h0
               clear h0;rw[H0.out];go_wp2_with fail;go_roundw
               case rel=>exact⟨k+1,by omega,by simp,(fun j h1 h2=>by
                by_cases e:j=k
                · subst e;exact H0.out
                · exact HP.out j h1 (by omega): ∀j (h:j<L.length),j<k+1→Pp.parF L L[j]=0),hbel2⟩
               case measure=>simp[intOf];omega
             · have h02:(Pp.parF L L[k]==0)=false:=by simpa using h0
               have HE:=hid (show 4=Pp.treeE L from by rw[HY.out];exact Pp.pars4 hlt H5.out h0);go_wp2_with fail;go_ret;exact⟨Pp.ret_int HE.out,hbel2⟩
           · have HE:=hid (show 0=Pp.treeE L from by rw[HY.out];exact Pp.pars0 (fun j h=>HP.out j h (by omega)))
             go_wp2_with fail;go_ret;exact⟨Pp.ret_int HE.out,hbel⟩
end Go.Proofs.YtdifomkoegmngaaGreatDoor
namespace Go.Proofs.YtdifomkoegmngaaGreatDoor
open Go.RowKit

namespace Pp
theorem run_ver {n:Int} (h: ¬verE n=0) (L:List En) {cs:List Ch} (hc:0<cs.length):runF n L cs=(0,3,[]):=by
 cases cs with
 |nil=>simp at hc
 |cons c r=>
  have h3:verE n=3:=by
   unfold verE at h⊢;split
   · rfl
   · rename_i h1;rw[if_neg h1]at h;exact absurd rfl h
  rw[runF,if_neg (by rw[app_ver h];exact h),app_ver h,h3]
end Pp

set_option maxRecDepth 100000 in
set_option maxHeartbeats 2000000 in
theorem rAllOf_any (L:List En) (v:Value) (cs:List Pp.Ch) (u:Value) (n:Int) (w:World) (hv:Lies w v L) (hL:Pp.Good L) (hu:LiesC w u cs) (hcs:SizedC 1000000000 cs):
    Calls Tryz.prog 42 #[v,u,.int .i64 n] w fun e w'=> ∃r,e= .returned (.tuple #[r,.int .i64 (Pp.allN L cs n),.int .i64 (Pp.allE L cs n)])∧(Pp.allE L cs n=0→Lies w' r (Pp.allR L cs n))∧Below w.heap.size w w':=by
 have HV:=hid hv;have HL:=hid hL;have HCS:=hid hcs;have htr:=(Pp.good_iff L).2 hL;obtain⟨a,cap,rfl,hcap,hcap2,hC⟩:=hu
 have HC:Hid (∀i (h:i<cs.length),∃b o,a=some ⟨b,o,none⟩∧b<w.heap.size∧ChAt w b (o+i*5) cs[i]):=hC;clear hv hcs hC;by_cases h20:20<cs.length
 · obtain⟨hE,hN,hR⟩:=Pp.all_many htr h20 n
   rw[hE,hN];clear hE hN hR htr hL;have h20':20<(cs.length:Int):=by omega
   go_enter Tryz.func42,Tryz.ntmps42
   go_wp2;go_ret3;exact⟨_,rfl,fun h=>absurd h (by decide),Below.refl _ _⟩
 · have h20': ¬20<(cs.length:Int):=by omega
   have HRUN:=hid (show∀k e R,Pp.runF n L cs=(k,e,R)→Pp.allE L cs n=e∧Pp.allN L cs n=k∧Pp.allR L cs n=R from fun k e R h=>Pp.all_run htr h20 h);clear htr hL;by_cases hz:cs.length=0
   · have hn:cs=[]:=List.length_eq_zero_iff.1 hz
     subst hn;obtain⟨hE,hN,hR⟩:=HRUN.out _ _ _ (runF_nil n L)
     have HE:=hid hE;have HN:=hid hN;have HR:=hid hR;clear hE hN hR hz;simp only[List.length_nil]at hcap hcap2⊢;go_enter Tryz.func42,Tryz.ntmps42
     go_wp2_with fail;go_loopw [0,9] (fun x i wr=>x=v∧i= .int .i64 0∧Below w.heap.size w wr) (fun _ _ _=>0)
     case atStart=>exact⟨rfl,rfl,Below.refl _ _⟩
     case round=>
      obtain⟨rfl,rfl,hbel⟩:=hrel
      go_wp2_with fail;go_ret3;exact⟨_,by rw[HE.out,HN.out];rfl,fun _=>by rw[HR.out];exact HV.out.below hbel,hbel⟩
   · have hz':0<(cs.length:Int):=by omega
     by_cases hver:Pp.verE n=0
     · have HVE:=hid hver
       clear hver;go_enter Tryz.func42,Tryz.ntmps42
       go_wp2_with fail;refine(isVersion_any n _).mono ?_
       rintro e w1 ⟨rfl,hw⟩;rw[hw];clear hw w1;rw[HVE.out];go_wp2_with fail;go_loopw [0,9] (fun x i wr=> ∃(k:Nat) (S:List En),k≤cs.length∧i= .int .i64 k∧Hid (Lies wr x S)∧Hid (Pp.Good S)∧Hid (Pp.Left n L cs S k)∧Below w.heap.size w wr) (fun _ i _=>cs.length-(intOf i).toNat)
       case atStart=>exact⟨0,L,Nat.zero_le _,rfl,HV,HL,Pp.left_zero n L cs,Below.refl _ _⟩
       case round=>
        obtain⟨k,S,hk,rfl,HX,HGS,HLF,hbel⟩:=hrel
        by_cases hlt:k<cs.length
        · obtain⟨b,o,rfl,hb,he⟩:=HC.out k hlt
          obtain⟨c0,c1,c2,c3,c4⟩:=he.below hb hbel
          have HZ:=hid (HCS.out cs[k] (List.getElem_mem hlt));have HNX:=hid (show Pp.appE S cs[k] n=0→Pp.Left n L cs (Pp.chdR S cs[k] n) (k+1)from fun h0=>Pp.left_next HLF.out hlt h0);have HST:=hid (show¬Pp.appE S cs[k] n=0→Pp.runF n L cs=(k,Pp.appE S cs[k] n,[])from fun h0=>Pp.left_stop HLF.out hlt h0);have HGN:=hid (show Pp.appE S cs[k] n=0→Pp.Good (Pp.chdR S cs[k] n)from fun h0=>Pp.app_good HGS.out h0);clear he;generalize cs[k]=ck at*;obtain⟨kk,p,q,t,bs⟩:=ck
          simp only at c0 c1 c2 c3 c4;go_wp2_with fail;refine(changeOf_any S _ kk p q t bs n _ HX.out HZ.out.1 HZ.out.2.1 HZ.out.2.2 HGS.out HVE.out).mono ?_
          rintro e w3 ⟨u3,rfl,hli,hb3⟩;have HLI:=hid hli;have hbel3:=below_trans hbel hb3;clear hb3 hli c0 c1 c2 c3 c4 hbel;by_cases h0:Pp.appE S ⟨kk,p,q,t,bs⟩ n=0
          · have HN:=hid (HNX.out h0)
            have HG3:=hid (HGN.out h0);have HL3:=hid (HLI.out h0);rw[h0];clear h0 HLI HNX HST HGN;go_wp2_with fail;go_roundw
            case rel=>exact⟨k+1,_,by omega,by simp,HL3,HG3,HN,hbel3⟩
            case measure=>simp[intOf];omega
          · obtain⟨hE,hN,hR⟩:=HRUN.out _ _ _ (HST.out h0)
            have hzz:(Pp.appE S ⟨kk,p,q,t,bs⟩ n==0)=false:=by simpa using h0
            have HE:=hid hE;have HN:=hid hN;have H0:=hid h0;clear hE hN hR h0 HLI HNX HST HGN;go_wp2_with fail;go_ret3;exact⟨_,by rw[HE.out,HN.out];rfl,fun h=>absurd (HE.out▸h) H0.out,hbel3⟩
        · obtain rfl:k=cs.length:=by omega
          obtain⟨hE,hN,hR⟩:=HRUN.out _ _ _ (Pp.left_end HLF.out)
          have HE:=hid hE;have HN:=hid hN;have HR:=hid hR;clear hE hN hR;go_wp2_with fail;go_ret3;exact⟨_,by rw[HE.out,HN.out];rfl,fun _=>by rw[HR.out];exact HX.out,hbel⟩
     · obtain⟨hE,hN,hR⟩:=HRUN.out _ _ _ (Pp.run_ver hver L (by omega))
       have HE:=hid hE;have HN:=hid hN;have hzz:(Pp.verE n==0)=false:=by simpa using hver
       clear hE hN hR;go_enter Tryz.func42,Tryz.ntmps42
       go_wp2_with fail;refine(isVersion_any n _).mono ?_
       rintro e w1 ⟨rfl,hw⟩;rw[hw];clear hw w1;go_wp2_with fail;go_ret3;exact⟨_,by rw[HE.out,HN.out];rfl,(fun h=>by rw[HE.out]at h;exact absurd h (by decide)),Below.refl _ _⟩
end Go.Proofs.YtdifomkoegmngaaGreatDoor
namespace Go.Proofs.YtdifomkoegmngaaGreatDoor
open Go.RowKit

/-- A row of trees. -/
def LiesT (w:World) (v:Value) (n:Nat) (f:Nat→List En):Prop:= ∃a cap,v= .slice a n cap∧n≤cap∧n≤1000000∧ ∀i,i<n→ ∃b o u,a=some ⟨b,o,none⟩∧b<w.heap.size∧w.cell? ⟨b,o+i,none⟩=some u∧Lies w u (f i)
theorem LiesT.below {w w':World} {v:Value} {n:Nat} {f:Nat→List En} (h:LiesT w v n f) (hw:Below w.heap.size w w'):LiesT w' v n f:=by
 obtain⟨a,cap,hv,h1,h2,h5⟩:=h
 refine⟨a,cap,hv,h1,h2,fun i hi=>?_⟩
 obtain⟨b,o,u,ha,hb,he,hl⟩:=h5 i hi
 exact⟨b,o,u,ha,Nat.lt_of_lt_of_le hb hw.size,(hw.cell (p:=⟨b,o+i,none⟩) hb).trans he,hl.below hw⟩
theorem liesT_own {w:World} {base:Nat} {v:Value} {T:TypeId} {us:List Value} {f:Nat→List En} (h:w.ownsRow base T 1 v us.length us) (hf: ∀i u,us[i]?=some u→Lies w u (f i)) (hN:us.length≤1000000):LiesT w v us.length f:=by
 have h':=h;obtain⟨hl,h2⟩:=h
 rcases h2 with⟨rfl,hz⟩|⟨g,cap,cur,rfl,hg,hh,hn2,hm,hz,htake⟩
 · exact⟨none,0,by rw[hz],by omega,hN,fun i h=>absurd h (by omega)⟩
 · have hlt:=heap_lt hh
   refine⟨some ⟨g,0,none⟩,cap,rfl,hn2,hN,fun i h=>⟨g,0,us[i],rfl,hlt,?_,hf i _ (List.getElem?_eq_getElem h)⟩⟩
   rw[Nat.zero_add,h'.cellAt i (by omega)];exact List.getElem?_eq_getElem h
theorem Tryz.infoES:(Tryz.prog.info? 22).map (fun i=>(i.zero,i.size,i.bytes))=some (some (.slice none 0 0),1,24):=by kernel_rfl
theorem keyB_of1 {l:List UInt8} (h:Pp.keyE l=1):Pp.keyB l=false:=by
 cases hb:Pp.keyB l with
 |false=>rfl
 |true=>rw[Pp.keyE_yes hb]at h;exact absurd h (by decide)
theorem keyB_of0 {l:List UInt8} (h:Pp.keyE l=0):Pp.keyB l=true:=by
 cases hb:Pp.keyB l with
 |true=>rfl
 |false=>rw[Pp.keyE_no hb]at h;exact absurd h (by decide)
theorem ownsRow_below {w w':World} {base:Nat} {e:TypeId} {size:Nat} {v:Value} {n:Nat} {xs:List Value} (h:w.ownsRow base e size v n xs) (hw:Below w.heap.size w w'):w'.ownsRow base e size v n xs:=
 h.kept (row:=none) ⟨hw.os,hw.tape,hw.output,hw.size,fun k hk _=>hw.block k hk⟩ (by cases h:v.ownBlock with
  |none=>exact Or.inl rfl
  |some g=>exact Or.inr (by simp))
def TrsAt (wr:World) (J:Jo) (us:List Value) (k:Nat):Prop:=us.length=k+1∧ ∀i u,us[i]?=some u→Lies wr u (Jn.trAt J i)
theorem TrsAt.below {w w':World} {J:Jo} {us:List Value} {k:Nat} (h:TrsAt w J us k) (hw:Below w.heap.size w w'):TrsAt w' J us k:=⟨h.1,fun i u hu=>(h.2 i u hu).below hw⟩
theorem TrsAt.row {w w':World} {J:Jo} {us:List Value} {k:Nat} {v:Value} (h:TrsAt w J us k) (hg:w.grownBy w' v.ownBlock) (hn:NoStrV w v):TrsAt w' J us k:=⟨h.1,fun i u hu=>(h.2 i u hu).row hg hn⟩
theorem Cs.row {w w':World} {b:Nat} {vs:List Value} {v:Value} (h:Cs w b vs) (hg:w.grownBy w' v.ownBlock) (hne: ∀g,v.ownBlock=some g→b≠g):Cs w' b vs:=by
 cases hv:v.ownBlock with
 |none=>
  rw[hv]at hg;exact h.below ⟨hg.os,hg.tape,hg.output,hg.size,fun k hk=>hg.block k hk (by simp)⟩
 |some g=>
  rw[hv]at hg;exact h.nb hg (hne g hv)
theorem TrsAt.snoc {w:World} {J:Jo} {us:List Value} {k:Nat} {x:Value} (h:TrsAt w J us k) (hx:Lies w x (Jn.trAt J (k+1))):TrsAt w J (us++[x]) (k+1):=by
 refine⟨by simp[h.1],fun i u hu=>?_⟩
 by_cases hi:i<us.length
 · rw[List.getElem?_append_left hi]at hu
   exact h.2 i u hu
 · rw[List.getElem?_append_right (by omega)]at hu
   have h1:=h.1
   have hi2:i=k+1:=by
    rcases Nat.lt_or_ge (i-us.length) 1 with h3|h3
    · omega
    · rw[List.getElem?_eq_none (by simpa using h3)]at hu;cases hu
   subst hi2;rw[h1,Nat.sub_self]at hu;injection hu with hu
   exact hu▸hx
set_option maxRecDepth 100000 in
set_option maxHeartbeats 4000000 in
theorem openJournal_any (J:Jo) (v:Value) (w:World) (hv:LiesJ w v J) (hp: ∀e∈J.base,e.path.size≤1000000000) (hcs:SizedO 1000000000 J.cos):
    Calls Tryz.prog 24 #[v] w fun e w'=> ∃r,e= .returned (.tuple #[r,.int .i64 (Jn.chkE J)])∧(Jn.chkE J=0→LiesT w' r (J.cos.length+1) (Jn.trAt J))∧Below w.heap.size w w':=by
 obtain⟨i0,hi0,hz0,hz1,hz2⟩:=info_parts Tryz.infoES
 obtain⟨vb,vc,rfl,hvb,hvc⟩:=hv
 have HVB:=hid hvb;have HP:=hid hp;have HCS:=hid hcs;obtain⟨cb,ccap,rfl,hccap,hccap2,hC⟩:=hvc
 obtain⟨ba,bcap,rfl,hbcap,hbcap2,_⟩:=hvb
 have HC:Hid (∀i (h:i<J.cos.length),∃b o,cb=some ⟨b,o,none⟩∧b<w.heap.size∧CoAt w b (o+i*3) J.cos[i]):=hC;clear hC hp hcs;obtain⟨wz,hwz⟩: ∃wz,wz=w.alloc (.cells #[.slice ba J.base.length bcap,.int .i64 J.first,.slice cb J.cos.length ccap] 25):=⟨_,rfl⟩
 have hbz:Below w.heap.size w wz:=by rw[hwz];exact(Below.refl _ _).alloc (Nat.le_refl _) _
 have HBX:=hid (show Cs wz w.heap.size [.slice ba J.base.length bcap,.int .i64 J.first,.slice cb J.cos.length ccap]from by rw[hwz];exact Cs.new _ _ _);by_cases ht:Pp.treeE J.base=0
 · have HT:=hid ht
   by_cases hf:Pp.verE J.first=0
   · have HF:=hid hf
     by_cases hm:30<J.cos.length
     · have HE:=hid (Jn.chk_many ht hf hm)
       have hm':30<(J.cos.length:Int):=by omega
       clear ht hf;go_enter Tryz.func24,Tryz.ntmps24
       go_wp2_with fail;rw[←hwz];clear hwz;refine(rCheckTree_any J.base _ _ (HVB.out.below hbz) HP.out).mono ?_
       rintro e w1 ⟨rfl,hb1⟩;rw[HT.out];have c1:=(HBX.out.below hb1).cell 1 rfl;have c2:=(HBX.out.below hb1).cell 2 rfl;go_wp2_with fail;refine(isVersion_any J.first _).mono ?_
       rintro e w2 ⟨rfl,hw⟩;rw[hw];clear hw w2;rw[HF.out];go_wp2_with fail;go_ret2;exact⟨_,by rw[HE.out];rfl,(fun h=>by rw[HE.out]at h;exact absurd h (by decide)),below_tr hbz hb1⟩
     · have hm': ¬30<(J.cos.length:Int):=by omega
       obtain⟨f1,f2⟩:=Jn.ver_iff.1 hf
       have HG:=hid ((Pp.good_iff J.base).1 ht);have HRUN:=hid (show∀e T,Jn.runJ J.first J.base J.cos=(e,T)→ ¬e=0→Jn.chkE J=e from fun e T h he=>Jn.chk_run ht hf hm h he);have HTW:=hid (show∀T,Jn.runJ J.first J.base J.cos=(0,T)→ ¬Jn.Apart J.cos→Jn.chkE J=6 from fun T h ha=>Jn.chk_twice ht hf hm h ha);have HOK:=hid (show∀T,Jn.runJ J.first J.base J.cos=(0,T)→Jn.Apart J.cos→Jn.chkE J=0 from fun T h ha=>Jn.chk_ok ht hf hm h ha);clear ht hf;go_enter Tryz.func24,Tryz.ntmps24
       go_wp2_with fail;rw[←hwz];clear hwz;refine(rCheckTree_any J.base _ _ (HVB.out.below hbz) HP.out).mono ?_
       rintro e w1 ⟨rfl,hb1⟩;rw[HT.out];have HB1:=hid (HBX.out.below hb1);have c0:=HB1.out.cell 0 rfl;have c1:=HB1.out.cell 1 rfl;have c2:=HB1.out.cell 2 rfl;have hl1:=HB1.out.lt;go_wp2_with fail;refine(isVersion_any J.first _).mono ?_
       rintro e w2 ⟨rfl,hw⟩;rw[hw];clear hw w2;rw[HF.out];have hb01:=below_tr hbz hb1;have HO0:Hid ((w1.alloc (.cells #[.slice ba J.base.length bcap] 22)).ownsRow (w.heap.size+1) 22 1 (.slice (some ⟨w1.heap.size,0,none⟩) 1 1) 1 [.slice ba J.base.length bcap]):=(World.ownsRow_lit w1 #[.slice ba J.base.length bcap] 1 (by omega) (by decide) rfl:_)
       have HN0:=hid (show NoStrV (w1.alloc (.cells #[.slice ba J.base.length bcap] 22)) (.slice (some ⟨w1.heap.size,0,none⟩) 1 1)from fun g hg=>by
        simp only[Value.ownBlock,Option.some.injEq]at hg;subst hg;exact noStr_cells (heap_alloc_new w1 _) (by simp))
       have hby:Below w1.heap.size w1 (w1.alloc (.cells #[.slice ba J.base.length bcap] 22)):=(Below.refl _ _).alloc (Nat.le_refl _) _;have HLB:=hid (HVB.out.below (below_tr hb01 hby))
       have HT0:=hid (show TrsAt (w1.alloc (.cells #[.slice ba J.base.length bcap] 22)) J [.slice ba J.base.length bcap] 0 from⟨rfl,fun i u hu=>by
        rcases Nat.eq_zero_or_pos i with h|h
        · subst h
          simp at hu
          rw[←hu,Jn.trAt_zero];exact HLB.out
        · rw[List.getElem?_eq_none (by simp;omega)]at hu;cases hu⟩)
       have HB2:=hid (HB1.out.below hby);have hb02:=below_tr hb01 hby;go_wp2_with fail;generalize hwq:w1.alloc (.cells #[.slice ba J.base.length bcap] 22)=wq at*;clear hwq hby c0 c1 c2 HB1 hb01;go_loopw [5,6,7] (fun x t i wr=> ∃(k:Nat) (us:List Value),k≤J.cos.length∧i= .int .i64 k∧Hid (wr.ownsRow (w.heap.size+1) 22 1 x us.length us)∧Hid (NoStrV wr x)∧Hid (TrsAt wr J us k)∧Hid (Lies wr t (Jn.trAt J k))∧Hid (Pp.Good (Jn.trAt J k))∧Hid (Jn.LeftJ J (Jn.trAt J k) k)∧Hid (Cs wr w.heap.size [.slice ba J.base.length bcap,.int .i64 J.first,.slice cb J.cos.length ccap])∧Below w.heap.size w wr) (fun _ _ i _=>J.cos.length-(intOf i).toNat)
       case atStart=>exact⟨0,_,Nat.zero_le _,rfl,HO0,HN0,HT0,by rw[Jn.trAt_zero];exact HLB,by rw[Jn.trAt_zero];exact HG,by rw[Jn.trAt_zero];exact Jn.left_zero J,HB2,hb02⟩
       case round=>
        obtain⟨k,us,hk,rfl,HOW,HNS,HTS,HLT,HGS,HL,HBX2,hbel⟩:=hrel
        clear HO0 HN0 HT0 HLB HB2 hb02;have c1:=HBX2.out.cell 1 rfl;have c2:=HBX2.out.cell 2 rfl;have hszr:=HBX2.out.lt;by_cases hlt:k<J.cos.length
        · obtain⟨b,o,rfl,hb,he⟩:=HC.out k hlt
          obtain⟨d0,d1,u,d2,hu⟩:=he.below hb hbel
          have HZ:=hid (HCS.out J.cos[k] (List.getElem_mem hlt));have HBAD:=hid (show¬Jn.coE J.cos[k] (J.first+k)=0→Jn.chkE J=Jn.coE J.cos[k] (J.first+k)from fun h0=>HRUN.out _ _ (Jn.left_bad HL.out hlt h0) h0);have HALL:=hid (show Jn.coE J.cos[k] (J.first+k)=0→ ¬Pp.allE (Jn.trAt J k) J.cos[k].ch J.cos[k].nu=0→Jn.chkE J=Pp.allE (Jn.trAt J k) J.cos[k].ch J.cos[k].nu from fun h0 h1=>HRUN.out _ _ (Jn.left_all HL.out hlt h0 h1) h1);have HNX:=hid (show Jn.coE J.cos[k] (J.first+k)=0→Pp.allE (Jn.trAt J k) J.cos[k].ch J.cos[k].nu=0→Jn.LeftJ J (Jn.trAt J (k+1)) (k+1)from fun h0 h1=>by rw[Jn.trAt_succ hlt];exact Jn.left_next HL.out hlt h0 h1);have HTR:Hid (Jn.trAt J (k+1)=Pp.allR (Jn.trAt J k) J.cos[k].ch J.cos[k].nu):=Jn.trAt_succ hlt;clear he;generalize J.cos[k]=ck at*;obtain⟨nu,ke,ch⟩:=ck
          simp only at d0 d1 d2 hu;have HKE:=hid (show ke.size≤maxLen from by have:ke.size≤1000000000:=HZ.out.1;unfold maxLen;omega);have HU:=hid hu;obtain⟨ua,ucap,rfl,_,_,_⟩:=hu
          have hwrap:IntKind.i64.wrap (J.first+(k:Int))=J.first+k:=by rw[IntKind.wrap_i64];omega
          have hbyr:Below wr.heap.size wr (wr.alloc (.cells #[.int .i64 nu,.string ke,.slice ua ch.length ucap] 84)):=(Below.refl _ _).alloc (Nat.le_refl _) _;have hbely:=below_tr hbel hbyr;rcases Jn.co_cases ⟨nu,ke,ch⟩ (J.first+k)with⟨h1,hE⟩|⟨h1,h2,hE⟩|⟨h1,h2,h3,hE⟩|⟨h1,h2,h3,h4,hE⟩|⟨h1,h2,h3,h4,hE⟩
          · have HE:=hid (HBAD.out (by rw[hE];decide))
            have HE2:=hid hE;simp only at h1;clear hE HBAD HALL HNX HTR;go_wp2_with fail;go_ret2;exact⟨_,by rw[HE.out,HE2.out];rfl,(fun h=>by rw[HE.out,HE2.out]at h;exact absurd h (by decide)),hbely⟩
          · have HE:=hid (HBAD.out (by rw[hE];decide))
            have HE2:=hid hE;simp only at h1;subst h1;clear hE HBAD HALL HNX HTR;go_wp2_with fail;go_ret2;exact⟨_,by rw[HE.out,HE2.out];rfl,(fun h=>by rw[HE.out,HE2.out]at h;exact absurd h (by decide)),hbely⟩
          · have HE:=hid (HBAD.out (by rw[hE];decide))
            have HE2:=hid hE;have HK3:Hid (Pp.keyB ke.data.toList=false):=keyB_of1 h3;simp only at h1;subst h1;clear hE h3 HBAD HALL HNX HTR;go_wp2_with fail;refine(isKey_any ke _ HKE.out).mono ?_
            rintro e w4 ⟨rfl,hw⟩;rw[hw,HK3.out];clear hw w4;go_wp2_with fail;go_ret2;exact⟨_,by rw[HE.out,HE2.out];rfl,(fun h=>by rw[HE.out,HE2.out]at h;exact absurd h (by decide)),hbely⟩
          · have HE:=hid (HBAD.out (by rw[hE];decide))
            have HE2:=hid hE;have HK3:Hid (Pp.keyB ke.data.toList=true):=keyB_of0 h3;have h4':((ch.length:Int)==0)=true:=by rw[beq_iff_eq];simp only at h4;omega
            simp only at h1;subst h1;clear hE h3 h4 HBAD HALL HNX HTR;go_wp2_with fail;refine(isKey_any ke _ HKE.out).mono ?_
            rintro e w4 ⟨rfl,hw⟩;rw[hw,HK3.out];clear hw w4;go_wp2_with fail;go_ret2;exact⟨_,by rw[HE.out,HE2.out];rfl,(fun h=>by rw[HE.out,HE2.out]at h;exact absurd h (by decide)),hbely⟩
          · have HK3:Hid (Pp.keyB ke.data.toList=true):=keyB_of0 h3
            have h4':((ch.length:Int)==0)=false:=by rw[beq_eq_false_iff_ne];simp only at h4;omega
            have HA:=hid (HALL.out hE);have HN:=hid (HNX.out hE);simp only at h1;subst h1;clear hE h3 h4 HBAD HALL HNX;go_wp2_with fail;refine(isKey_any ke _ HKE.out).mono ?_
            rintro e w4 ⟨rfl,hw⟩;rw[hw,HK3.out];clear hw w4;go_wp2_with fail;refine(rAllOf_any (Jn.trAt J k) _ ch _ (J.first+k) _ (HLT.out.below hbyr) HGS.out (HU.out.below hbyr) HZ.out.2).mono ?_
            rintro e w5 ⟨r,rfl,hli,hb5⟩;have HLI:=hid hli;have hbr5:=below_tr hbyr hb5;have hb05:=below_tr hbel hbr5;clear hli hb5;by_cases h0:Pp.allE (Jn.trAt J k) ch (J.first+k)=0
            · have HL6:=hid (HN.out h0)
              have HG6:=hid (show Pp.Good (Jn.trAt J (k+1))from by rw[HTR.out];exact Jn.all_good h0);have HT6:=hid (show Lies w5 r (Jn.trAt J (k+1))from by rw[HTR.out];exact HLI.out h0);rw[h0];have HOW5:=hid (ownsRow_below HOW.out hbr5);have HNS5:=hid (HNS.out.below (fun g hg=>(HOW.out.lt g hg).2) hbr5);have HTS5:=hid (HTS.out.below hbr5);have HBX5:=hid (HBX2.out.below hbr5);obtain⟨ra,rcap,rfl,_,_,_⟩:=HT6.out
              have hul:=HTS.out.1;have hsz5:=hbr5.size;clear h0 HA HN HTR HLI HOW HNS HTS HBX2 c1 c2;go_wp2_with (at_builtin;refine wpList_append_no _ rfl _ _ 56 rfl (w.heap.size+1) 22 i0 (.slice none 0 0) 1 24 Tryz.underlying56 hi0 hz0 hz1 hz2 rfl (by decide) _ _ _ rfl (HOW5.out.alloc _) ⟨w5.heap.size,0,none⟩ 1 1 [.slice ra (Jn.trAt J (k+1)).length rcap] rfl rfl ?qc1 (by intro u hu;simp at hu;subst hu;rfl) (by unfold maxLen;omega) (by omega) (by simp;omega) (by decide) (by intro s;simp[Value.cells]) (by simp) ?qc2 ?_)
              case qc1=>intro j u hj;match j,hj with|0,hj=>simp at hj;subst hj;simp[Addr.add]|j+1,hj=>simp at hj
              case qc2=>exact HNS5.out.below (fun g hg=>(HOW5.out.lt g hg).2) ((Below.refl _ _).alloc (Nat.le_refl _) _)
              intro v2 w2 ho2 hgr2 hns2;have hbn:Below w5.heap.size w5 (w5.alloc (.cells #[.slice ra (Jn.trAt J (k+1)).length rcap] 22)):=(Below.refl _ _).alloc (Nat.le_refl _) _;have HNS6:=hid (HNS5.out.below (fun g hg=>(HOW5.out.lt g hg).2) hbn);have HLR:=hid ((HT6.out.below hbn).row hgr2 HNS6.out);have HTS7:=hid ((HTS5.out.below hbn).row hgr2 HNS6.out);have HTS8:=hid (HTS7.out.snoc HLR.out);have HBX8:=hid ((HBX5.out.below hbn).row hgr2 (fun g hg=>by have:=(HOW5.out.lt g hg).1;omega));have hb08:Below w.heap.size w w2:=((below_tr hb05 hbn).grown hgr2 (by simp;omega) (fun g hg=>by have:=(HOW5.out.lt g hg).1;omega))
              have HO8:=hid (show w2.ownsRow (w.heap.size+1) 22 1 v2 (us++[Value.slice ra (Jn.trAt J (k+1)).length rcap]).length (us++[Value.slice ra (Jn.trAt J (k+1)).length rcap])from by rw[List.length_append,hul];exact ho2);have HN8:=hid hns2;clear ho2 hgr2 hns2 hbn HNS6 HTS7 HOW5 HNS5 HTS5 HBX5;go_wp2_with fail;go_roundw
              case rel=>exact⟨k+1,_,by omega,by simp,HO8,HN8,HTS8,HLR,HG6,HL6,HBX8,hb08⟩
              case measure=>simp[intOf];omega
            · have HE:=hid (HA.out h0)
              have hz:(Pp.allE (Jn.trAt J k) ch (J.first+k)==0)=false:=by simpa using h0
              have H0:=hid h0;clear h0 HA HN HTR HLI;go_wp2_with fail;go_ret2;exact⟨_,by rw[HE.out];rfl,fun h=>absurd (HE.out▸h) H0.out,hb05⟩
        · obtain rfl:k=J.cos.length:=by omega
          have hr:=Jn.left_end HL.out;have HR:=hid hr;have hul:=HTS.out.1
          have HLT2:=hid (show LiesT wr u5 (J.cos.length+1) (Jn.trAt J)from by
           have:=liesT_own (f:=Jn.trAt J) HOW.out HTS.out.2 (by rw[hul];omega)
           rw[hul]at this;exact this)
          obtain⟨xa,xcap,rfl,_,_,_⟩:=HLT2.out
          clear hr HOW HNS HTS HLT HGS HL hul;generalize wr=wo at*;go_wp2_with fail;go_loopw [9] (fun i wr=> ∃m:Nat,m≤J.cos.length∧i= .int .i64 m∧Hid (Jn.Apart (J.cos.take m))∧Below wo.heap.size wo wr) (fun i _=>J.cos.length-(intOf i).toNat)
          case atStart=>exact⟨0,Nat.zero_le _,rfl,(List.Pairwise.nil:Jn.Apart []),Below.refl _ _⟩
          case round=>
           obtain⟨m,hm2,rfl,HAP,hbo⟩:=hrel
           clear c1 c2;have c2:=(HBX2.out.below hbo).cell 2 rfl;have hszo:=hbo.size;by_cases hlm:m<J.cos.length
           · obtain⟨b,o,rfl,hb,he⟩:=HC.out m hlm
             have HD1:=hid he;clear he;generalize wr=wp at*;go_wp2_with fail;go_loopw [10] (fun i wr=> ∃q:Nat,q≤m∧i= .int .i64 q∧Hid (Jn.ApK J.cos m q)∧Below wp.heap.size wp wr) (fun i _=>m-(intOf i).toNat)
             case atStart=>exact⟨0,Nat.zero_le _,rfl,(Jn.apK_zero _ _:Jn.ApK J.cos m 0),Below.refl _ _⟩
             case round=>
              obtain⟨q,hq,rfl,HAK,hbp⟩:=hrel
              clear c2;have c2:=(HBX2.out.below (below_tr hbo hbp)).cell 2 rfl;have hszp:=hbp.size;have hb0p:=below_tr hbel (below_tr hbo hbp);by_cases hlq:q<m
              · obtain⟨b',o',hbo',hb',he'⟩:=HC.out q (by omega)
                injection hbo' with hbo'
                injection hbo' with e1 e2
                subst e1;subst e2;have x1:=(HD1.out.below hb hb0p).2.1;have x2:=(he'.below hb' hb0p).2.1;clear he';have HKS:=hid (show J.cos[q].ke.data.toList≠J.cos[m].ke.data.toList→Jn.ApK J.cos m (q+1)from fun h=>Jn.apK_succ HAK.out (by omega) hlm h);have HKT:=hid (show J.cos[q].ke.data.toList=J.cos[m].ke.data.toList→Jn.chkE J=6 from fun h=>HTW.out _ HR.out (Jn.not_apart hlm hlq h));generalize J.cos[q].ke=kq at*;generalize J.cos[m].ke=km at*;have hbd:Below w.heap.size w wr.drew:=below_tr hb0p (Below.refl _ _).drew;have hbpd:Below wp.heap.size wp wr.drew:=below_tr hbp (Below.refl _ _).drew;cases hkk:(kq.toList==km.toList)with
                |true=>
                 have HE:=hid (HKT.out (by simpa[Lib.toList_data]using hkk));go_wp2_with fail;go_region
                 go_wp2_with fail;go_ret2;exact⟨_,by rw[HE.out];rfl,(fun h=>by rw[HE.out]at h;exact absurd h (by decide)),hbd⟩
                |false=>
                 have HN:=hid (HKS.out (by simpa[Lib.toList_data]using hkk));go_wp2_with fail;go_region
                 go_wp2_with fail;go_roundw
                 case rel=>exact⟨q+1,by omega,by simp,HN,hbpd⟩
                 case measure=>simp[intOf];omega
              · obtain rfl:q=m:=by omega
                have HAN:Hid (Jn.Apart (J.cos.take (q+1))):=Jn.apart_succ hlm HAP.out HAK.out;have hbop:=below_tr hbo hbp;go_wp2_with fail;go_roundw
                case rel=>exact⟨q+1,by omega,by simp,HAN,hbop⟩
                case measure=>simp[intOf];omega
           · obtain rfl:m=J.cos.length:=by omega
             have HAP2:=hid (show Jn.Apart J.cos from by have:=HAP.out;rwa [List.take_length]at this);have HE:=hid (HOK.out _ HR.out HAP2.out);have HLT3:=hid (HLT2.out.below hbo);have hb0o:=below_tr hbel hbo;clear hlm;go_wp2_with fail;go_ret2;exact⟨_,by rw[HE.out];rfl,fun _=>HLT3.out,hb0o⟩
   · have HE:=hid (Jn.chk_first ht hf)
     have hzz:(Pp.verE J.first==0)=false:=by simpa using hf
     clear ht hf;go_enter Tryz.func24,Tryz.ntmps24
     go_wp2_with fail;rw[←hwz];clear hwz;refine(rCheckTree_any J.base _ _ (HVB.out.below hbz) HP.out).mono ?_
     rintro e w1 ⟨rfl,hb1⟩;rw[HT.out];have c1:=(HBX.out.below hb1).cell 1 rfl;go_wp2_with fail;refine(isVersion_any J.first _).mono ?_
     rintro e w2 ⟨rfl,hw⟩;rw[hw];clear hw w2;go_wp2_with fail;go_ret2;exact⟨_,by rw[HE.out];rfl,(fun h=>by rw[HE.out]at h;exact absurd h (by decide)),below_tr hbz hb1⟩
 · have hzz:(Pp.treeE J.base==0)=false:=by simpa using ht
   have HE:=hid (Jn.chk_tree ht);have HN:=hid ht;go_enter Tryz.func24,Tryz.ntmps24
   go_wp2_with fail;rw[←hwz];clear hwz;refine(rCheckTree_any J.base _ _ (HVB.out.below hbz) HP.out).mono ?_
   rintro e w1 ⟨rfl,hb1⟩;go_wp2_with fail;go_ret2;exact⟨_,by rw[HE.out];rfl,fun h=>absurd (HE.out▸h) HN.out,below_tr hbz hb1⟩
end Go.Proofs.YtdifomkoegmngaaGreatDoor
