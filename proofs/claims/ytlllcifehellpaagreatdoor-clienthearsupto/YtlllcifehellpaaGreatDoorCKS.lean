/- What the reference's ChangeOf answers, for every change of a tree that passes Check. -/
import Derived.Test.YtlllcifehellpaaGreatDoorCKG
import Derived.Test.YtlllcifehellpaaGreatDoorCKP
import Derived.Test.YtlllcifehellpaaGreatDoorCKQ
import Derived.Test.YtlllcifehellpaaGreatDoorCKR
import Derived.Test.YtlllcifehellpaaGreatDoorCKO
import Derived.Test.YtlllcifehellpaaGreatDoorCKB
import Derived.Test.YtlllcifehellpaaGreatDoorCKH
import Derived.Test.YtlllcifehellpaaGreatDoorCKM
import Derived.Test.YtlllcifehellpaaGreatDoorCKN
import Derived.Test.YtlllcifehellpaaGreatDoorCKD
set_option linter.unusedSimpArgs false
set_option linter.unusedVariables false
namespace Go.Proofs.YtlllcifehellpaaGreatDoor
open Go.RowKit

theorem changeOf_any (L:List En) (v:Value) (k:Int) (p q t:ByteArray) (b n:Int) (w:World) (hv:Lies w v L) (hp:p.size≤1000000000) (hq:q.size≤1000000000) (ht:t.size≤1000000000) (hL:Pp.Good L) (hver:Pp.verE n=0):
    Calls Tryz.prog 58 #[v,.agg #[.int .i64 k,.string p,.string q,.string t,.int .i64 b],.int .i64 n] w fun e w'=> ∃u,e= .returned (.tuple #[u,.int .i64 (Pp.appE L ⟨k,p,q,t,b⟩ n)])∧(Pp.appE L ⟨k,p,q,t,b⟩ n=0→Lies w' u (Pp.chdR L ⟨k,p,q,t,b⟩ n))∧Below w.heap.size w w':=by
 have hs: ∀e∈L,e.path.size≤1000000000:=fun e he=>by
  have:=Pp.chk_len (Pp.entE_path (hL.ents e he))
  rw[Lib.size_eq];omega
 by_cases hc:Pp.chgE ⟨k,p,q,t,b⟩=0
 · by_cases hpl:Pp.plcE L ⟨k,p,q,t,b⟩=0
   · have hr:Pp.appE L ⟨k,p,q,t,b⟩ n=Pp.rstE L ⟨k,p,q,t,b⟩ n:=by
      rw[Pp.appE,if_neg (fun x=>x hver),if_neg (fun x=>x hc),if_neg (fun x=>x hpl)];rfl
     rw[hr];have h4:1≤k∧k≤4:=Pp.chg_kind hc;obtain⟨h0,hcs⟩:=Pp.plc_ok h4 hpl
     have hrest:=Pp.chg_rest hc;rcases hcs with⟨rfl,hi⟩|⟨rfl,hi⟩|⟨rfl,j,hj,hi,hx⟩|⟨rfl,⟨j,hj,hi⟩,hx,hi2,hf2⟩|⟨rfl,j,hj,hi⟩
     · have ht0:t=⟨#[]⟩:=by
        rcases hrest.2.1 with h2|h2
        · exact absurd (show(1:Int)=2 from h2) (by decide)
        · exact Pp.no_text h2
       subst ht0;exact changeOf_mk L v p q b n w hv hs hp hq hL hc (hid (by simpa[Pp.goal]using h0)) hi
     · exact changeOf_wr L v p q t b n w hv hs hp hq ht hL hc (hid (by simpa[Pp.goal]using h0)) hi
     · exact changeOf_rw L v p q t b n w hv hs hp hq ht hL hc (hid (by simpa[Pp.goal]using h0)) j hj hi hx
     · exact changeOf_mv L v p q t b n w hv hs hp hq ht hL hc (hid (by simpa[Pp.goal]using h0)) j hj hi hx hi2 hf2
     · exact changeOf_del L v p q t b n w hv hs hp hq ht hL hc (hid (by simpa[Pp.goal]using h0)) j hj hi
   · have hr:Pp.appE L ⟨k,p,q,t,b⟩ n=Pp.plcE L ⟨k,p,q,t,b⟩:=Pp.app_plc hver hc hpl
     rw[hr];refine(changeOf_place L v k p q t b n w hv hp hq ht hc hpl).mono ?_
     rintro e w1 ⟨rfl,hb⟩;exact⟨_,rfl,fun h=>absurd h hpl,hb⟩
 · have hr:Pp.appE L ⟨k,p,q,t,b⟩ n=Pp.chgE ⟨k,p,q,t,b⟩:=Pp.app_chg hver hc
   rw[hr];refine(changeOf_form L v k p q t b n w hp hq ht hc).mono ?_
   rintro e w1 ⟨rfl,hb⟩;exact⟨_,rfl,fun h=>absurd h hc,hb⟩
namespace Pp
theorem ent_cases (e:En):
    (¬chk e.path.data.toList=0∧entE e=chk e.path.data.toList)∨
    (chk e.path.data.toList=0∧e.folder=true∧e.text.toList.isEmpty=false∧entE e=1)∨
    (chk e.path.data.toList=0∧e.folder=false∧300<(e.text.size:Int)∧entE e=2)∨
    (chk e.path.data.toList=0∧e.folder=true∧e.text.toList.isEmpty=true∧(e.text.size:Int)≤300∧entE e=verE e.ver)∨
    (chk e.path.data.toList=0∧e.folder=false∧(e.text.size:Int)≤300∧entE e=verE e.ver):=by
 by_cases hz:chk e.path.data.toList=0
 · refine Or.inr ?_
   have hE:entE e=if e.folder=true∧ ¬e.text.data.toList=[]then 1 else if 300<e.text.size then 2 else verE e.ver:=by rw[entE,if_pos hz]
   cases hx:e.folder with
   |true=>
    cases hc:e.text.toList.isEmpty with
    |false=>exact Or.inl ⟨hz,rfl,rfl,by rw[hE,if_pos ⟨hx,not_empty hc⟩]⟩
    |true=>
     have ht0:e.text.size=0:=by rw[Lib.size_eq,(empty_iff e.text).1 hc];rfl
     exact Or.inr (Or.inr (Or.inl ⟨hz,rfl,rfl,by omega,by rw[hE,if_neg (fun h=>h.2 ((empty_iff e.text).1 hc)),if_neg (by omega)]⟩))
   |false=>
    by_cases hl:300<e.text.size
    · exact Or.inr (Or.inl ⟨hz,rfl,by omega,by rw[hE,hx,if_neg (fun h=>by cases h.1),if_pos hl]⟩)
    · exact Or.inr (Or.inr (Or.inr ⟨hz,rfl,by omega,by rw[hE,hx,if_neg (fun h=>by cases h.1),if_neg hl]⟩))
 · exact Or.inl ⟨hz,by rw[entE,if_neg hz]⟩
theorem pars4 {L:List En} {k:Nat} (hlt:k<L.length) (h: ∀j (h:j<L.length),parF L L[j]≠5) (hk:parF L L[k]≠0):4=parsE L L:=by
 have h4:parF L L[k]=4:=by
  rcases foldE_range L (par (L[k]).path.data.toList)with h0|h0|h0
  · exact absurd h0 hk
  · exact h0
  · exact absurd h0 (h k hlt)
 have n5: ¬L.any (fun e=>parF L e==5)=true:=by
  intro h5;obtain⟨x,hx,h6⟩:=List.any_eq_true.1 h5
  obtain⟨j,hj,rfl⟩:=List.getElem_of_mem hx
  exact h j hj (by simpa using h6)
 have y4:L.any (fun e=>parF L e==4)=true:=List.any_eq_true.2 ⟨L[k],List.getElem_mem hlt,by simp[h4]⟩;rw[parsE,if_neg n5,if_pos y4]
theorem pars0 {L:List En} (h: ∀j (h:j<L.length),parF L L[j]=0):0=parsE L L:=by
 have n: ∀c:Int,c≠0→ ¬L.any (fun e=>parF L e==c)=true:=by
  intro c hc h5;obtain⟨x,hx,h6⟩:=List.any_eq_true.1 h5
  obtain⟨j,hj,rfl⟩:=List.getElem_of_mem hx
  rw[h j hj]at h6;exact hc (by simpa using h6:(0:Int)=c).symm
 rw[parsE,if_neg (n 5 (by decide)),if_neg (n 4 (by decide))]
theorem lt_flip {x y:En} (h:lt x y=true):lt y x=false∧(y.path.toList==x.path.toList)=false:=by
 constructor
 · cases h2:lt y x with
   |false=>rfl
   |true=>
    have:=lt_trans _ _ _ h h2
    rw[lt_irrefl]at this;cases this
 · rw[beq_eq_false_iff_ne]
   intro e;have e2:lt x y=lt x x:=by rw[lt,lt,e]
   rw[e2,lt_irrefl]at h;cases h
theorem lt_no {x y:En} (h:lt x y=false):lt y x=true∨(lt y x=false∧(y.path.toList==x.path.toList)=true):=by
 cases h2:lt y x with
 |true=>exact Or.inl rfl
 |false=>
  refine Or.inr ⟨rfl,?_⟩
  rw[Lib.toList_data,Lib.toList_data,lt_same h2 h];simp
theorem ver_zero {n:Int}:verE n=0↔1≤n∧n≤1000000:=by
 unfold verE;split<;>omega
end Pp

set_option maxHeartbeats 400000 in
theorem isVersion_any (n:Int) (w:World):
    Calls Tryz.prog 27 #[.int .i64 n] w fun e w'=>e= .returned (.bool (Pp.verE n==0))∧w'=w:=by
 by_cases h1:1≤n
 · by_cases h2:n≤1000000
   · have HE:=hid (show true=(Pp.verE n==0)from by rw[Pp.ver_zero.2 ⟨h1,h2⟩];rfl)
     go_enter Tryz.func27,Tryz.ntmps27
     go_wp2;go_ret;exact⟨Pp.ret_bool HE.out,rfl⟩
   · have HE:=hid (show false=(Pp.verE n==0)from by symm;rw[beq_eq_false_iff_ne];exact fun h=>h2 (Pp.ver_zero.1 h).2)
     go_enter Tryz.func27,Tryz.ntmps27
     go_wp2;go_ret;exact⟨Pp.ret_bool HE.out,rfl⟩
 · have HE:=hid (show false=(Pp.verE n==0)from by symm;rw[beq_eq_false_iff_ne];exact fun h=>h1 (Pp.ver_zero.1 h).1)
   go_enter Tryz.func27,Tryz.ntmps27
   go_wp2;go_ret;exact⟨Pp.ret_bool HE.out,rfl⟩
set_option maxHeartbeats 2000000 in
theorem rCheckTree_any (L:List En) (v:Value) (w:World) (hv:Lies w v L) (hs: ∀e∈L,e.path.size≤1000000000):
    Calls Tryz.prog 14 #[v] w fun e w'=>e= .returned (.int .i64 (Pp.treeE L))∧Below w.heap.size w w':=by
 have HV:Hid (Lies w v L):=hv;have HS:Hid (∀e∈L,e.path.size≤1000000000):=hs;obtain⟨a,cap,rfl,hcap,hcap2,hL⟩:=hv
 have HL:Hid (∀i (h:i<L.length),∃b o,a=some ⟨b,o,none⟩∧b<w.heap.size∧EnAt w b (o+i*4) L[i]):=hL;clear hL hs;by_cases h60:60<(L.length:Int)
 · have HE:=hid (show 2=Pp.treeE L from by rw[Pp.treeE,if_pos (by omega)])
   go_enter Tryz.func14,Tryz.ntmps14
   go_wp2_with fail;go_ret;exact⟨Pp.ret_int HE.out,Below.refl _ _⟩
 have HT:=hid (show Pp.treeE L=if Pp.entsE L=0 then(if Pp.risesB L=true then Pp.parsE L L else 4)else Pp.entsE L from by rw[Pp.treeE,if_neg (by omega)]);go_enter Tryz.func14,Tryz.ntmps14
 go_wp2_with fail;go_loopw [3] (fun i wr=> ∃k:Nat,k≤L.length∧i= .int .i64 k∧Hid (Pp.entsE L=Pp.entsE (L.drop k))∧Below w.heap.size w wr) (fun i _=>L.length-(intOf i).toNat)
 case atStart=>exact⟨0,Nat.zero_le _,rfl,(rfl:Pp.entsE L=Pp.entsE (L.drop 0)),Below.refl _ _⟩
 case round=>
  obtain⟨k,hk,rfl,HQ,hbel⟩:=hrel
  by_cases hlt:k<L.length
  · obtain⟨b,o,rfl,hb,he⟩:=HL.out k hlt
    obtain⟨c0,c1,c2,c3⟩:=he.below hb hbel
    have HD:Hid (L.drop k=L[k]::L.drop (k+1)):=List.drop_eq_getElem_cons hlt;have hsz:=HS.out L[k] (List.getElem_mem hlt)
    have HN := hid (show Pp.entE L[k] ≠ 0 → Pp.entE L[k] = Pp.treeE L from fun hz => by
        have e1:Pp.entsE L=Pp.entE L[k]:=by rw[HQ.out,HD.out,Pp.entsE,if_neg hz]
        rw[HT.out,if_neg (by rw[e1];exact hz),e1])
    have HG:=hid (show Pp.entE L[k]=0→Pp.entsE L=Pp.entsE (L.drop (k+1))from fun hz=>by rw[HQ.out,HD.out,Pp.entsE,if_pos hz]);rcases Pp.ent_cases L[k]with⟨hz,hE⟩|⟨hz,hx,hc,hE⟩|⟨hz,hx,hc,hE⟩|⟨hz,hx,hc,hc2,hE⟩|⟨hz,hx,hc2,hE⟩
    · have HE:=hid (show Pp.chk (L[k]).path.data.toList=Pp.treeE L from by rw[←hE];exact HN.out (by rw[hE];exact hz))
      have hz2:(Pp.chk (L[k]).path.data.toList==0)=false:=by simpa using hz
      clear hE;go_wp2_with fail;refine(rCheck_any (L[k]).path _ hsz).mono ?_
      rintro e w1 ⟨rfl,hb1⟩;have hbel1:=below_trans hbel hb1;clear c0 c1 c2 c3 hbel hb1;go_wp2_with fail;go_ret;exact⟨Pp.ret_int HE.out,hbel1⟩
    · have HE:=hid (show 1=Pp.treeE L from by rw[←HN.out (by rw[hE];decide),hE])
      have HZ:Hid (Pp.chk (L[k]).path.data.toList=0):=hz;clear hE hz;go_wp2_with fail;refine(rCheck_any (L[k]).path _ hsz).mono ?_
      rintro e w1 ⟨rfl,hb1⟩;rw[HZ.out];have hbel1:=below_trans hbel hb1;obtain⟨d0,d1,d2,d3⟩:=he.below hb hbel1
      rw[hx]at d1;clear c0 c1 c2 c3 hbel hb1 hx;go_wp2_with fail;go_ret;exact⟨Pp.ret_int HE.out,hbel1⟩
    · have HE:=hid (show 2=Pp.treeE L from by rw[←HN.out (by rw[hE];decide),hE])
      have HZ:Hid (Pp.chk (L[k]).path.data.toList=0):=hz;clear hE hz;go_wp2_with fail;refine(rCheck_any (L[k]).path _ hsz).mono ?_
      rintro e w1 ⟨rfl,hb1⟩;rw[HZ.out];have hbel1:=below_trans hbel hb1;obtain⟨d0,d1,d2,d3⟩:=he.below hb hbel1
      rw[hx]at d1;clear c0 c1 c2 c3 hbel hb1 hx;go_wp2_with fail;go_ret;exact⟨Pp.ret_int HE.out,hbel1⟩
    all_goals
     have HZ:Hid (Pp.chk (L[k]).path.data.toList=0):=hz;have HVE:Hid (Pp.entE L[k]=Pp.verE (L[k]).ver):=hE;clear hE hz;go_wp2_with fail;refine(rCheck_any (L[k]).path _ hsz).mono ?_
     rintro e w1 ⟨rfl,hb1⟩;rw[HZ.out];have hbel1:=below_trans hbel hb1;obtain⟨d0,d1,d2,d3⟩:=he.below hb hbel1
     rw[hx]at d1;clear c0 c1 c2 c3 hbel hb1 hx;go_wp2_with fail;refine(isVersion_any (L[k]).ver _).mono ?_
     rintro e w2 ⟨rfl,rfl⟩;cases hq:(Pp.verE (L[k]).ver==0)with
     |true=>
      have HR:=hid (show Pp.entsE L=Pp.entsE (L.drop (k+1))from HG.out (by rw[HVE.out];simpa using hq));clear hq;go_wp2_with fail;go_roundw
      case rel=>exact⟨k+1,by omega,by simp,HR,hbel1⟩
      case measure=>simp[intOf];omega
     |false=>
      have HE:=hid (show 3=Pp.treeE L from by
       have h0:Pp.verE (L[k]).ver≠0:=by simpa using hq
       have h3:Pp.verE (L[k]).ver=3:=by unfold Pp.verE at h0⊢;split<;>simp_all
       rw[←HN.out (by rw[HVE.out];exact h0),HVE.out,h3])
      clear hq;go_wp2_with fail;go_ret;exact⟨Pp.ret_int HE.out,hbel1⟩
  · have HX:=hid (show Pp.treeE L=if Pp.risesB L=true then Pp.parsE L L else 4 from by
     have e0:Pp.entsE L=0:=by rw[HQ.out,List.drop_eq_nil_of_le (by omega)];rfl
     rw[HT.out,if_pos e0])
    clear HQ HT;go_wp2_with fail;clear hlt hk;go_loopw [5] (fun i wr=> ∃m:Nat,m≤L.length∧i= .int .i64 ((m:Int)+1)∧Hid (∀i (h:i+1<L.length),i<m→Pp.lt L[i] L[i+1]=true)∧Below w.heap.size w wr) (fun i _=>L.length+2-(intOf i).toNat)
    case atStart=>exact⟨0,Nat.zero_le _,rfl,(fun i _ h=>absurd h (Nat.not_lt_zero _): ∀i (h:i+1<L.length),i<0→Pp.lt L[i] L[i+1]=true),hbel⟩
    case round=>
     clear hbel;obtain⟨m,hm,rfl,HP,hbel⟩:=hrel
     by_cases hlt:m+1<L.length
     · obtain⟨b,o,rfl,hb,he⟩:=HL.out m (by omega)
       obtain⟨c0,c1,c2,c3⟩:=he.below hb hbel
       obtain⟨b',o',hbo,hb',he'⟩:=HL.out (m+1) hlt
       obtain⟨rfl,rfl⟩:b=b'∧o=o':=by simpa using hbo
       obtain⟨d0,d1,d2,d3⟩:=he'.below hb hbel
       have hlt2:(m:Int)+1<L.length:=by omega
       clear c1 c2 c3 d1 d2 d3 hbo;cases hl:Pp.lt L[m] L[m+1]with
       |true=>
        have hl2:Op.bytesLess (L[m+1]).path.toList (L[m]).path.toList=false:=(Pp.lt_flip hl).1;have hl3:((L[m+1]).path.toList==(L[m]).path.toList)=false:=(Pp.lt_flip hl).2;go_wp2_with fail;go_region
        go_wp2;go_roundw
        case rel=>exact⟨m+1,by omega,by simp,(fun i h1 h2=>by
         by_cases e:i=m
         · subst e;exact hl
         · exact HP.out i h1 (by omega): ∀i (h:i+1<L.length),i<m+1→Pp.lt L[i] L[i+1]=true),hbel.drew⟩
        case measure=>simp[intOf];omega
       |false=>
        have HE:=hid (show 4=Pp.treeE L from by rw[HX.out,←Pp.rises_no hlt hl];rfl);rcases Pp.lt_no hl with hl2|⟨hl2,hl3⟩
        · have hl4:Op.bytesLess (L[m+1]).path.toList (L[m]).path.toList=true:=hl2
          go_wp2_with fail;go_region
          go_wp2;go_ret;exact⟨Pp.ret_int HE.out,hbel.drew⟩
        · have hl4:Op.bytesLess (L[m+1]).path.toList (L[m]).path.toList=false:=hl2
          go_wp2_with fail;go_region
          go_wp2;go_ret;exact⟨Pp.ret_int HE.out,hbel.drew⟩
     · have HY:=hid (show Pp.treeE L=Pp.parsE L L from by rw[HX.out,←Pp.rises_yes fun i h=>HP.out i h (by omega)];rfl)
       clear HX HP;go_wp2_with fail;clear hlt hm;go_loopw [6] (fun i wr=> ∃k:Nat,k≤L.length∧i= .int .i64 k∧Hid (∀j (h:j<L.length),j<k→Pp.parF L L[j]≠5)∧Below w.heap.size w wr) (fun i _=>L.length-(intOf i).toNat)
       case atStart=>exact⟨0,Nat.zero_le _,rfl,(fun j _ h=>absurd h (Nat.not_lt_zero _): ∀j (h:j<L.length),j<0→Pp.parF L L[j]≠5),hbel⟩
       case round=>
        clear hbel;obtain⟨k,hk,rfl,HP,hbel⟩:=hrel
        by_cases hlt:k<L.length
        · obtain⟨b,o,rfl,hb,he⟩:=HL.out k hlt
          obtain⟨c0,c1,c2,c3⟩:=he.below hb hbel
          have hsz:=HS.out L[k] (List.getElem_mem hlt);go_wp2_with fail;refine(parentOf_any (L[k]).path _ hsz).mono ?_
          rintro e w1 ⟨rfl,hb1⟩;have hbel1:=below_trans hbel hb1;clear c0 c1 c2 c3 hbel hb1;go_wp2_with fail;refine(isFolder_any L _ ⟨(Pp.par (L[k]).path.data.toList).toArray⟩ _ (HV.out.below hbel1)).mono ?_
          rintro e w2 ⟨rfl,hb2⟩;have hbel2:=below_trans hbel1 hb2;clear hbel1 hb2;rw[show Pp.foldE L _=Pp.parF L L[k]from rfl];by_cases h5:Pp.parF L L[k]=5
          · have H5:Hid (Pp.parF L L[k]=5):=h5
            have HE:=hid (show 5=Pp.treeE L from by rw[HY.out];exact Pp.parsTo_hit hlt h5);clear h5;rw[H5.out];go_wp2_with fail;go_ret;exact⟨Pp.ret_int HE.out,hbel2⟩
          · have h52:(Pp.parF L L[k]==5)=false:=by simpa using h5
            go_wp2_with fail;go_roundw
            case rel=>exact⟨k+1,by omega,by simp,(fun j h1 h2=>by
             by_cases e:j=k
             · subst e;exact h5
             · exact HP.out j h1 (by omega): ∀j (h:j<L.length),j<k+1→Pp.parF L L[j]≠5),hbel2⟩
            case measure=>simp[intOf];omega
        · have H5:=hid (show∀j (h:j<L.length),Pp.parF L L[j]≠5 from fun j h=>HP.out j h (by omega))
          clear HP;go_wp2_with fail;clear hlt hk;go_loopw [7] (fun i wr=> ∃k:Nat,k≤L.length∧i= .int .i64 k∧Hid (∀j (h:j<L.length),j<k→Pp.parF L L[j]=0)∧Below w.heap.size w wr) (fun i _=>L.length-(intOf i).toNat)
          case atStart=>exact⟨0,Nat.zero_le _,rfl,(fun j _ h=>absurd h (Nat.not_lt_zero _): ∀j (h:j<L.length),j<0→Pp.parF L L[j]=0),hbel⟩
          case round=>
           clear hbel;obtain⟨k,hk,rfl,HP,hbel⟩:=hrel
           by_cases hlt:k<L.length
           · obtain⟨b,o,rfl,hb,he⟩:=HL.out k hlt
             obtain⟨c0,c1,c2,c3⟩:=he.below hb hbel
             have hsz:=HS.out L[k] (List.getElem_mem hlt);go_wp2_with fail;refine(parentOf_any (L[k]).path _ hsz).mono ?_
             rintro e w1 ⟨rfl,hb1⟩;have hbel1:=below_trans hbel hb1;clear c0 c1 c2 c3 hbel hb1;go_wp2_with fail;refine(isFolder_any L _ ⟨(Pp.par (L[k]).path.data.toList).toArray⟩ _ (HV.out.below hbel1)).mono ?_
             rintro e w2 ⟨rfl,hb2⟩;have hbel2:=below_trans hbel1 hb2;clear hbel1 hb2;rw[show Pp.foldE L _=Pp.parF L L[k]from rfl];by_cases h0:Pp.parF L L[k]=0
             · have H0:Hid (Pp.parF L L[k]=0):=h0
               clear h0;rw[H0.out];go_wp2_with fail;go_roundw
               case rel=>exact⟨k+1,by omega,by simp,(fun j h1 h2=>by
                by_cases e:j=k
                · subst e;exact H0.out
                · exact HP.out j h1 (by omega): ∀j (h:j<L.length),j<k+1→Pp.parF L L[j]=0),hbel2⟩
               case measure=>simp[intOf];omega
             · have h02:(Pp.parF L L[k]==0)=false:=by simpa using h0
               have HE:=hid (show 4=Pp.treeE L from by rw[HY.out];exact Pp.pars4 hlt H5.out h0);go_wp2_with fail;go_ret;exact⟨Pp.ret_int HE.out,hbel2⟩
           · have HE:=hid (show 0=Pp.treeE L from by rw[HY.out];exact Pp.pars0 (fun j h=>HP.out j h (by omega)))
             go_wp2_with fail;go_ret;exact⟨Pp.ret_int HE.out,hbel⟩
end Go.Proofs.YtlllcifehellpaaGreatDoor
namespace Go.Proofs.YtlllcifehellpaaGreatDoor
open Go.RowKit

namespace Pp
theorem run_ver {n:Int} (h: ¬verE n=0) (L:List En) {cs:List Ch} (hc:0<cs.length):runF n L cs=(0,3,[]):=by
 cases cs with
 |nil=>simp at hc
 |cons c r=>
  have h3:verE n=3:=by
   unfold verE at h⊢;split
   · rfl
   · rename_i h1;rw[if_neg h1]at h;exact absurd rfl h
  rw[runF,if_neg (by rw[app_ver h];exact h),app_ver h,h3]
end Pp

set_option maxRecDepth 100000 in
set_option maxHeartbeats 2000000 in
theorem rAllOf_any (L:List En) (v:Value) (cs:List Pp.Ch) (u:Value) (n:Int) (w:World) (hv:Lies w v L) (hL:Pp.Good L) (hu:LiesC w u cs) (hcs:SizedC 1000000000 cs):
    Calls Tryz.prog 30 #[v,u,.int .i64 n] w fun e w'=> ∃r,e= .returned (.tuple #[r,.int .i64 (Pp.allN L cs n),.int .i64 (Pp.allE L cs n)])∧(Pp.allE L cs n=0→Lies w' r (Pp.allR L cs n))∧Below w.heap.size w w':=by
 have HV:=hid hv;have HL:=hid hL;have HCS:=hid hcs;have htr:=(Pp.good_iff L).2 hL;obtain⟨a,cap,rfl,hcap,hcap2,hC⟩:=hu
 have HC:Hid (∀i (h:i<cs.length),∃b o,a=some ⟨b,o,none⟩∧b<w.heap.size∧ChAt w b (o+i*5) cs[i]):=hC;clear hv hcs hC;by_cases h20:20<cs.length
 · obtain⟨hE,hN,hR⟩:=Pp.all_many htr h20 n
   rw[hE,hN];clear hE hN hR htr hL;have h20':20<(cs.length:Int):=by omega
   go_enter Tryz.func30,Tryz.ntmps30
   go_wp2;go_ret3;exact⟨_,rfl,fun h=>absurd h (by decide),Below.refl _ _⟩
 · have h20': ¬20<(cs.length:Int):=by omega
   have HRUN:=hid (show∀k e R,Pp.runF n L cs=(k,e,R)→Pp.allE L cs n=e∧Pp.allN L cs n=k∧Pp.allR L cs n=R from fun k e R h=>Pp.all_run htr h20 h);clear htr hL;by_cases hz:cs.length=0
   · have hn:cs=[]:=List.length_eq_zero_iff.1 hz
     subst hn;obtain⟨hE,hN,hR⟩:=HRUN.out _ _ _ (runF_nil n L)
     have HE:=hid hE;have HN:=hid hN;have HR:=hid hR;clear hE hN hR hz;simp only[List.length_nil]at hcap hcap2⊢;go_enter Tryz.func30,Tryz.ntmps30
     go_wp2_with fail;go_loopw [0,9] (fun x i wr=>x=v∧i= .int .i64 0∧Below w.heap.size w wr) (fun _ _ _=>0)
     case atStart=>exact⟨rfl,rfl,Below.refl _ _⟩
     case round=>
      obtain⟨rfl,rfl,hbel⟩:=hrel
      go_wp2_with fail;go_ret3;exact⟨_,by rw[HE.out,HN.out];rfl,fun _=>by rw[HR.out];exact HV.out.below hbel,hbel⟩
   · have hz':0<(cs.length:Int):=by omega
     by_cases hver:Pp.verE n=0
     · have HVE:=hid hver
       clear hver;go_enter Tryz.func30,Tryz.ntmps30
       go_wp2_with fail;refine(isVersion_any n _).mono ?_
       rintro e w1 ⟨rfl,hw⟩;rw[hw];clear hw w1;rw[HVE.out];go_wp2_with fail;go_loopw [0,9] (fun x i wr=> ∃(k:Nat) (S:List En),k≤cs.length∧i= .int .i64 k∧Hid (Lies wr x S)∧Hid (Pp.Good S)∧Hid (Pp.Left n L cs S k)∧Below w.heap.size w wr) (fun _ i _=>cs.length-(intOf i).toNat)
       case atStart=>exact⟨0,L,Nat.zero_le _,rfl,HV,HL,Pp.left_zero n L cs,Below.refl _ _⟩
       case round=>
        obtain⟨k,S,hk,rfl,HX,HGS,HLF,hbel⟩:=hrel
        by_cases hlt:k<cs.length
        · obtain⟨b,o,rfl,hb,he⟩:=HC.out k hlt
          obtain⟨c0,c1,c2,c3,c4⟩:=he.below hb hbel
          have HZ:=hid (HCS.out cs[k] (List.getElem_mem hlt));have HNX:=hid (show Pp.appE S cs[k] n=0→Pp.Left n L cs (Pp.chdR S cs[k] n) (k+1)from fun h0=>Pp.left_next HLF.out hlt h0);have HST:=hid (show¬Pp.appE S cs[k] n=0→Pp.runF n L cs=(k,Pp.appE S cs[k] n,[])from fun h0=>Pp.left_stop HLF.out hlt h0);have HGN:=hid (show Pp.appE S cs[k] n=0→Pp.Good (Pp.chdR S cs[k] n)from fun h0=>Pp.app_good HGS.out h0);clear he;generalize cs[k]=ck at*;obtain⟨kk,p,q,t,bs⟩:=ck
          simp only at c0 c1 c2 c3 c4;go_wp2_with fail;refine(changeOf_any S _ kk p q t bs n _ HX.out HZ.out.1 HZ.out.2.1 HZ.out.2.2 HGS.out HVE.out).mono ?_
          rintro e w3 ⟨u3,rfl,hli,hb3⟩;have HLI:=hid hli;have hbel3:=below_trans hbel hb3;clear hb3 hli c0 c1 c2 c3 c4 hbel;by_cases h0:Pp.appE S ⟨kk,p,q,t,bs⟩ n=0
          · have HN:=hid (HNX.out h0)
            have HG3:=hid (HGN.out h0);have HL3:=hid (HLI.out h0);rw[h0];clear h0 HLI HNX HST HGN;go_wp2_with fail;go_roundw
            case rel=>exact⟨k+1,_,by omega,by simp,HL3,HG3,HN,hbel3⟩
            case measure=>simp[intOf];omega
          · obtain⟨hE,hN,hR⟩:=HRUN.out _ _ _ (HST.out h0)
            have hzz:(Pp.appE S ⟨kk,p,q,t,bs⟩ n==0)=false:=by simpa using h0
            have HE:=hid hE;have HN:=hid hN;have H0:=hid h0;clear hE hN hR h0 HLI HNX HST HGN;go_wp2_with fail;go_ret3;exact⟨_,by rw[HE.out,HN.out];rfl,fun h=>absurd (HE.out▸h) H0.out,hbel3⟩
        · obtain rfl:k=cs.length:=by omega
          obtain⟨hE,hN,hR⟩:=HRUN.out _ _ _ (Pp.left_end HLF.out)
          have HE:=hid hE;have HN:=hid hN;have HR:=hid hR;clear hE hN hR;go_wp2_with fail;go_ret3;exact⟨_,by rw[HE.out,HN.out];rfl,fun _=>by rw[HR.out];exact HX.out,hbel⟩
     · obtain⟨hE,hN,hR⟩:=HRUN.out _ _ _ (Pp.run_ver hver L (by omega))
       have HE:=hid hE;have HN:=hid hN;have hzz:(Pp.verE n==0)=false:=by simpa using hver
       clear hE hN hR;go_enter Tryz.func30,Tryz.ntmps30
       go_wp2_with fail;refine(isVersion_any n _).mono ?_
       rintro e w1 ⟨rfl,hw⟩;rw[hw];clear hw w1;go_wp2_with fail;go_ret3;exact⟨_,by rw[HE.out,HN.out];rfl,(fun h=>by rw[HE.out]at h;exact absurd h (by decide)),Below.refl _ _⟩
end Go.Proofs.YtlllcifehellpaaGreatDoor
namespace Go.Proofs.YtlllcifehellpaaGreatDoor
open Go.RowKit

set_option maxHeartbeats 400000 in
theorem isCursorJ_any (n:Int) (w:World):Calls Tryz.prog 15 #[.int .i64 n] w fun e w'=>e= .returned (.bool (Jn.curE n==0))∧w'=w:=by
 by_cases h1:0≤n
 · by_cases h2:n≤1000000
   · have HE:=hid (show true=(Jn.curE n==0)from by rw[Jn.curE,if_neg (by omega)];rfl)
     go_enter Tryz.func15,Tryz.ntmps15
     go_wp2;go_ret;exact⟨Pp.retB HE.out,rfl⟩
   · have HE:=hid (show false=(Jn.curE n==0)from by rw[Jn.curE,if_pos (by omega)];rfl)
     go_enter Tryz.func15,Tryz.ntmps15
     go_wp2;go_ret;exact⟨Pp.retB HE.out,rfl⟩
 · have HE:=hid (show false=(Jn.curE n==0)from by rw[Jn.curE,if_pos (by omega)];rfl)
   go_enter Tryz.func15,Tryz.ntmps15
   go_wp2;go_ret;exact⟨Pp.retB HE.out,rfl⟩
namespace Jn
theorem cur_cases (c:Int):curE c=0∨curE c=3:=by
 unfold curE;split
 · exact Or.inr rfl
 · exact Or.inl rfl
end Jn

set_option maxRecDepth 100000 in
set_option maxHeartbeats 4000000 in
theorem followOf_any (T:List En) (v:Value) (c:Int) (P:Pg) (vp:Value) (w:World) (hv:Lies w v T) (hs: ∀e∈T,e.path.size≤1000000000) (hp:LiesPg w vp P) (hps: ∀e∈P.tree,e.path.size≤1000000000) (hpc:SizedO 1000000000 P.cos):
    Calls Tryz.prog 16 #[v,.int .i64 c,vp] w fun e w'=> ∃r,e= .returned (.tuple #[r,.int .i64 (Jn.folN T c P),.int .i64 (Jn.folE T c P)])∧(Jn.folE T c P=0→Lies w' r (Jn.folR T c P))∧Below w.heap.size w w':=by
 have HV:=hid hv;have HS:=hid hs;have HPS:=hid hps;have HPC:=hid hpc;obtain⟨vt,vc,rfl,hvt,hvc⟩:=hp
 have HVT:=hid hvt;obtain⟨a1,b1,rfl,_⟩:=hvt
 obtain⟨a2,b2,rfl,hcap,hcap2,hat⟩:=hvc
 have HC:Hid (∀i (h:i<P.cos.length),∃b o,a2=some ⟨b,o,none⟩∧b<w.heap.size∧CoAt w b (o+i*3) P.cos[i]):=hat;clear hat hs hps hpc;obtain⟨va,vcap,rfl,_⟩:=hv
 obtain⟨wz,hwz⟩: ∃wz,wz=w.alloc (.cells #[.bool P.reset,.slice a1 P.tree.length b1,.slice a2 P.cos.length b2,.int .i64 P.cur,.bool P.more] 29):=⟨_,rfl⟩
 have hbz:Below w.heap.size w wz:=by rw[hwz];exact(Below.refl _ _).alloc (Nat.le_refl _) _
 have HBX:=hid (show Cs wz w.heap.size [.bool P.reset,.slice a1 P.tree.length b1,.slice a2 P.cos.length b2,.int .i64 P.cur,.bool P.more]from by rw[hwz];exact Cs.new w [.bool P.reset,.slice a1 P.tree.length b1,.slice a2 P.cos.length b2,.int .i64 P.cur,.bool P.more] _);have hlz:=HBX.out.lt;by_cases ht:Pp.treeE T=0
 · have HT:=hid ht
   have HG:=hid ((Pp.good_iff T).1 ht);rcases Jn.cur_cases c with hc|hc
   · have hk:Jn.knE T c=0:=(Jn.kn_cur ht).trans hc
     obtain⟨_,k1,k2⟩:=Jn.kn_zero hk
     have HCE:=hid hc;clear ht hc;cases hr:P.reset with
     |true=>
      have hE:=Jn.fol_reset hk hr;rw[hr]at hwz HBX;by_cases hkp:Pp.treeE P.tree=0
      · have HKP:=hid hkp
        rcases Jn.cur_cases P.cur with hcp|hcp
        · have hkn:Jn.knE P.tree P.cur=0:=(Jn.kn_cur hkp).trans hcp
          have HCP:=hid hcp;by_cases h1:0<P.cos.length
          · have h1':0<(P.cos.length:Int):=by omega
            have HE:=hid (hE.trans (Jn.rst_form hkn (Or.inl h1)));have HNZ:=hid (show¬(1:Int)=0 from by decide);have HN:=hid (Jn.fol_bad HE.out HNZ.out).2;clear hE hkn hkp hcp hk;go_enter Tryz.func16,Tryz.ntmps16
            go_wp2_with fail;rw[←hwz];clear hwz;refine(rCheckTree_any T _ _ (HV.out.below hbz) HS.out).mono ?_
            rintro e w1 ⟨rfl,hb1⟩;rw[HT.out];go_wp2_with fail;refine(isCursorJ_any c _).mono ?_
            rintro e w2 ⟨rfl,hw⟩;rw[hw,HCE.out];clear hw w2;have HX1:=hid (HBX.out.below hb1);have x0:=HX1.out.cell 0 rfl;have x1:=HX1.out.cell 1 rfl;have x2:=HX1.out.cell 2 rfl;have hb01:=below_tr hbz hb1;go_wp2_with fail;refine(rCheckTree_any P.tree _ _ (HVT.out.below hb01) HPS.out).mono ?_
            rintro e w2 ⟨rfl,hb2⟩;have HX2:=hid (HX1.out.below hb2);have hb02:=below_tr hb01 hb2;clear x0 x1 x2;rw[HKP.out];have x1:=HX2.out.cell 1 rfl;have x2:=HX2.out.cell 2 rfl;have x3:=HX2.out.cell 3 rfl;have x4:=HX2.out.cell 4 rfl;go_wp2_with fail;refine(isCursorJ_any P.cur _).mono ?_
            rintro e w3 ⟨rfl,hw⟩;rw[hw,HCP.out];clear hw w3;go_wp2_with fail;go_ret3;exact⟨_,by rw[HE.out,HN.out];rfl,(fun h=>by rw[HE.out]at h;exact absurd h HNZ.out),hb02⟩
          · have h1': ¬0<(P.cos.length:Int):=by omega
            cases hm:P.more with
            |true=>
             have HE:=hid (hE.trans (Jn.rst_form hkn (Or.inr hm)));have HNZ:=hid (show¬(1:Int)=0 from by decide);have HN:=hid (Jn.fol_bad HE.out HNZ.out).2;rw[hm]at hwz HBX;clear hE hkn hkp hcp hk;go_enter Tryz.func16,Tryz.ntmps16
             go_wp2_with fail;rw[←hwz];clear hwz;refine(rCheckTree_any T _ _ (HV.out.below hbz) HS.out).mono ?_
             rintro e w1 ⟨rfl,hb1⟩;rw[HT.out];go_wp2_with fail;refine(isCursorJ_any c _).mono ?_
             rintro e w2 ⟨rfl,hw⟩;rw[hw,HCE.out];clear hw w2;have HX1:=hid (HBX.out.below hb1);have x0:=HX1.out.cell 0 rfl;have x1:=HX1.out.cell 1 rfl;have x2:=HX1.out.cell 2 rfl;have hb01:=below_tr hbz hb1;go_wp2_with fail;refine(rCheckTree_any P.tree _ _ (HVT.out.below hb01) HPS.out).mono ?_
             rintro e w2 ⟨rfl,hb2⟩;have HX2:=hid (HX1.out.below hb2);have hb02:=below_tr hb01 hb2;clear x0 x1 x2;rw[HKP.out];have x1:=HX2.out.cell 1 rfl;have x2:=HX2.out.cell 2 rfl;have x3:=HX2.out.cell 3 rfl;have x4:=HX2.out.cell 4 rfl;go_wp2_with fail;refine(isCursorJ_any P.cur _).mono ?_
             rintro e w3 ⟨rfl,hw⟩;rw[hw,HCP.out];clear hw w3;go_wp2_with fail;go_ret3;exact⟨_,by rw[HE.out,HN.out];rfl,(fun h=>by rw[HE.out]at h;exact absurd h HNZ.out),hb02⟩
            |false=>
             have HE:=hid (hE.trans (Jn.rst_ok hkn (fun h=>h.elim h1 (fun h=>by rw[hm]at h;cases h))));have HRN:=hid (Jn.fol_okR HE.out hr);rw[hm]at hwz HBX;clear hE hkn hkp hcp hk;go_enter Tryz.func16,Tryz.ntmps16
             go_wp2_with fail;rw[←hwz];clear hwz;refine(rCheckTree_any T _ _ (HV.out.below hbz) HS.out).mono ?_
             rintro e w1 ⟨rfl,hb1⟩;rw[HT.out];go_wp2_with fail;refine(isCursorJ_any c _).mono ?_
             rintro e w2 ⟨rfl,hw⟩;rw[hw,HCE.out];clear hw w2;have HX1:=hid (HBX.out.below hb1);have x0:=HX1.out.cell 0 rfl;have x1:=HX1.out.cell 1 rfl;have x2:=HX1.out.cell 2 rfl;have hb01:=below_tr hbz hb1;go_wp2_with fail;refine(rCheckTree_any P.tree _ _ (HVT.out.below hb01) HPS.out).mono ?_
             rintro e w2 ⟨rfl,hb2⟩;have HX2:=hid (HX1.out.below hb2);have hb02:=below_tr hb01 hb2;clear x0 x1 x2;rw[HKP.out];have x1:=HX2.out.cell 1 rfl;have x2:=HX2.out.cell 2 rfl;have x3:=HX2.out.cell 3 rfl;have x4:=HX2.out.cell 4 rfl;go_wp2_with fail;refine(isCursorJ_any P.cur _).mono ?_
             rintro e w3 ⟨rfl,hw⟩;rw[hw,HCP.out];clear hw w3;have HTD:=hid ((HVT.out.below hb02).below (Below.refl _ _).drew);have hbd:=below_tr hb02 (Below.refl _ _).drew;go_wp2_with fail;go_region
             go_wp2_with fail;go_ret3;exact⟨_,by rw[HE.out,HRN.out.2];rfl,fun _=>by rw[HRN.out.1];exact HTD.out,hbd⟩
        · have hkn:Jn.knE P.tree P.cur=3:=(Jn.kn_cur hkp).trans hcp
          have HCP:Hid (Jn.curE P.cur=3):=hcp;have HE:=hid (hE.trans ((Jn.rst_kn (by rw[hkn];decide)).trans hkn));have HNZ:=hid (show¬(3:Int)=0 from by decide);have HN:=hid (Jn.fol_bad HE.out HNZ.out).2;clear hE hkn hkp hcp hk;go_enter Tryz.func16,Tryz.ntmps16
          go_wp2_with fail;rw[←hwz];clear hwz;refine(rCheckTree_any T _ _ (HV.out.below hbz) HS.out).mono ?_
          rintro e w1 ⟨rfl,hb1⟩;rw[HT.out];go_wp2_with fail;refine(isCursorJ_any c _).mono ?_
          rintro e w2 ⟨rfl,hw⟩;rw[hw,HCE.out];clear hw w2;have HX1:=hid (HBX.out.below hb1);have x0:=HX1.out.cell 0 rfl;have x1:=HX1.out.cell 1 rfl;have x2:=HX1.out.cell 2 rfl;have hb01:=below_tr hbz hb1;go_wp2_with fail;refine(rCheckTree_any P.tree _ _ (HVT.out.below hb01) HPS.out).mono ?_
          rintro e w2 ⟨rfl,hb2⟩;have HX2:=hid (HX1.out.below hb2);have hb02:=below_tr hb01 hb2;clear x0 x1 x2;rw[HKP.out];have x1:=HX2.out.cell 1 rfl;have x2:=HX2.out.cell 2 rfl;have x3:=HX2.out.cell 3 rfl;have x4:=HX2.out.cell 4 rfl;go_wp2_with fail;refine(isCursorJ_any P.cur _).mono ?_
          rintro e w3 ⟨rfl,hw⟩;rw[hw,HCP.out];clear hw w3;go_wp2_with fail;go_ret3;exact⟨_,by rw[HE.out,HN.out];rfl,(fun h=>by rw[HE.out]at h;exact absurd h HNZ.out),hb02⟩
      · have hkn:Jn.knE P.tree P.cur=Pp.treeE P.tree:=Jn.kn_tree hkp
        have hz:(Pp.treeE P.tree==0)=false:=by simpa using hkp
        have HE:=hid (hE.trans ((Jn.rst_kn (by rw[hkn];exact hkp)).trans hkn));have HNZ:=hid (show¬(Pp.treeE P.tree:Int)=0 from hkp);have HN:=hid (Jn.fol_bad HE.out HNZ.out).2;clear hE hkn hkp hk;go_enter Tryz.func16,Tryz.ntmps16
        go_wp2_with fail;rw[←hwz];clear hwz;refine(rCheckTree_any T _ _ (HV.out.below hbz) HS.out).mono ?_
        rintro e w1 ⟨rfl,hb1⟩;rw[HT.out];go_wp2_with fail;refine(isCursorJ_any c _).mono ?_
        rintro e w2 ⟨rfl,hw⟩;rw[hw,HCE.out];clear hw w2;have HX1:=hid (HBX.out.below hb1);have x0:=HX1.out.cell 0 rfl;have x1:=HX1.out.cell 1 rfl;have x2:=HX1.out.cell 2 rfl;have hb01:=below_tr hbz hb1;go_wp2_with fail;refine(rCheckTree_any P.tree _ _ (HVT.out.below hb01) HPS.out).mono ?_
        rintro e w2 ⟨rfl,hb2⟩;have HX2:=hid (HX1.out.below hb2);have hb02:=below_tr hb01 hb2;clear x0 x1 x2;go_wp2_with fail;go_ret3;exact⟨_,by rw[HE.out,HN.out];rfl,(fun h=>by rw[HE.out]at h;exact absurd h HNZ.out),hb02⟩
     |false=>
      rw[hr]at hwz HBX;by_cases t0:P.tree=[]
      · have t1: ¬0<(P.tree.length:Int):=by rw[t0];simp
        by_cases t2:10<P.cos.length
        · have t2':10<(P.cos.length:Int):=by omega
          have ho:=Jn.on_many (c:=c) t0 t2;have HE:=hid ((Jn.fol_on hk hr (by rw[ho];decide)).trans ho);have HNZ:=hid (show¬(2:Int)=0 from by decide);have HN:=hid (Jn.fol_bad HE.out HNZ.out).2;clear ho hk t0;go_enter Tryz.func16,Tryz.ntmps16
          go_wp2_with fail;rw[←hwz];clear hwz;refine(rCheckTree_any T _ _ (HV.out.below hbz) HS.out).mono ?_
          rintro e w1 ⟨rfl,hb1⟩;rw[HT.out];go_wp2_with fail;refine(isCursorJ_any c _).mono ?_
          rintro e w2 ⟨rfl,hw⟩;rw[hw,HCE.out];clear hw w2;have HX1:=hid (HBX.out.below hb1);have x0:=HX1.out.cell 0 rfl;have x1:=HX1.out.cell 1 rfl;have x2:=HX1.out.cell 2 rfl;have hb01:=below_tr hbz hb1;go_wp2_with fail;go_ret3;exact⟨_,by rw[HE.out,HN.out];rfl,(fun h=>by rw[HE.out]at h;exact absurd h HNZ.out),hb01⟩
        · have t2': ¬10<(P.cos.length:Int):=by omega
          have HBAD:=hid (show Jn.numsB c P.cos=false→Jn.folE T c P=4 from fun h=>(Jn.fol_on hk hr (by rw[Jn.on_nums t0 t2 h];decide)).trans (Jn.on_nums t0 t2 h));have HCU:=hid (show Jn.numsB c P.cos=true→ ¬P.cur=c+P.cos.length→Jn.folE T c P=4 from fun h h3=>(Jn.fol_on hk hr (by rw[Jn.on_cur t0 t2 h h3];decide)).trans (Jn.on_cur t0 t2 h h3))
          have HOK:Hid (Jn.numsB c P.cos=true→P.cur=c+P.cos.length→(∀e,Jn.folF T P.cos=(e,[])→ ¬e=0→Jn.folE T c P=e∧Jn.folN T c P=0)∧(∀S,Jn.folF T P.cos=(0,S)→Jn.folE T c P=0∧Jn.folR T c P=S∧Jn.folN T c P=P.cur)):=(fun h h3=>by
           have ho:=Jn.on_ok t0 t2 h h3;have hE:=Jn.fol_run hk hr ho;refine⟨fun e hf he=>?_,fun S hf=>?_⟩
           · have h2:Jn.folE T c P=e:=by rw[hE,hf]
             exact⟨h2,(Jn.fol_bad h2 he).2⟩
           · have h2:Jn.folE T c P=0:=by rw[hE,hf]
             have h3:=Jn.fol_okF h2 hr;exact⟨h2,by rw[h3.1,hf],h3.2⟩:_)
          have HN4:=hid (show Jn.folE T c P=4→Jn.folN T c P=0 from fun h=>(Jn.fol_bad h (by decide)).2);clear hk t0;go_enter Tryz.func16,Tryz.ntmps16
          go_wp2_with fail;rw[←hwz];clear hwz;refine(rCheckTree_any T _ _ (HV.out.below hbz) HS.out).mono ?_
          rintro e w1 ⟨rfl,hb1⟩;rw[HT.out];go_wp2_with fail;refine(isCursorJ_any c _).mono ?_
          rintro e w2 ⟨rfl,hw⟩;rw[hw,HCE.out];clear hw w2;have HX1:=hid (HBX.out.below hb1);have x0:=HX1.out.cell 0 rfl;have x1:=HX1.out.cell 1 rfl;have x2:=HX1.out.cell 2 rfl;have hb01:=below_tr hbz hb1;go_wp2_with fail;clear t1;generalize decide (0<P.tree.length)=bq;go_loopw [1,10] (fun x i wr=> ∃k:Nat,k≤P.cos.length∧i= .int .i64 k∧x= .int .i64 (c+k)∧Hid (Jn.NumsAt c P.cos k)∧Below w1.heap.size w1 wr) (fun _ i _=>P.cos.length-(intOf i).toNat)
          case atStart=>exact⟨0,Nat.zero_le _,rfl,by simp,Jn.nums_zero c P.cos,Below.refl _ _⟩
          case round=>
           obtain⟨k,hk,rfl,rfl,HNA,hbel⟩:=hrel
           have hb0:=below_tr hb01 hbel;clear x0 x1 x2;have x2:=(HX1.out.below hbel).cell 2 rfl;by_cases hlt:k<P.cos.length
           · obtain⟨b,o,rfl,hb,he⟩:=HC.out k hlt
             have c0:=(he.below hb hb0).1;have HNX:=hid (show P.cos[k].nu=c+k+1→Jn.NumsAt c P.cos (k+1)from fun h=>Jn.nums_next HNA.out hlt h);have HNB:=hid (show¬P.cos[k].nu=c+k+1→Jn.folE T c P=4 from fun h=>HBAD.out (Jn.nums_bad HNA.out hlt h));clear he;generalize (P.cos[k]).nu=nu at*;have e1:IntKind.i64.wrap (c+(k:Int)+1)=c+k+1:=by rw[IntKind.wrap_i64];omega
             by_cases hnu:nu=c+k+1
             · have HN2:=hid (HNX.out hnu)
               subst hnu;clear HNX HNB;go_wp2_with fail;go_roundw
               case rel=>exact⟨k+1,by omega,by simp,by simp;omega,HN2,hbel⟩
               case measure=>simp[intOf];omega
             · have HE:=hid (HNB.out hnu)
               have HN:=hid (HN4.out HE.out);have hz:(nu==c+k+1)=false:=by simpa using hnu
               clear HNX HNB hnu;go_wp2_with fail;go_ret3;exact⟨_,by rw[HE.out,HN.out];rfl,(fun h=>by rw[HE.out]at h;exact absurd h (by decide)),hb0⟩
           · obtain rfl:k=P.cos.length:=by omega
             have hnb:=Jn.nums_end HNA.out;have x3:=(HX1.out.below hbel).cell 3 rfl;by_cases hcu:P.cur=c+P.cos.length
             · obtain⟨hst,hen⟩:=HOK.out hnb hcu
               have HST:=hid hst;have HEN:=hid hen;clear hnb hst hen HBAD HCU HOK HN4;generalize P.cur=pc at*;subst hcu;have HXo:=hid (HX1.out.below hbel);generalize wr=wo at*;go_wp2_with fail;go_loopw [0,11] (fun x i wr=> ∃(k:Nat) (S:List En),k≤P.cos.length∧i= .int .i64 k∧Hid (Lies wr x S)∧Hid (Pp.Good S)∧Hid (Jn.LeftF T P.cos S k)∧Below wo.heap.size wo wr) (fun _ i _=>P.cos.length-(intOf i).toNat)
               case atStart=>exact⟨0,T,Nat.zero_le _,rfl,HV.out.below hb0,HG,Jn.leftF_zero T P.cos,Below.refl _ _⟩
               case round=>
                obtain⟨k,S,hk,rfl,HX,HGS,HLF,hbo⟩:=hrel
                have hb1o:=below_tr hb0 hbo;clear x2 x3;have HXq:=hid (HXo.out.below hbo);have x2:=HXq.out.cell 2 rfl;have hlq:=HXq.out.lt;by_cases hlt:k<P.cos.length
                · obtain⟨b,o,rfl,hb,he⟩:=HC.out k hlt
                  obtain⟨c0,c1,y,c2,hy⟩:=he.below hb hb1o
                  have HZ:=hid (HPC.out P.cos[k] (List.getElem_mem hlt));have HNX:=hid (show Pp.allE S P.cos[k].ch P.cos[k].nu=0→Jn.LeftF T P.cos (Pp.allR S P.cos[k].ch P.cos[k].nu) (k+1)from fun h0=>Jn.leftF_next HLF.out hlt h0);have HSP:=hid (show¬Pp.allE S P.cos[k].ch P.cos[k].nu=0→Jn.folF T P.cos=(Pp.allE S P.cos[k].ch P.cos[k].nu,[])from fun h0=>Jn.leftF_stop HLF.out hlt h0);clear he;generalize P.cos[k]=ck at*;obtain⟨nu,ke,ch⟩:=ck
                  simp only at c0 c1 c2 hy;have HY:=hid hy;obtain⟨ua,ucap,rfl,_⟩:=hy
                  have hbl:b<wr.heap.size:=Nat.lt_of_lt_of_le hb hb1o.size;go_wp2_with fail
                  go_region_held3 (fun W=>W.cell? ⟨w.heap.size,2,none⟩=some (.slice (some ⟨b,o,none⟩) P.cos.length b2)∧W.cell? ⟨b,o+k*3,none⟩=some (.int .i64 nu)∧W.cell? ⟨b,o+k*3+2,none⟩=some (.slice ua ch.length ucap)) (go_keep) (first
                   |(go_at_call 30;refine(rAllOf_any S _ ch _ nu _ (HX.out.below (Below.refl _ _).drew) HGS.out (HY.out.below (Below.refl _ _).drew) HZ.out.2).mono ?_;rintro e wa ⟨r,rfl,hli,hba⟩;have hza:Below wr.heap.size wr wa:=((Below.refl _ _).drew).trans hba;have j2:=(hza.cell (p:=⟨w.heap.size,2,none⟩) hlq).trans x2;have i0:=(hza.cell (p:=⟨b,o+k*3,none⟩) hbl).trans c0;have i2:=(hza.cell (p:=⟨b,o+k*3+2,none⟩) hbl).trans c2))
                  have HLI:=hid hli;have hbo4:=below_tr hbo hza;have hb04:=below_tr hb1o hza;clear hli;by_cases h0:Pp.allE S ch nu=0
                  · have HN:=hid (HNX.out h0)
                    have HG4:=hid (Jn.all_good h0);have HL4:=hid (HLI.out h0);rw[h0];clear h0 HNX HSP HLI;go_wp2_with fail;go_roundw
                    case rel=>exact⟨k+1,_,by omega,by simp,HL4,HG4,HN,hbo4⟩
                    case measure=>simp[intOf];omega
                  · obtain⟨q1,q3⟩:=HST.out _ (HSP.out h0) h0
                    have HQ1:=hid q1;have HQ3:=hid q3;have HZ0:=hid h0;have hz2:(Pp.allE S ch nu==0)=false:=by simpa using h0
                    clear q1 q3 h0 HNX HSP;go_wp2_with fail;go_ret3;exact⟨_,by rw[HQ1.out,HQ3.out];rfl,(fun h=>by rw[HQ1.out]at h;exact absurd h HZ0.out),hb04⟩
                · obtain rfl:k=P.cos.length:=by omega
                  obtain⟨q1,q2,q3⟩:=HEN.out _ (Jn.leftF_end HLF.out)
                  have HQ1:=hid q1;have HQ2:=hid q2;have HQ3:=hid q3;clear q1 q2 q3;go_wp2_with fail;go_ret3;exact⟨_,by rw[HQ1.out,HQ3.out];rfl,fun _=>by rw[HQ2.out];exact HX.out,hb1o⟩
             · have HE:=hid (HCU.out hnb hcu)
               have HN:=hid (HN4.out HE.out);have hz:(P.cur==c+(P.cos.length:Int))=false:=by simpa using hcu
               clear hcu hnb;go_wp2_with fail;go_ret3;exact⟨_,by rw[HE.out,HN.out];rfl,(fun h=>by rw[HE.out]at h;exact absurd h (by decide)),hb0⟩
      · have t1:0<(P.tree.length:Int):=by have:=List.length_pos_iff.2 t0;omega
        have ho:=Jn.on_tree (c:=c) t0;have HE:=hid ((Jn.fol_on hk hr (by rw[ho];decide)).trans ho);have HNZ:=hid (show¬(1:Int)=0 from by decide);have HN:=hid (Jn.fol_bad HE.out HNZ.out).2;clear ho hk t0;go_enter Tryz.func16,Tryz.ntmps16
        go_wp2_with fail;rw[←hwz];clear hwz;refine(rCheckTree_any T _ _ (HV.out.below hbz) HS.out).mono ?_
        rintro e w1 ⟨rfl,hb1⟩;rw[HT.out];go_wp2_with fail;refine(isCursorJ_any c _).mono ?_
        rintro e w2 ⟨rfl,hw⟩;rw[hw,HCE.out];clear hw w2;have HX1:=hid (HBX.out.below hb1);have x0:=HX1.out.cell 0 rfl;have x1:=HX1.out.cell 1 rfl;have x2:=HX1.out.cell 2 rfl;have hb01:=below_tr hbz hb1;go_wp2_with fail;go_ret3;exact⟨_,by rw[HE.out,HN.out];rfl,(fun h=>by rw[HE.out]at h;exact absurd h HNZ.out),hb01⟩
   · have hkn:Jn.knE T c=3:=(Jn.kn_cur ht).trans hc
     have HCE:Hid (Jn.curE c=3):=hc;have HE:=hid ((Jn.fol_kn (P:=P) (by rw[hkn];decide)).trans hkn);have HNZ:=hid (show¬(3:Int)=0 from by decide);have HN:=hid (Jn.fol_bad HE.out HNZ.out).2;clear hkn ht hc;go_enter Tryz.func16,Tryz.ntmps16
     go_wp2_with fail;rw[←hwz];clear hwz;refine(rCheckTree_any T _ _ (HV.out.below hbz) HS.out).mono ?_
     rintro e w1 ⟨rfl,hb1⟩;rw[HT.out];go_wp2_with fail;refine(isCursorJ_any c _).mono ?_
     rintro e w2 ⟨rfl,hw⟩;rw[hw,HCE.out];clear hw w2;have HX1:=hid (HBX.out.below hb1);have x0:=HX1.out.cell 0 rfl;have x1:=HX1.out.cell 1 rfl;have x2:=HX1.out.cell 2 rfl;have hb01:=below_tr hbz hb1;go_wp2_with fail;go_ret3;exact⟨_,by rw[HE.out,HN.out];rfl,(fun h=>by rw[HE.out]at h;exact absurd h HNZ.out),hb01⟩
 · have hkn:Jn.knE T c=Pp.treeE T:=Jn.kn_tree ht
   have hz:(Pp.treeE T==0)=false:=by simpa using ht
   have HE:=hid ((Jn.fol_kn (P:=P) (by rw[hkn];exact ht)).trans hkn);have HNZ:=hid (show¬(Pp.treeE T:Int)=0 from ht);have HN:=hid (Jn.fol_bad HE.out HNZ.out).2;clear hkn ht;go_enter Tryz.func16,Tryz.ntmps16
   go_wp2_with fail;rw[←hwz];clear hwz;refine(rCheckTree_any T _ _ (HV.out.below hbz) HS.out).mono ?_
   rintro e w1 ⟨rfl,hb1⟩;have hb01:=below_tr hbz hb1;go_wp2_with fail;go_ret3;exact⟨_,by rw[HE.out,HN.out];rfl,(fun h=>by rw[HE.out]at h;exact absurd h HNZ.out),hb01⟩
end Go.Proofs.YtlllcifehellpaaGreatDoor
namespace Go.Proofs.YtlllcifehellpaaGreatDoor
open Go.RowKit Go.Maps Go.WideMaps

namespace Sp
theorem at_mem {L:List En} {p:List UInt8} {x:En} (h:at_ L p=some x):x∈L∧x.path.data.toList=p:=⟨List.mem_of_find?_eq_some h,atB_iff.1 (List.find?_some h)⟩
theorem par_lt {p:List UInt8} (h:Pp.par p≠[]):(Pp.par p).length<p.length:=by
 by_cases hs:47∈p
 · obtain⟨a,b,hb,rfl⟩:=Pp.last_split hs
   rw[Pp.par_cut a hb];simp
 · exact absurd (Pp.par_none hs) h
/-- What is not gone is there. -/
theorem stays {A B:List En} (hA:Pp.Good A) (hd:dels A B=[]): ∀(n:Nat) (e:En),e∈A→e.path.data.toList.length≤n→wh e=wAt B e.path.data.toList:=by
 have hno: ∀e∈A,goes B e=false:=by
  rw[dels,List.map_eq_nil_iff,List.filter_eq_nil_iff]at hd;intro e he;simpa using hd e he
 intro n;induction n with
 |zero=>
  intro e he hl;have h1:e.path.data.toList=[]:=List.length_eq_zero_iff.1 (by omega);have h2:=hno e he
  have h3:hasP B e.path.data.toList=true:=by
   rw[hasP,h1,Pp.par_none (by simp)];rfl
  rw[goes,h3,Bool.and_true]at h2;simpa using h2
 |succ n ih=>
  intro e he hl;have h2:=hno e he
  have h3:hasP B e.path.data.toList=true:=by
   by_cases hp:Pp.par e.path.data.toList=[]
   · rw[hasP,hp];rfl
   · obtain⟨x,hx,hxp,hxf,_⟩:=Pp.fold_zero (hA.pars e he) hp
     have h4:=ih x hx (by rw[hxp];have:=par_lt hp;omega);rw[hxp]at h4;rw[hasP,←h4];simp[wh,hxf]
  rw[goes,h3,Bool.and_true]at h2;simpa using h2
end Sp
end Go.Proofs.YtlllcifehellpaaGreatDoor
namespace Go.Proofs.YtlllcifehellpaaGreatDoor
open Go.RowKit Go.Maps

namespace Mg
theorem rise_ext: ∀{X Y:List En},Sp.Rise X→Sp.Rise Y→(∀e,e∈X↔e∈Y)→X=Y
 |[],[],_,_,_=>rfl
 |[],y::r,_,_,h=>by have:=(h y).2 (by simp);cases this
 |x::r,[],_,_,h=>by have:=(h x).1 (by simp);cases this
 |x::r,y::s,hX,hY,h=>by
  obtain⟨x1,x2⟩:=List.pairwise_cons.1 hX
  obtain⟨y1,y2⟩:=List.pairwise_cons.1 hY
  have hxy:x=y:=by
   rcases List.mem_cons.1 ((h x).1 (by simp))with e|hx
   · exact e
   · rcases List.mem_cons.1 ((h y).2 (by simp))with e|hy
     · exact e.symm
     · have a1:=y1 x hx
       have a2:=x1 y hy;have a3:=Pp.lt_trans _ _ _ a1 a2;rw[Pp.lt_irrefl]at a3;cases a3
  subst hxy
  have:r=s:=rise_ext x2 y2 (fun e=>by
   constructor
   · intro he
     rcases List.mem_cons.1 ((h e).1 (by simp[he]))with e1|h1
     · subst e1
       have:=x1 e he
       rw[Pp.lt_irrefl]at this;cases this
     · exact h1
   · intro he
     rcases List.mem_cons.1 ((h e).2 (by simp[he]))with e1|h1
     · subst e1
       have:=y1 e he
       rw[Pp.lt_irrefl]at this;cases this
     · exact h1)
  rw[this]
def strip (e:En):En:=⟨e.path,Sp.wh e==1,Sp.tx e,0⟩
theorem wh_fold (e:En):(Sp.wh e==1)=e.folder:=by
 rw[Sp.wh];cases e.folder<;>rfl
theorem map_rise {f:En→En} (hf: ∀e,(f e).path=e.path) {X:List En} (h:Sp.Rise X):Sp.Rise (X.map f):=by
 rw[Sp.Rise,List.pairwise_map];refine h.imp ?_
 intro a b hab;rw[Pp.lt,hf,hf];exact hab
theorem at_mem {X:List En} (h:Sp.Rise X) {e:En} (he:e∈X):Sp.at_ X e.path.data.toList=some e:=(Sp.at_iff (Sp.apart_rise h)).2 ⟨he,rfl⟩
theorem st_mem {X:List En} (h:Sp.Rise X) {e:En} (he:e∈X):st X e.path.data.toList=spo e:=st_some (at_mem h he)
theorem st_get {X:List En} (h:Sp.Rise X) {p:List UInt8} (hw:(st X p).w≠0): ∃e∈X,e.path.data.toList=p∧st X p=spo e:=by
 cases ha:Sp.at_ X p with
 |none=>exact absurd (st_w0.2 ha) hw
 |some e=>
  obtain⟨h1,h2⟩:=(Sp.at_iff (Sp.apart_rise h)).1 ha
  exact⟨e,h1,h2,st_some ha⟩
theorem strips_eq {X Y:List En} (hX:Sp.Rise X) (hY:Sp.Rise Y) (h: ∀p,lk (st X p) (st Y p)=true):X.map strip=Y.map strip:=by
 have one: ∀{X Y:List En},Sp.Rise X→Sp.Rise Y→(∀p,lk (st X p) (st Y p)=true)→ ∀z∈X.map strip,z∈Y.map strip:=by
  intro X Y hX hY h z hz;obtain⟨e,he,rfl⟩:=List.mem_map.1 hz
  have h1:=lk_iff.1 (h e.path.data.toList);rw[st_mem hX he]at h1;have h0:=wh_12 e;have h1w:Sp.wh e=(st Y e.path.data.toList).w:=h1.1;obtain⟨y,hy,hp,hs⟩:=st_get hY (p:=e.path.data.toList) (by omega)
  rw[hs]at h1;refine List.mem_map.2 ⟨y,hy,?_⟩
  have e1:Sp.wh e=Sp.wh y:=h1.1;have e2:Sp.tx e=Sp.tx y:=h1.2;rw[strip,strip,e1,e2,ba_ext hp]
 refine rise_ext (map_rise (f:=strip) (fun _=>rfl) hX) (map_rise (f:=strip) (fun _=>rfl) hY) (fun z=>⟨one hX hY h z,one hY hX (fun p=>lk_symm (h p)) z⟩)
end Mg
end Go.Proofs.YtlllcifehellpaaGreatDoor
namespace Go.Proofs.YtlllcifehellpaaGreatDoor
open Go.RowKit Go.Maps

namespace Mg
/-- Alike at each path. -/
def Sim (N N':List En):Prop:= ∀p,lk (st N p) (st N' p)=true
theorem Sim.w {N N':List En} (h:Sim N N') (p:List UInt8):(st N p).w=(st N' p).w:=(lk_iff.1 (h p)).1
theorem free_sim {M T N N':List En} (h:Sim N N') (p:List UInt8):free M T N p=free M T N' p:=by rw[free,free,h.w]
theorem asdF_sim {M T N N':List En} (h:Sim N N') (p:List UInt8): ∀f n,asdF M T N p f n=asdF M T N' p f n
 |0,_=>rfl
 |f+1,n=>by rw[asdF,asdF,free_sim h,asdF_sim h p f (n+1)]
theorem asd_sim {M T N N':List En} (h:Sim N N') (p:List UInt8):asd M T N p=asd M T N' p:=asdF_sim h p 99 1
theorem Sim.put {N N':List En} {e e':En} (hN:Sp.Rise N) (hN':Sp.Rise N') (h:Sim N N') (hp:e.path.data.toList=e'.path.data.toList) (he:lk (spo e) (spo e')=true):Sim (Sp.put1 e N) (Sp.put1 e' N'):=by
 intro p;rw[st_put1 hN,st_put1 hN',hp];split
 · exact he
 · exact h p
end Mg
end Go.Proofs.YtlllcifehellpaaGreatDoor
