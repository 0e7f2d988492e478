/- What the reference's ReadOf answers, for every journal that passes Check. -/
import Derived.Test.YtdifomkoegmngaaGreatDoorRKO
import Derived.Test.YtdifomkoegmngaaGreatDoorRKC
import Derived.Test.YtdifomkoegmngaaGreatDoorRKE
import Derived.Test.YtdifomkoegmngaaGreatDoorRKB
import Derived.Test.YtdifomkoegmngaaGreatDoorRKI
import Derived.Laws.OwnMore
import Derived.Deep.RegionHeld3
import Derived.Deep.RegionLaw
set_option linter.unusedSimpArgs false
set_option linter.unusedVariables false
namespace Go.Proofs.YtdifomkoegmngaaGreatDoor
open Go.RowKit

theorem ownsRow_shape {w:World} {base:Nat} {e:TypeId} {size:Nat} {v:Value} {n:Nat} {xs:List Value} (h:w.ownsRow base e size v n xs): ∃a cap,v= .slice a n cap:=by
 obtain⟨_,h2⟩:=h
 rcases h2 with⟨rfl,hz⟩|⟨g,cap,cur,rfl,_⟩
 · exact⟨none,0,by rw[hz]⟩
 · exact⟨_,cap,rfl⟩
theorem ownsRow_nb {w w':World} {base:Nat} {e:TypeId} {size:Nat} {v:Value} {n:Nat} {xs:List Value} {g:Nat} (h:w.ownsRow base e size v n xs) (hw:w.grownBy w' (some g)) (hg:g<base):w'.ownsRow base e size v n xs:=
 h.kept (row:=some g) hw (by
  cases hv:v.ownBlock with
  |none=>exact Or.inl rfl
  |some q=>exact Or.inr (fun he=>by injection he with he;have:=(h.lt q hv).1;omega))
theorem rowsO_snoc {l:List Co} {us:List Value} (h:us.length=l.length) (c:Co) (u:Value):rowsO (l++[c]) (us++[u])=rowsO l us++[rowO c u]:=by
 rw[rowsO,rowsO,List.zipWith_append (by omega)];rfl
theorem ChsAt.snoc {w:World} {l:List Co} {us:List Value} {c:Co} {u:Value} (h:ChsAt w l us) (hu:LiesC w u c.ch):ChsAt w (l++[c]) (us++[u]):=by
 obtain⟨h1,h2⟩:=h
 refine⟨by simp[h1],fun i d x hd hx=>?_⟩
 by_cases hi:i<l.length
 · rw[List.getElem?_append_left hi]at hd
   rw[List.getElem?_append_left (by omega)]at hx;exact h2 i d x hd hx
 · rw[List.getElem?_append_right (by omega)]at hd hx
   rw[h1]at hx;rcases Nat.lt_or_ge (i-l.length) 1 with h3|h3
   · have:i-l.length=0:=by omega
     rw[this]at hd hx;injection hd with hd
     injection hx with hx
     rw[←hd,←hx];exact hu
   · rw[List.getElem?_eq_none (by simpa using h3)]at hd;cases hd
theorem rowsO_one {w:World} {l:List Co} {us:List Value} (h:ChsAt w l us): ∀r∈rowsO l us,r.length=3∧ ∀u∈r,u.oneCell'=true:=by
 intro r hr;obtain⟨i,hi⟩:=List.getElem?_of_mem hr
 have hil:i<l.length:=by
  have:=(List.getElem?_eq_some_iff.1 hi).1
  rw[rowsO_len h.1]at this;exact this
 rw[rowsO_at h.1 hil]at hi;injection hi with hi
 rw[←hi];refine⟨rfl,fun u hu=>?_⟩
 simp only[rowO,List.mem_cons,List.not_mem_nil,or_false]at hu;rcases hu with rfl|rfl|rfl
 · rfl
 · rfl
 · obtain⟨_,_,hs,_⟩:=h.2 i _ _ (List.getElem?_eq_getElem hil) (List.getElem?_eq_getElem (by have:=h.1;omega))
   rw[hs];rfl
theorem liesO_owned {w w0:World} {base:Nat} {T:TypeId} {v:Value} {l:List Co} {us:List Value} {n:Nat} (h:w.ownsRow base T 3 v n (rowsO l us).flatten) (hn:n=l.length) (hl:l.length≤1000000000) (hc:ChsAt w l us):LiesO w v l:=by
 have hr:=rowsO_len hc.1;subst hn;rw[←hr]at h;exact liesO_of hc (liesR_own h (by rw[hr];omega) (rowsO_one hc))
namespace Jn
/-- The first k commits behind the i0 first ones. -/
def pc (J:Jo) (i0 k:Nat):List Co:=(J.cos.drop i0).take (k-i0)
theorem pc_len {J:Jo} {i0 k:Nat} (hk:k≤J.cos.length):(pc J i0 k).length=k-i0:=by rw[pc,List.length_take,List.length_drop];omega
theorem pc_early {J:Jo} {i0 k:Nat} (h:k<i0):pc J i0 (k+1)=pc J i0 k:=by rw[pc,pc,show k+1-i0=k-i0 by omega]
theorem pc_snoc {J:Jo} {i0 k:Nat} (h: ¬k<i0) (hk:k<J.cos.length):pc J i0 (k+1)=pc J i0 k++[J.cos[k]]:=by
 rw[pc,pc,show k+1-i0=k-i0+1 by omega,List.take_succ_eq_append_getElem (by rw[List.length_drop];omega),List.getElem_drop];congr 3
 simp only[show i0+(k-i0)=k by omega]
end Jn

theorem liesP_zero (w:World):LiesPg w (.agg #[.bool false,.slice none 0 0,.slice none 0 0,.int .i64 0,.bool false]) Jn.zeroP:=⟨_,_,rfl,lies_nil _,liesO_nil _⟩
set_option maxRecDepth 100000 in
set_option maxHeartbeats 16000000 in
theorem readOf_any (J:Jo) (v:Value) (c m:Int) (w:World) (hv:LiesJ w v J) (hp: ∀e∈J.base,e.path.size≤1000000000) (hcs:SizedO 1000000000 J.cos) (h0:Jn.chkE J=0):
    Calls Tryz.prog 15 #[v,.int .i64 c,.int .i64 m] w fun e w'=> ∃r,e= .returned (.tuple #[r,.int .i64 (Jn.rdE J c m)])∧LiesPg w' r (Jn.rdR J c m)∧Below w.heap.size w w':=by
 have HV:=hid hv;have HP:=hid hp;have HCS:=hid hcs;obtain⟨i0,hi0,hz0,hz1,hz2⟩:=info_parts Tryz.infoCo
 obtain⟨vb,vc,rfl,hvb,hvc⟩:=hv
 obtain⟨ba,bcap,rfl,_⟩:=hvb
 obtain⟨ca,ccap,rfl,hccap,hccap2,hC⟩:=hvc
 have HC:Hid (∀i (h:i<J.cos.length),∃b o,ca=some ⟨b,o,none⟩∧b<w.heap.size∧CoAt w b (o+i*3) J.cos[i]):=hC;clear hp hcs hC;obtain⟨wz,hwz⟩: ∃wz,wz=(w.alloc (.cells #[.slice ba J.base.length bcap,.int .i64 J.first,.slice ca J.cos.length ccap] 25)).alloc (.cells #[.bool false,.slice none 0 0,.slice none 0 0,.int .i64 0,.bool false] 33):=⟨_,rfl⟩
 have hbz:Below w.heap.size w wz:=by rw[hwz];exact((Below.refl _ _).alloc (Nat.le_refl _) _).alloc (by simp) _
 have HBX:=hid (show Cs wz w.heap.size [.slice ba J.base.length bcap,.int .i64 J.first,.slice ca J.cos.length ccap]from by rw[hwz];exact(Cs.new w [.slice ba J.base.length bcap,.int .i64 J.first,.slice ca J.cos.length ccap] _).below ((Below.refl _ _).alloc (Nat.le_refl _) _))
 have HBY:=hid (show Cs wz (w.heap.size+1) [.bool false,.slice none 0 0,.slice none 0 0,.int .i64 0,.bool false]from by
  have:=Cs.new (w.alloc (.cells #[.slice ba J.base.length bcap,.int .i64 J.first,.slice ca J.cos.length ccap] 25)) [.bool false,.slice none 0 0,.slice none 0 0,.int .i64 0,.bool false] 33
  rw[hwz];simpa using this)
 have hNz:=HBY.out.lt;have H0:=hid h0;have hpp:=Jn.chk_parts h0;obtain⟨f1,f2⟩:=Jn.ver_iff.1 hpp.2.1
 have h30:=hpp.2.2.1;have HNU:=hid (Jn.chk_nums h0);have hlj:Jn.last J=J.first-1+J.cos.length:=rfl
 have e1:IntKind.i64.wrap (J.first+(J.cos.length:Int))=J.first+J.cos.length:=by rw[IntKind.wrap_i64];omega
 have e2:IntKind.i64.wrap (J.first+(J.cos.length:Int)-1)=J.first+J.cos.length-1:=by rw[IntKind.wrap_i64];omega
 clear hpp;by_cases m1:m<1
 · have hE:=Jn.rd_range (c:=c) h0 (Or.inl m1)
   have HE:=hid hE;have HR:=hid (Jn.rd_bad hE (by decide));clear hE h0;have y0:=HBY.out.cell 0 rfl;have y1:=HBY.out.cell 1 rfl;have y2:=HBY.out.cell 2 rfl;have y3:=HBY.out.cell 3 rfl;have y4:=HBY.out.cell 4 rfl;have g0:=HBY.out.fr 0;have g1:=HBY.out.fr 1;have g2:=HBY.out.fr 2;have g3:=HBY.out.fr 3;have g4:=HBY.out.fr 4;go_enter Tryz.func15,Tryz.ntmps15
   go_wp2_with fail;rw[←hwz];clear hwz;refine bodyPost_ret (v:= .tuple #[.agg #[.bool false,.slice none 0 0,.slice none 0 0,.int .i64 0,.bool false],.int .i64 3]) (by simp[results,Tryz.results15,go_sem,y0,y1,y2,y3,y4]) rfl ⟨_,by rw[HE.out],?_,?_⟩
   · rw[HR.out]
     exact liesP_zero _
   · exact hbz
 by_cases m2:10<m
 · have hE:=Jn.rd_range (c:=c) h0 (Or.inr (Or.inl m2))
   have HE:=hid hE;have HR:=hid (Jn.rd_bad hE (by decide));clear hE h0;have y0:=HBY.out.cell 0 rfl;have y1:=HBY.out.cell 1 rfl;have y2:=HBY.out.cell 2 rfl;have y3:=HBY.out.cell 3 rfl;have y4:=HBY.out.cell 4 rfl;have g0:=HBY.out.fr 0;have g1:=HBY.out.fr 1;have g2:=HBY.out.fr 2;have g3:=HBY.out.fr 3;have g4:=HBY.out.fr 4;go_enter Tryz.func15,Tryz.ntmps15
   go_wp2_with fail;rw[←hwz];clear hwz;refine bodyPost_ret (v:= .tuple #[.agg #[.bool false,.slice none 0 0,.slice none 0 0,.int .i64 0,.bool false],.int .i64 3]) (by simp[results,Tryz.results15,go_sem,y0,y1,y2,y3,y4]) rfl ⟨_,by rw[HE.out],?_,?_⟩
   · rw[HR.out]
     exact liesP_zero _
   · exact hbz
 by_cases c1:c<0
 · have hE:=Jn.rd_range (m:=m) h0 (Or.inr (Or.inr c1))
   have HE:=hid hE;have HR:=hid (Jn.rd_bad hE (by decide));clear hE h0;have y0:=HBY.out.cell 0 rfl;have y1:=HBY.out.cell 1 rfl;have y2:=HBY.out.cell 2 rfl;have y3:=HBY.out.cell 3 rfl;have y4:=HBY.out.cell 4 rfl;have g0:=HBY.out.fr 0;have g1:=HBY.out.fr 1;have g2:=HBY.out.fr 2;have g3:=HBY.out.fr 3;have g4:=HBY.out.fr 4;go_enter Tryz.func15,Tryz.ntmps15
   go_wp2_with fail;rw[←hwz];clear hwz;refine bodyPost_ret (v:= .tuple #[.agg #[.bool false,.slice none 0 0,.slice none 0 0,.int .i64 0,.bool false],.int .i64 3]) (by simp[results,Tryz.results15,go_sem,y0,y1,y2,y3,y4]) rfl ⟨_,by rw[HE.out],?_,?_⟩
   · rw[HR.out]
     exact liesP_zero _
   · exact hbz
 have hok: ¬(m<1∨10<m∨c<0):=by omega
 by_cases c2:Jn.last J<c
 · have hE:=Jn.rd_none h0 hok c2
   have c2':J.first+(J.cos.length:Int)-1<c:=by omega
   clear c2 hlj;have HE:=hid hE;have HR:=hid (Jn.rd_bad hE (by decide));clear hE h0;have y0:=HBY.out.cell 0 rfl;have y1:=HBY.out.cell 1 rfl;have y2:=HBY.out.cell 2 rfl;have y3:=HBY.out.cell 3 rfl;have y4:=HBY.out.cell 4 rfl;have g0:=HBY.out.fr 0;have g1:=HBY.out.fr 1;have g2:=HBY.out.fr 2;have g3:=HBY.out.fr 3;have g4:=HBY.out.fr 4;go_enter Tryz.func15,Tryz.ntmps15
   go_wp2_with fail;rw[←hwz];clear hwz;refine bodyPost_ret (v:= .tuple #[.agg #[.bool false,.slice none 0 0,.slice none 0 0,.int .i64 0,.bool false],.int .i64 5]) (by simp[results,Tryz.results15,go_sem,y0,y1,y2,y3,y4]) rfl ⟨_,by rw[HE.out],?_,?_⟩
   · rw[HR.out]
     exact liesP_zero _
   · exact hbz
 have hE:=Jn.rd_ok h0 hok c2;have c2': ¬J.first+(J.cos.length:Int)-1<c:=by omega
 have e3:IntKind.i64.wrap (c+1)=c+1:=by rw[IntKind.wrap_i64];omega
 by_cases c3:c<J.first-1
 · have HE:=hid hE
   have HR:=hid (show Jn.rdR J c m=⟨true,Jn.tree J,[],J.first+J.cos.length-1,false⟩from by rw[Jn.rd_reset hE c3,hlj];congr 1;omega);have c3':c+1<J.first:=by omega
   clear hE h0 hok hlj c2 c3;go_enter Tryz.func15,Tryz.ntmps15
   go_wp2_with fail;rw[←hwz];clear hwz;refine(treeOf_any J _ _ (HV.out.below hbz) HP.out HCS.out H0.out).mono ?_
   rintro e w3 ⟨u,rfl,hu,hb3⟩;have HU:=hid hu;have HY1:=hid (HBY.out.below hb3);obtain⟨ua,ucap,rfl,_⟩:=hu
   have hb03:=below_tr hbz hb3;have y0:=HY1.out.cell 0 rfl;have y1:=HY1.out.cell 1 rfl;have y2:=HY1.out.cell 2 rfl;have y3:=HY1.out.cell 3 rfl;have y4:=HY1.out.cell 4 rfl;have g0:=HY1.out.fr 0;have g1:=HY1.out.fr 1;have g2:=HY1.out.fr 2;have g3:=HY1.out.fr 3;have g4:=HY1.out.fr 4;go_wp2_with fail;refine bodyPost_ret (v:= .tuple #[.agg #[.bool true,.slice ua (Jn.tree J).length ucap,.slice none 0 0,.int .i64 (J.first+J.cos.length-1),.bool false],.int .i64 0]) (by simp[results,Tryz.results15,go_sem,y0,y1,y2,y3,y4]) rfl ⟨_,by rw[HE.out],?_,?_⟩
   · rw[HR.out]
     exact(page_set HY1.out (P:=⟨true,Jn.tree J,[],J.first+J.cos.length-1,false⟩) ⟨_,_,rfl,HU.out,liesO_nil _⟩).2
   · exact(((((hb03.setCell (p:=⟨w.heap.size+1,0,none⟩) (Nat.le_succ _) _).setCell (p:=⟨w.heap.size+1,1,none⟩) (Nat.le_succ _) _).setCell (p:=⟨w.heap.size+1,2,none⟩) (Nat.le_succ _) _).setCell (p:=⟨w.heap.size+1,3,none⟩) (Nat.le_succ _) _).setCell (p:=⟨w.heap.size+1,4,none⟩) (Nat.le_succ _) _)
 obtain⟨i,hi⟩: ∃i:Nat,c=J.first-1+i:=⟨(c-(J.first-1)).toNat,by omega⟩
 have hil:i≤J.cos.length:=by omega
 obtain⟨mm,hmm⟩: ∃mm:Nat,m=mm:=⟨m.toNat,by omega⟩
 have c3': ¬c+1<J.first:=by omega
 have HE:=hid hE
 have HR:=hid (show∀k:Nat,k≤J.cos.length→(k=J.cos.length∨k-i=mm)→k-i≤mm→Jn.rdR J c m=⟨false,[],Jn.pc J i k,c+(k-i:Nat),decide (c+(k-i:Nat)<J.first+J.cos.length-1)⟩from by
  intro k hk h1 h2;have hb:Jn.behind J c=J.cos.drop i:=by rw[Jn.behind];congr 1;omega
  have hf:Jn.few m (J.cos.drop i).length=k-i:=by rw[Jn.few,List.length_drop];omega
  rw[Jn.rd_page hE c3,hb,hf,Jn.pc];congr 1
  rw[List.length_drop];exact decide_eq_decide.2 (by omega))
 have HI:=hid hi;have HM:=hid hmm;clear hE h0 hok hlj c2 c3 hi hmm;obtain⟨wq,hwq⟩: ∃wq,wq=wz.alloc (.cells #[.bool false,.slice none 0 0,.slice none 0 0,.int .i64 c,.bool false] 33):=⟨_,rfl⟩
 have hbq:Below wz.heap.size wz wq:=by rw[hwq];exact(Below.refl _ _).alloc (Nat.le_refl _) _
 have hsz:wz.heap.size=w.heap.size+1+1:=by rw[hwz];simp
 have HPX:=hid (show Cs wq (w.heap.size+1+1) [.bool false,.slice none 0 0,.slice none 0 0,.int .i64 c,.bool false]from by
  have:=Cs.new wz [.bool false,.slice none 0 0,.slice none 0 0,.int .i64 c,.bool false] 33
  rw[hsz]at this;rw[hwq];exact this)
 have HBX1:=hid (HBX.out.below hbq);have HBY1:=hid (HBY.out.below hbq);have hb0q:=below_tr hbz hbq;have hszq:=HPX.out.lt;go_enter Tryz.func15,Tryz.ntmps15
 go_wp2_with fail;rw[←hwz,←hwq];clear hwz hwq hbq hsz;go_loopw [10] (fun x wr=> ∃(k:Nat) (us:List Value) (va:Value),k≤J.cos.length∧k-i≤mm∧x= .int .i64 k∧Hid (Cs wr (w.heap.size+1+1) [.bool false,.slice none 0 0,va,.int .i64 (c+(k-i:Nat)),.bool false])∧Hid (wr.ownsRow (w.heap.size+3) 84 3 va (k-i) (rowsO (Jn.pc J i k) us).flatten)∧Hid (ChsAt w (Jn.pc J i k) us)∧Hid (Cs wr w.heap.size [.slice ba J.base.length bcap,.int .i64 J.first,.slice ca J.cos.length ccap])∧Hid (Cs wr (w.heap.size+1) [.bool false,.slice none 0 0,.slice none 0 0,.int .i64 0,.bool false])∧Below w.heap.size w wr) (fun x _=>J.cos.length-(intOf x).toNat)
 case atStart=>
  have hp0:Jn.pc J i 0=[]:=by rw[Jn.pc,Nat.zero_sub,List.take_zero]
  refine⟨0,[],.slice none 0 0,Nat.zero_le _,by omega,rfl,?_,?_,?_,HBX1,HBY1,hb0q⟩
  · rw[show c+((0-i:Nat):Int)=c by omega];exact HPX
  · rw[hp0,Nat.zero_sub];exact⟨rfl,Or.inl ⟨rfl,rfl⟩⟩
  · rw[hp0];exact⟨rfl,fun i c u hc=>by simp at hc⟩
 case round=>
  obtain⟨k,us,va,hk,hkm,rfl,HPK,HOW,HCH,HBK,HYK,hbel⟩:=hrel
  clear HBX1 HBY1 hb0q HPX HBX HBY;obtain⟨pa,pcap,rfl⟩:=ownsRow_shape HOW.out
  have c1':=HBK.out.cell 1 rfl;have c2'':=HBK.out.cell 2 rfl;have p2:=HPK.out.cell 2 rfl;have p3:=HPK.out.cell 3 rfl;have hszr:=HPK.out.lt;have q2:=HPK.out.fr 2;have q3:=HPK.out.fr 3;by_cases hlt:k<J.cos.length
  · obtain⟨b,o,rfl,hb,he⟩:=HC.out k hlt
    obtain⟨d0',d1',u,d2',hu⟩:=he
    have d0:=(hbel.cell (p:=⟨b,o+k*3,none⟩) hb).trans d0';have d1:=(hbel.cell (p:=⟨b,o+k*3+1,none⟩) hb).trans d1';have d2:=(hbel.cell (p:=⟨b,o+k*3+2,none⟩) hb).trans d2';have HU:=hid hu;obtain⟨ua,ucap,rfl,_⟩:=hu
    by_cases hkm2:k-i<mm
    · have hltm:((k-i:Nat):Int)<m:=by rw[HM.out];omega
      by_cases hki:k<i
      · have hno: ¬c<J.cos[k].nu:=by rw[HNU.out k hlt,HI.out];omega
        have HK1:=hid (show k+1-i=k-i from by omega);have HPE:=hid (Jn.pc_early (J:=J) hki);generalize J.cos[k]=ck at*;obtain⟨nu,ke,ch⟩:=ck
        simp only at d0 d1 d2 hno;go_wp2_with fail;go_roundw
        case rel=>exact⟨k+1,us,_,by omega,by omega,by simp,by rw[HK1.out];exact HPK,by rw[HK1.out,HPE.out];exact HOW,by rw[HPE.out];exact HCH,HBK,HYK,hbel⟩
        case measure=>simp[intOf];omega
      · have hno:c<J.cos[k].nu:=by rw[HNU.out k hlt,HI.out];omega
        have HNK:=hid (show J.cos[k].nu=c+(k+1-i:Nat)from by rw[HNU.out k hlt,HI.out];omega);have HK1:=hid (show k+1-i=k-i+1 from by omega);have HPE:=hid (Jn.pc_snoc (J:=J) hki hlt);have HPL:=hid (Jn.pc_len (J:=J) (i0:=i) hk);have HD0:=hid d0';clear d0' d1' d2';generalize J.cos[k]=ck at*;obtain⟨nu,ke,ch⟩:=ck
        simp only at d0 d1 d2 hno;have hbw:b<wr.heap.size:=Nat.lt_of_lt_of_le hb hbel.size;have hbn:Below wr.heap.size wr (wr.drew.alloc (.cells #[.int .i64 nu,.string ke,.slice ua ch.length ucap] 84)):=((Below.refl _ _).drew).alloc (Nat.le_refl _) _;have HOW2:=hid (ownsRow_below HOW.out hbn)
        have HNE:Hid (∀j y,[.int .i64 nu,.string ke,.slice ua ch.length ucap][j]?=some y→(wr.drew.alloc (.cells #[.int .i64 nu,.string ke,.slice ua ch.length ucap] 84)).cell? ((⟨wr.heap.size,0,none⟩:Addr).add j)=some y):=(fun j y hj=>by
         rw[Addr.add_lit,Nat.zero_add];exact(Cs.new wr.drew [.int .i64 nu,.string ke,.slice ua ch.length ucap] 84).cell j hj:_)
        have HON:=hid (show∀u∈[Value.int .i64 nu,.string ke,.slice ua ch.length ucap],u.oneCell'=true from fun u hu=>by simp at hu;rcases hu with rfl|rfl|rfl<;>rfl);have hki10:k-i≤30:=by omega
        go_wp2_with fail;go_region_law (refine step_append_own rfl (.tmp 67) (.tmp 73) 23 rfl (w.heap.size+3) 84 i0 (.agg #[.int .i64 0,.string ⟨#[]⟩,.slice none 0 0]) 3 48 Tryz.underlying23 hi0 hz0 hz1 hz2 rfl (by decide) (.slice pa (k-i) pcap) (k-i) _ (by simp[Act.eval,Act.put]) HOW2.out ⟨wr.heap.size,0,none⟩ 1 1 [.int .i64 nu,.string ke,.slice ua ch.length ucap] (by simp[Act.eval,Act.put]) rfl HNE.out HON.out (by unfold maxLen;omega) (by omega) (by simp;omega) ?_;intro v2 w2 ho2 hgr2 _;obtain⟨a2,cap2,rfl⟩:=ownsRow_shape ho2;have HO3:=hid ho2;have HPK2:=hid ((HPK.out.below hbn).row hgr2 (fun g hg=>by have:=(HOW2.out.lt g hg).1;omega));have HBK2:=hid ((HBK.out.below hbn).row hgr2 (fun g hg=>by have:=(HOW2.out.lt g hg).1;omega));have HYK2:=hid ((HYK.out.below hbn).row hgr2 (fun g hg=>by have:=(HOW2.out.lt g hg).1;omega));have hb02:Below w.heap.size w w2:=((below_tr hbel hbn).grown hgr2 (by simp;omega) (fun g hg=>by have:=(HOW2.out.lt g hg).1;omega));have s2:=HPK2.out.cell 2 rfl;have s3:=HPK2.out.cell 3 rfl;have t2:=HPK2.out.fr 2;have t3:=HPK2.out.fr 3;have r2:=HBK2.out.cell 2 rfl;clear d0 d1 d2;have d0:=(hb02.cell (p:=⟨b,o+k*3,none⟩) hb).trans HD0.out;clear ho2 hgr2)
        all_goals
         go_wp2_with fail;go_roundw
         case rel=>
          have hne0:w.heap.size≠w.heap.size+1+1:=by omega
          have hne1:w.heap.size+1≠w.heap.size+1+1:=by omega
          have hle:w.heap.size≤w.heap.size+1+1:=by omega
          refine⟨k+1,us++[.slice ua ch.length ucap],.slice a2 (k-i+1) cap2,by omega,by omega,by simp,?_,?_,?_,(HBK2.out.nb (nb_set _ _ _ _) hne0).nb (nb_set _ _ _ _) hne0,(HYK2.out.nb (nb_set _ _ _ _) hne1).nb (nb_set _ _ _ _) hne1,(hb02.setCell (p:=⟨w.heap.size+1+1,2,none⟩) hle _).setCell (p:=⟨w.heap.size+1+1,3,none⟩) hle _⟩
          · rw[←HNK.out];exact(HPK2.out.set 2 _).set 3 _
          · have h5:=ownsRow_nb (ownsRow_nb HO3.out (nb_set w2 (w.heap.size+1+1) 2 (.slice a2 (k-i+1) cap2)) (by omega)) (nb_set _ (w.heap.size+1+1) 3 (.int .i64 nu)) (by omega)
            rw[HK1.out,HPE.out,rowsO_snoc HCH.out.1,List.flatten_append];exact hid (by simpa[rowO]using h5)
          · rw[HPE.out];exact HCH.out.snoc HU.out
         case measure=>simp[intOf];omega
    · have hltm: ¬((k-i:Nat):Int)<m:=by rw[HM.out];omega
      clear d0' d1' d2' d0 d1 d2 HU;have p0:=HPK.out.cell 0 rfl;have p1:=HPK.out.cell 1 rfl;have p4:=HPK.out.cell 4 rfl;have q4:=HPK.out.fr 4;have y0:=HYK.out.cell 0 rfl;have y1:=HYK.out.cell 1 rfl;have y2:=HYK.out.cell 2 rfl;have y3:=HYK.out.cell 3 rfl;have y4:=HYK.out.cell 4 rfl;have g0:=HYK.out.fr 0;have g1:=HYK.out.fr 1;have g2:=HYK.out.fr 2;have g3:=HYK.out.fr 3;have g4:=HYK.out.fr 4;have HRK:=hid (HR.out k hk (Or.inr (by omega)) hkm);have HPL:=hid (Jn.pc_len (J:=J) (i0:=i) hk);go_wp2_with fail;have hle11:w.heap.size≤w.heap.size+1+1:=by omega
      have HOF:=hid (ownsRow_nb (ownsRow_nb (ownsRow_nb (ownsRow_nb (ownsRow_nb (ownsRow_nb HOW.out (nb_set wr (w.heap.size+1+1) 4 (.bool (decide (c+((k-i:Nat):Int)<J.first+(J.cos.length:Int)-1)))) (by omega)) (nb_set _ (w.heap.size+1) 0 (.bool false)) (by omega)) (nb_set _ (w.heap.size+1) 1 (.slice none 0 0)) (by omega)) (nb_set _ (w.heap.size+1) 2 (.slice pa (k-i) pcap)) (by omega)) (nb_set _ (w.heap.size+1) 3 (.int .i64 (c+((k-i:Nat):Int)))) (by omega)) (nb_set _ (w.heap.size+1) 4 (.bool (decide (c+((k-i:Nat):Int)<J.first+(J.cos.length:Int)-1)))) (by omega));have hbf:=(((((hbel.setCell (p:=⟨w.heap.size+1+1,4,none⟩) hle11 (.bool (decide (c+((k-i:Nat):Int)<J.first+(J.cos.length:Int)-1)))).setCell (p:=⟨w.heap.size+1,0,none⟩) (Nat.le_succ _) (.bool false)).setCell (p:=⟨w.heap.size+1,1,none⟩) (Nat.le_succ _) (.slice none 0 0)).setCell (p:=⟨w.heap.size+1,2,none⟩) (Nat.le_succ _) (.slice pa (k-i) pcap)).setCell (p:=⟨w.heap.size+1,3,none⟩) (Nat.le_succ _) (.int .i64 (c+((k-i:Nat):Int)))).setCell (p:=⟨w.heap.size+1,4,none⟩) (Nat.le_succ _) (.bool (decide (c+((k-i:Nat):Int)<J.first+(J.cos.length:Int)-1)));refine bodyPost_ret (v:= .tuple #[.agg #[.bool false,.slice none 0 0,.slice pa (k-i) pcap,.int .i64 (c+((k-i:Nat):Int)),.bool (decide (c+((k-i:Nat):Int)<J.first+(J.cos.length:Int)-1))],.int .i64 0]) (by simp[results,Tryz.results15,go_sem,y0,y1,y2,y3,y4]) rfl ⟨_,by rw[HE.out],?_,hbf⟩
      rw[HRK.out];exact⟨_,_,rfl,lies_nil _,liesO_owned (w0:=w) HOF.out HPL.out.symm (by rw[HPL.out];omega) (HCH.out.below hbf)⟩
  · have HK2:=hid (show k=J.cos.length from by omega)
    have hlt2: ¬(k:Int)<(J.cos.length:Int):=by omega
    have p0:=HPK.out.cell 0 rfl;have p1:=HPK.out.cell 1 rfl;have p4:=HPK.out.cell 4 rfl;have q4:=HPK.out.fr 4;have y0:=HYK.out.cell 0 rfl;have y1:=HYK.out.cell 1 rfl;have y2:=HYK.out.cell 2 rfl;have y3:=HYK.out.cell 3 rfl;have y4:=HYK.out.cell 4 rfl;have g0:=HYK.out.fr 0;have g1:=HYK.out.fr 1;have g2:=HYK.out.fr 2;have g3:=HYK.out.fr 3;have g4:=HYK.out.fr 4;have HRK:=hid (HR.out k hk (Or.inl HK2.out) hkm);have HPL:=hid (Jn.pc_len (J:=J) (i0:=i) hk);go_wp2_with fail;have hle11:w.heap.size≤w.heap.size+1+1:=by omega
    have HOF:=hid (ownsRow_nb (ownsRow_nb (ownsRow_nb (ownsRow_nb (ownsRow_nb (ownsRow_nb HOW.out (nb_set wr (w.heap.size+1+1) 4 (.bool (decide (c+((k-i:Nat):Int)<J.first+(J.cos.length:Int)-1)))) (by omega)) (nb_set _ (w.heap.size+1) 0 (.bool false)) (by omega)) (nb_set _ (w.heap.size+1) 1 (.slice none 0 0)) (by omega)) (nb_set _ (w.heap.size+1) 2 (.slice pa (k-i) pcap)) (by omega)) (nb_set _ (w.heap.size+1) 3 (.int .i64 (c+((k-i:Nat):Int)))) (by omega)) (nb_set _ (w.heap.size+1) 4 (.bool (decide (c+((k-i:Nat):Int)<J.first+(J.cos.length:Int)-1)))) (by omega));have hbf:=(((((hbel.setCell (p:=⟨w.heap.size+1+1,4,none⟩) hle11 (.bool (decide (c+((k-i:Nat):Int)<J.first+(J.cos.length:Int)-1)))).setCell (p:=⟨w.heap.size+1,0,none⟩) (Nat.le_succ _) (.bool false)).setCell (p:=⟨w.heap.size+1,1,none⟩) (Nat.le_succ _) (.slice none 0 0)).setCell (p:=⟨w.heap.size+1,2,none⟩) (Nat.le_succ _) (.slice pa (k-i) pcap)).setCell (p:=⟨w.heap.size+1,3,none⟩) (Nat.le_succ _) (.int .i64 (c+((k-i:Nat):Int)))).setCell (p:=⟨w.heap.size+1,4,none⟩) (Nat.le_succ _) (.bool (decide (c+((k-i:Nat):Int)<J.first+(J.cos.length:Int)-1)));refine bodyPost_ret (v:= .tuple #[.agg #[.bool false,.slice none 0 0,.slice pa (k-i) pcap,.int .i64 (c+((k-i:Nat):Int)),.bool (decide (c+((k-i:Nat):Int)<J.first+(J.cos.length:Int)-1))],.int .i64 0]) (by simp[results,Tryz.results15,go_sem,y0,y1,y2,y3,y4]) rfl ⟨_,by rw[HE.out],?_,hbf⟩
    rw[HRK.out];exact⟨_,_,rfl,lies_nil _,liesO_owned (w0:=w) HOF.out HPL.out.symm (by rw[HPL.out];omega) (HCH.out.below hbf)⟩
end Go.Proofs.YtdifomkoegmngaaGreatDoor
namespace Go.Proofs.YtdifomkoegmngaaGreatDoor
open Go.RowKit

/-- What may be appended: nil, or so many records that lie at an address. -/
def Src3 (w:World) (sx:Value) (m size:Nat) (news:List Value):Prop:=(∃c,sx= .slice none 0 c∧m=0∧news=[])∨ ∃ad c,sx= .slice (some ad) m c∧news.length=m*size∧(∀j u,news[j]?=some u→w.cell? (ad.add j)=some u)
theorem run_append_none_cap {P:Program} {w:World} (base:Nat) (t ty e:TypeId) (i:TypeInfo) (size c:Nat) (ht:P.underlying t=some (.slice e)) (hi:P.info? e=some i)
    (v:Value) (n:Nat) (xs:List Value) (hown:w.ownsRow base e size v n xs):
    (Builtin.append_ #[t,t] ty #[v,.slice none 0 c]).run P w= .ok v w:=by
 rcases hown.2 with⟨rfl,rfl⟩|⟨g,cap,cur,rfl,_,_,hnc,_⟩
 · simp[Builtin.append_,run_underlying ht,sizeOf,typeInfo,hi,Builtin.lenOf,Builtin.firstCells]
 · simp[Builtin.append_,run_underlying ht,sizeOf,typeInfo,hi,Builtin.lenOf,Builtin.firstCells,hnc,storeCells]
theorem step_append_src {P:Program} {ops:Array Oper} {o:Oper} {a:Act} {w:World} {K:Act→World→Prop} {Q:Exit→Act→World→Prop} {E:Prop}
    (hg:o.guard=none) (s x:Operand) (t:TypeId) (hop:o.op=Op.call {callee:=Callee.builtin Builtin.append,args:= #[s,x],argTypes:= #[t,t]})
    (base:Nat) (e:TypeId) (i:TypeInfo) (z:Value) (size bytes:Nat) (ht:P.underlying t=some (.slice e)) (hi:P.info? e=some i) (hz:i.zero=some z)
    (hsize:i.size=size) (hby:i.bytes=bytes) (hzs:z.cells.size=size) (hsz:0<size)
    (v:Value) (n:Nat) (xs:List Value) (hs:a.eval s=v) (hown:w.ownsRow base e size v n xs)
    (sx:Value) (m:Nat) (news:List Value) (hx:a.eval x=sx) (hsx:Src3 w sx m size news) (h1: ∀u∈news,u.oneCell'=true)
    (h63:n+m≤maxLen) (hbytes:(n+m)*bytes≤140737488355328) (hbase:base≤w.heap.size)
    (h: ∀v' w',w'.ownsRow base e size v' (n+m) (xs++news)→w.grownBy w' v.ownBlock→K (a.put o.dst v') w'):
    if Region.wanted o (yielded ops a.tmps)=true then Oper.wp P o a w K Q else E:=by
 have hw:Region.wanted o (yielded ops a.tmps)=true:=by simp[Region.wanted,hg]
 rw[if_pos hw];rcases hsx with⟨c,rfl,rfl,rfl⟩|⟨ad,c,rfl,hl,hnews⟩
 · have hrun:=run_append_none_cap (P:=P) (w:=w) base t o.type e i size c ht hi v n xs hown
   unfold Oper.wp;simp[execOp,hop,resolve,invoke,builtin,hs,hx,hrun,Result.andThen]
   exact h v w (by simpa using hown) (World.grownBy.refl _ _)
 · exact wp_append_own w s x t hop base e i z size bytes ht hi hz hsize hby hzs hsz v n xs hs hown ad m c news hx hl hnews h1 h63 hbytes hbase fun v' w' h1 h2 _=>h v' w' h1 h2
/-- A slice of commits as what is appended. -/
theorem Src3.lies {w:World} {v:Value} {R:List (List Value)} (h:LiesR 3 w v R):Src3 w v R.length 3 R.flatten:=by
 obtain⟨a,cap,rfl,h1,h2,h4,h3⟩:=h
 cases a with
 |none=>
  cases R with
  |nil=>exact Or.inl ⟨cap,rfl,rfl,rfl⟩
  |cons s r=>obtain⟨b,o,hb,_⟩:=h3 0 (by simp);cases hb
 |some ad=>
  refine Or.inr ⟨ad,cap,rfl,flatten_len (fun r hr=>(h4 r hr).1),?_⟩
  cases R with
  |nil=>intro j u hj;simp at hj
  |cons s r=>
   obtain⟨b,o,hb,_⟩:=h3 0 (by simp)
   injection hb with hb
   subst hb
   exact liesR_cells (by decide) (fun r hr=>(h4 r hr).1) fun i hi=>by
    obtain⟨b',o',hb',_,he⟩:=h3 i hi
    injection hb' with hb'
    injection hb' with h5 h6
    subst h5;subst h6;exact he
/-- An empty slice of one's own. -/
def EmpC (B:Nat) (w:World) (v:Value):Prop:= ∃b,v= .slice (some ⟨b,0,none⟩) 0 0∧B≤b∧b<w.heap.size∧w.heap[b]?=some (.cells #[] 84)
theorem EmpC.new {B:Nat} {w w':World} (h:w.alloc (.cells #[] 84)=w') (hB:B≤w.heap.size):EmpC B w' (.slice (some ⟨w.heap.size,0,none⟩) 0 0):=
 ⟨w.heap.size,rfl,hB,by rw[←h];simp,by rw[←h];exact heap_alloc_new w _⟩
theorem EmpC.below {B:Nat} {w w':World} {v:Value} (h:EmpC B w v) (hw:Below w.heap.size w w'):EmpC B w' v:=by
 obtain⟨b,h1,h2,h3,h4⟩:=h
 exact⟨b,h1,h2,Nat.lt_of_lt_of_le h3 hw.size,(hw.block b h3).trans h4⟩
theorem EmpC.own {B:Nat} {w:World} {v:Value} (h:EmpC B w v):w.ownsRow B 84 3 v 0 []:=by
 obtain⟨b,rfl,h2,h3,h4⟩:=h
 exact⟨rfl,.inr ⟨b,0,#[],rfl,h2,h4,Nat.le_refl _,by unfold maxLen;omega,rfl,rfl⟩⟩
/-- One record in a slice of its own. -/
def NewC (w:World) (v:Value) (r:List Value):Prop:= ∃b,v= .slice (some ⟨b,0,none⟩) 1 1∧b<w.heap.size∧w.heap[b]?=some (.cells r.toArray 84)
theorem NewC.new {w w':World} {r:List Value} (h:w.alloc (.cells r.toArray 84)=w'):NewC w' (.slice (some ⟨w.heap.size,0,none⟩) 1 1) r:=
 ⟨w.heap.size,rfl,by rw[←h];simp,by rw[←h];exact heap_alloc_new w _⟩
theorem NewC.below {w w':World} {v:Value} {r:List Value} (h:NewC w v r) (hw:Below w.heap.size w w'):NewC w' v r:=by
 obtain⟨b,h1,h2,h3⟩:=h
 exact⟨b,h1,Nat.lt_of_lt_of_le h2 hw.size,(hw.block b h2).trans h3⟩
theorem NewC.gr {B:Nat} {w w':World} {v v0:Value} {r:List Value} (h:NewC w v r) (hr:r≠[]) (he:EmpC B w v0) (hg:w.grownBy w' v0.ownBlock):NewC w' v r:=by
 obtain⟨b,h1,h2,h3⟩:=h
 obtain⟨c,rfl,_,h5,h6⟩:=he
 have hne:b≠c:=by
  rintro rfl;rw[h6]at h3;injection h3 with h3
  injection h3 with h3
  exact hr (by have:=congrArg Array.toList h3;simpa using this.symm)
 have hk:some b≠(Value.slice (some ⟨c,0,none⟩) 0 0).ownBlock:=by
  intro e;simp[Value.ownBlock]at e
  exact hne e
 exact⟨b,h1,Nat.lt_of_lt_of_le h2 hg.size,(hg.block b h2 hk).trans h3⟩
theorem NewC.src {w:World} {v:Value} {r:List Value} (h:NewC w v r) (hl:r.length=3):Src3 w v 1 3 r:=by
 obtain⟨b,rfl,h2,h3⟩:=h
 refine Or.inr ⟨⟨b,0,none⟩,1,rfl,by omega,fun j u hj=>?_⟩
 rw[Addr.add_lit,Nat.zero_add];simp[World.cell?,h3,hj]
/-- A box that is new, and holds no journal yet. -/
def BoxC (B:Nat) (w:World) (b:Nat):Prop:=B≤b∧w.heap[b]?=some (.cells #[.slice none 0 0,.int .i64 0,.slice none 0 0] 25)
theorem BoxC.new {B:Nat} {w w':World} (h:w.alloc (.cells #[.slice none 0 0,.int .i64 0,.slice none 0 0] 25)=w') (hB:B≤w.heap.size):BoxC B w' w.heap.size:=⟨hB,by rw[←h];exact heap_alloc_new w _⟩
theorem BoxC.below {B b:Nat} {w w':World} (h:BoxC B w b) (hw:Below w.heap.size w w'):BoxC B w' b:=⟨h.1,(hw.block b (heap_lt h.2)).trans h.2⟩
theorem journal_commit:(25:TypeId)≠84:=by decide
theorem BoxC.ne {B b base n:Nat} {w:World} {v:Value} {xs:List Value} (h:BoxC B w b) (ho:w.ownsRow base 84 3 v n xs):some b≠v.ownBlock:=by
 obtain⟨_,h2⟩:=ho
 rcases h2 with⟨rfl,_⟩|⟨g,cap,cur,rfl,_,hg,_⟩
 · simp[Value.ownBlock]
 · intro e
   simp[Value.ownBlock]at e
   subst e;have h3:=h.2;rw[hg]at h3;injection h3 with h3
   injection h3 with _ h3
   exact journal_commit h3.symm
theorem BoxC.gr {B b base n:Nat} {w w':World} {v:Value} {xs:List Value} (h:BoxC B w b) (ho:w.ownsRow base 84 3 v n xs) (hg:w.grownBy w' v.ownBlock):BoxC B w' b:=
 ⟨h.1,(hg.block b (heap_lt h.2) (h.ne ho)).trans h.2⟩
theorem BoxC.cs {B b:Nat} {w:World} (h:BoxC B w b):Cs w b [.slice none 0 0,.int .i64 0,.slice none 0 0]:=⟨_,h.2⟩
end Go.Proofs.YtdifomkoegmngaaGreatDoor
