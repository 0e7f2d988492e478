/- Commit of a journal as plain mathematics. -/
import Derived.Test.YtppdfeehhnofaaaGreatDoorHAB
import Derived.Test.YtppdfeehhnofaaaGreatDoorHAI
set_option linter.unusedSimpArgs false
set_option linter.unusedVariables false
namespace Go.Proofs.YtppdfeehhnofaaaGreatDoor
open Go.RowKit

namespace Jn
/-- A new commit, by a key that was not met, of a journal that passes Check: its error. -/
def newE (J:Jo) (l:List Pp.Ch):Int:=if l=[]then 1 else if 1000000<last J+1 then 3 else Pp.allE (tree J) l (last J+1)
def newC (J:Jo) (key:ByteArray) (l:List Pp.Ch):Co:=⟨last J+1,key,l⟩
/-- The first one goes, if there are too many. -/
def cutJ (J:Jo):Jo:=if 30<J.cos.length then(match J.cos with|[]=>J|c::r=>⟨Pp.allR J.base c.ch J.first,J.first+1,r⟩)else J
def addJ (J:Jo) (key:ByteArray) (l:List Pp.Ch):Jo:=cutJ ⟨J.base,J.first,J.cos++[newC J key l]⟩
def comE (J:Jo) (key:ByteArray) (l:List Pp.Ch):Int:=if¬chkE J=0 then chkE J else if¬Pp.keyB key.data.toList=true then 1 else if hasB J.cos key.data.toList=true then 0 else newE J l
def comN (J:Jo) (key:ByteArray) (l:List Pp.Ch):Int:=if¬comE J key l=0 then 0 else if hasB J.cos key.data.toList=true then numOf J.cos key.data.toList else last J+1
def zeroJ:Jo:=⟨[],0,[]⟩
def comR (J:Jo) (key:ByteArray) (l:List Pp.Ch):Jo:=if¬comE J key l=0 then zeroJ else if hasB J.cos key.data.toList=true then J else addJ J key l
theorem com_chk {J:Jo} {key:ByteArray} {l:List Pp.Ch} (h: ¬chkE J=0):comE J key l=chkE J∧comN J key l=0∧comR J key l=zeroJ:=by
 have e:comE J key l=chkE J:=by rw[comE,if_pos h]
 exact⟨e,by rw[comN,e,if_pos h],by rw[comR,e,if_pos h]⟩
theorem com_key {J:Jo} {key:ByteArray} {l:List Pp.Ch} (h:chkE J=0) (h1:Pp.keyB key.data.toList=false):comE J key l=1∧comN J key l=0∧comR J key l=zeroJ:=by
 have e:comE J key l=1:=by rw[comE,if_neg (fun x=>x h),if_pos (by simp[h1])]
 exact⟨e,by rw[comN,e,if_pos (by decide)],by rw[comR,e,if_pos (by decide)]⟩
theorem com_has {J:Jo} {key:ByteArray} {l:List Pp.Ch} (h:chkE J=0) (h1:Pp.keyB key.data.toList=true) (h2:hasB J.cos key.data.toList=true):comE J key l=0∧comN J key l=numOf J.cos key.data.toList∧comR J key l=J:=by
 have e:comE J key l=0:=by rw[comE,if_neg (fun x=>x h),if_neg (fun x=>x h1),if_pos h2]
 exact⟨e,by rw[comN,e,if_neg (fun x=>x rfl),if_pos h2],by rw[comR,e,if_neg (fun x=>x rfl),if_pos h2]⟩
theorem com_new {J:Jo} {key:ByteArray} {l:List Pp.Ch} (h:chkE J=0) (h1:Pp.keyB key.data.toList=true) (h2:hasB J.cos key.data.toList=false):comE J key l=newE J l:=by
 rw[comE,if_neg (fun x=>x h),if_neg (fun x=>x h1),if_neg (by simp[h2])]
theorem com_bad {J:Jo} {key:ByteArray} {l:List Pp.Ch} (h: ¬comE J key l=0):comN J key l=0∧comR J key l=zeroJ:=⟨by rw[comN,if_pos h],by rw[comR,if_pos h]⟩
theorem com_add {J:Jo} {key:ByteArray} {l:List Pp.Ch} (h:chkE J=0) (h1:Pp.keyB key.data.toList=true) (h2:hasB J.cos key.data.toList=false) (h3:newE J l=0):comE J key l=0∧comN J key l=last J+1∧comR J key l=addJ J key l:=by
 have e:comE J key l=0:=by rw[com_new h h1 h2];exact h3
 exact⟨e,by rw[comN,e,if_neg (fun x=>x rfl),if_neg (by simp[h2])],by rw[comR,e,if_neg (fun x=>x rfl),if_neg (by simp[h2])]⟩
/-- Of a journal that passes Check: the changes of each commit are few, and small. -/
theorem all_few {T:List En} {cs:List Pp.Ch} {n:Int} (h:Pp.allE T cs n=0):cs.length≤20:=by
 have ht:Pp.treeE T=0:=by
  by_cases ht:Pp.treeE T=0
  · exact ht
  · rw[(Pp.all_no ht cs n).1]at h;exact absurd h ht
 rcases Nat.lt_or_ge 20 cs.length with hm|hm
 · rw[(Pp.all_many ht hm n).1]at h;cases h
 · exact hm
theorem run_few: ∀{n:Int} {T:List En} {l:List Co},(runJ n T l).1=0→ ∀c∈l,c.ch.length≤20
 |n,T,[],_,c,hc=>by cases hc
 |n,T,d::r,h,c,hc=>by
  rw[runJ]at h;by_cases h0:coE d n=0
  · rw[if_neg (fun x=>x h0)]at h
    by_cases h1:Pp.allE T d.ch d.nu=0
    · rw[if_neg (fun x=>x h1)]at h
      rcases List.mem_cons.1 hc with rfl|hc
      · exact all_few h1
      · exact run_few h c hc
    · rw[if_pos h1]at h;exact absurd h h1
  · rw[if_pos h0]at h;exact absurd h h0
theorem chk_few {J:Jo} (h:chkE J=0): ∀c∈J.cos,c.ch.length≤20:=by
 obtain⟨_,_,_,h4,_⟩:=chk_parts h
 exact run_few (n:=J.first) (T:=J.base) (by rw[h4])
theorem run_first {n:Int} {T:List En} {c:Co} {r:List Co} (h:(runJ n T (c::r)).1=0):coE c n=0∧Pp.allE T c.ch c.nu=0:=by
 rw[runJ]at h;by_cases h0:coE c n=0
 · rw[if_neg (fun x=>x h0)]at h
   by_cases h1:Pp.allE T c.ch c.nu=0
   · exact⟨h0,h1⟩
   · rw[if_pos h1]at h;exact absurd h h1
 · rw[if_pos h0]at h;exact absurd h h0
end Jn
end Go.Proofs.YtppdfeehhnofaaaGreatDoor
namespace Go.Proofs.YtppdfeehhnofaaaGreatDoor
open Go.RowKit

theorem Tryz.infoCo:(Tryz.prog.info? 132).map (fun i=>(i.zero,i.size,i.bytes))=some (some (.agg #[.int .i64 0,.string ⟨#[]⟩,.slice none 0 0]),3,48):=by kernel_rfl
theorem LiesO.append {w:World} {v:Value} {l:List Co} {us:List Value} {c:Co} {u:Value} (hc:ChsAt w l us) (hu:LiesC w u c.ch) (h:LiesR 3 w v (rowsO l us++[rowO c u])):LiesO w v (l++[c]):=by
 have hl:=hc.1;refine liesO_of (us:=us++[u]) ⟨by simp[hl],?_⟩ ?_
 · intro i d x hd hx
   by_cases hi:i<l.length
   · rw[List.getElem?_append_left hi]at hd
     rw[List.getElem?_append_left (by omega)]at hx;exact hc.2 i d x hd hx
   · rw[List.getElem?_append_right (by omega)]at hd hx
     rw[hl]at hx
     have h0:i-l.length=0:=by
      rcases Nat.lt_or_ge (i-l.length) 1 with h|h
      · omega
      · rw[List.getElem?_eq_none (by simpa using h)]at hd;cases hd
     rw[h0]at hd hx;injection hd with hd
     injection hx with hx
     rw[←hd,←hx];exact hu
 · have e:rowsO (l++[c]) (us++[u])=rowsO l us++[rowO c u]:=by
    rw[rowsO,rowsO,List.zipWith_append (by omega)];rfl
   rw[e];exact h
/-- A keeper whose journal is this one. -/
def Added (w:World) (b:Nat) (J:Jo):Prop:= ∃vb vc vt vm,Cs w b [vb,.int .i64 J.first,vc,vt,vm]∧Lies w vb J.base∧LiesO w vc J.cos
set_option maxRecDepth 100000 in
set_option maxHeartbeats 4000000 in
theorem commit_any (J:Jo) (key:ByteArray) (l:List Pp.Ch) (u:Value) (b mb nn:Nat) (vb vc:Value) (w0 w:World) (hJ:Jn.chkE J=0) (hk:Kp w b mb vb J.first vc (Jn.tree J) nn (Jn.D J.cos)) (hvb:Lies w0 vb J.base) (hvc:LiesO w0 vc J.cos) (hu:LiesC w0 u l) (hw0:Below w0.heap.size w0 w)
    (hls:SizedC 150000000000000 l) (hke:key.size≤maxLen) (hcs:SizedO 150000000000000 J.cos) (hnn:nn≤30) (hb0:w0.heap.size≤b) (hm0:w0.heap.size≤mb):
    Calls Tryz.prog 168 #[.pointer (some ⟨b,0,none⟩),.string key,u] w fun e w'=>e= .returned (.int .i64 (Jn.newE J l))∧Below w0.heap.size w0 w'∧(Jn.newE J l=0→Added w' b (Jn.addJ J key l)):=by
 obtain⟨i0,hi0,hz0,hz1,hz2⟩:=info_parts Tryz.infoCo
 have hpp:=Jn.chk_parts hJ;obtain⟨f1,f2⟩:=Jn.ver_iff.1 hpp.2.1
 have h30:=hpp.2.2.1;have HJ:=hid hJ;have HK:=hid hk;have HVB:=hid hvb;have HVC:=hid hvc;have HU:=hid hu;have HLS:=hid hls;have HCS:=hid hcs;obtain⟨vt,hC,_,_,hne⟩:=hk
 have HC:=hid hC;have hbl:=hC.lt;obtain⟨ba,bcap,rfl,_⟩:=hvb
 obtain⟨ca,ccap,rfl,hccap,_⟩:=hvc
 obtain⟨ua,ucap,rfl,_,hul,_⟩:=hu
 have hs0:=hw0.size;clear hls hcs hC hpp hJ;by_cases hl0:l=[]
 · have HE:=hid (show Jn.newE J l=1 from by rw[Jn.newE,if_pos hl0])
   have h0:((l.length:Int)==0)=true:=by rw[hl0];rfl
   clear hl0;go_enter Tryz.func168,Tryz.ntmps168
   go_wp2_with fail;go_ret;exact⟨by rw[HE.out];rfl,hw0,fun h=>by rw[HE.out]at h;exact absurd h (by decide)⟩
 · have h0:((l.length:Int)==0)=false:=by
    rw[beq_eq_false_iff_ne];intro h;exact hl0 (List.length_eq_zero_iff.1 (by omega))
   have hN:J.first-1+(J.cos.length:Int)+1=Jn.last J+1:=by rw[Jn.last]
   have hwr:IntKind.i64.wrap (J.first-1+(J.cos.length:Int)+1)=Jn.last J+1:=by rw[IntKind.wrap_i64,Jn.last];omega
   by_cases hbig:1000000<Jn.last J+1
   · have HE:=hid (show Jn.newE J l=3 from by rw[Jn.newE,if_neg hl0,if_pos hbig])
     clear hl0 hN;go_enter Tryz.func168,Tryz.ntmps168
     go_wp2_with fail;refine(kLast_any J.first J.cos.length ccap b _ _ _ ca _ HC.out f1 (by omega) (by omega)).mono ?_
     rintro e w1 ⟨rfl,hb1⟩;have hb01:=(hw0.trans (hb1.mono hs0)).alloc (Nat.le_trans hs0 hb1.size) (.cells #[.int .i64 (Jn.last J+1),.string key,.slice ua l.length ucap] 132);go_wp2_with fail;go_ret;exact⟨by rw[HE.out];rfl,hb01,fun h=>by rw[HE.out]at h;exact absurd h (by decide)⟩
   · have HE:=hid (show Jn.newE J l=Pp.allE (Jn.tree J) l (Jn.last J+1)from by rw[Jn.newE,if_neg hl0,if_neg hbig])
     have hlo:1≤Jn.last J+1:=by omega
     clear hl0 hN;go_enter Tryz.func168,Tryz.ntmps168
     go_wp2_with fail;refine(kLast_any J.first J.cos.length ccap b _ _ _ ca _ HC.out f1 (by omega) (by omega)).mono ?_
     rintro e w1 ⟨rfl,hb1⟩;obtain⟨w2,hw2⟩: ∃w2,w2=w1.alloc (.cells #[.int .i64 (Jn.last J+1),.string key,.slice ua l.length ucap] 132):=⟨_,rfl⟩
     have hb2:Below w1.heap.size w1 w2:=by rw[hw2];exact(Below.refl _ _).alloc (Nat.le_refl _) _
     have HX2:=hid (show Cs w2 w1.heap.size [.int .i64 (Jn.last J+1),.string key,.slice ua l.length ucap]from by rw[hw2];exact Cs.new _ [.int .i64 (Jn.last J+1),.string key,.slice ua l.length ucap] _);have hb02:=below_tr hb1 hb2;have hw2':Below w0.heap.size w0 w2:=hw0.trans (hb02.mono hs0);have HK2:=hid (HK.out.below hb02);have hs1:=hb1.size;have hs2:=hb2.size;go_wp2_with fail;rw[←hw2];clear hw2
     have hml:mb<w.heap.size:=by
      obtain⟨_,_,_,hM,_⟩:=HK.out
      exact hM.lt
     have HNW:Hid ((Lit.int .i64 (Jn.last J+1)).wf=true):=Jn.wf_num (by omega) (by omega);have HNM:=hid (show nn<maxLen from by unfold maxLen;omega);refine(take_any ⟨Jn.last J+1,key,l⟩ (.slice ua l.length ucap) b mb nn (.slice ba J.base.length bcap) (.slice ca J.cos.length ccap) J.first (Jn.tree J) (Jn.D J.cos) _ (HU.out.below hw2') HLS.out hke HNW.out HK2.out (Pp.good_sized (Jn.tree_good HJ.out)) HNM.out nostr_slice nostr_slice).mono ?_
     rintro e w4 ⟨rfl,hn4,hK4⟩;have hb4:Below w0.heap.size w0 w4:=hw2'.trans (hn4.to (by omega) hb0 hm0);have HK4:=hid hK4;have HX4:=hid (HX2.out.nb2 hn4 (by omega) (by omega));have hs4:=hn4.size;clear hK4 hn4;by_cases ha:Pp.allE (Jn.tree J) l (Jn.last J+1)=0
     · obtain⟨vt4,hC4,hT4,hM4,_⟩:=HK4.out ha
       have HC4:=hid hC4
       have HNO4:=hid (show∀s,Value.string s∉[.slice ba J.base.length bcap,.int .i64 J.first,.slice ca J.cos.length ccap,vt4,.map (some mb)]from by
        obtain⟨_,_,rfl,_⟩:=hT4
        intro s hs;simp only[List.mem_cons,List.not_mem_nil,or_false]at hs;rcases hs with h|h|h|h|h<;>exact Value.noConfusion h)
       have hbl4:=hC4.lt;have m2:=hC4.cell 2 rfl;have n2:=hC4.fr 2;have x0:=HX4.out.cell 0 rfl;have x1:=HX4.out.cell 1 rfl;have x2:=HX4.out.cell 2 rfl;obtain⟨us,hch,hR⟩:=liesO_rows HVC.out
       have HCH:=hid hch;have HRL:=hid (rowsO_len hch.1);have HR:=hid hR.clip;have HA:=hid ha;rw[ha];have hbn:Below w4.heap.size w4 (w4.drew.alloc (.cells #[.int .i64 (Jn.last J+1),.string key,.slice ua l.length ucap] 132)):=((Below.refl _ _).drew).alloc (Nat.le_refl _) _;have hs04:w0.heap.size≤w4.heap.size:=hb4.size;have HRW:=hid (HR.out.below (hb4.trans (hbn.mono hs04)))
       have HRR:=hid (show(rowO (Jn.newC J key l) (.slice ua l.length ucap)).length=3∧ ∀u∈rowO (Jn.newC J key l) (.slice ua l.length ucap),u.oneCell'=true from⟨rfl,fun u hu=>by
        simp only[rowO,List.mem_cons,List.not_mem_nil,or_false]at hu;rcases hu with rfl|rfl|rfl<;>rfl⟩)
       have HNE:Hid (∀j y,(rowO (Jn.newC J key l) (.slice ua l.length ucap))[j]?=some y→(w4.drew.alloc (.cells #[.int .i64 (Jn.last J+1),.string key,.slice ua l.length ucap] 132)).cell? ((⟨w4.heap.size,0,none⟩:Addr).add j)=some y):=(fun j y hj=>by
        rw[Addr.add_lit,Nat.zero_add];exact(Cs.new w4.drew [.int .i64 (Jn.last J+1),.string key,.slice ua l.length ucap] 132).cell j hj:_)
       have HNN:=hid (show(rowsO J.cos us).length≤1000000000 from by rw[HRL.out];omega);clear hC4 hT4 hM4 hch hR ha HK4;go_upto_region 9 with fail;go_cut [0] (fun x wx=>x= .pointer (some ⟨b,0,none⟩)∧ ∃va,Hid (Cs wx b [.slice ba J.base.length bcap,.int .i64 J.first,va,vt4,.map (some mb)])∧Hid (LiesO wx va (J.cos++[Jn.newC J key l]))∧Below w0.heap.size w0 wx)
       case first=>
        go_region_law (first
         |(refine step_append_full rfl (.tmp 33) (.tmp 35) 39 rfl 132 i0 (.agg #[.int .i64 0,.string ⟨#[]⟩,.slice none 0 0]) 3 48 Tryz.underlying39 hi0 hz0 hz1 hz2 rfl (by decide) ca (rowsO J.cos us) J.cos.length HRL.out (by simp[Act.eval,Act.put]) HRW.out ⟨w4.heap.size,0,none⟩ 1 (by simp[Act.eval,Act.put]) (rowO (Jn.newC J key l) (.slice ua l.length ucap)) HRR.out HNE.out HNN.out (by decide) ?_;rintro v5 w5 ⟨hR5,hO5,hb5⟩;have HR5:=hid hR5;have HO5:=hid hO5;obtain⟨xa5,xc5,hv5,_⟩:=hR5;obtain⟨n5,hn5⟩: ∃n5,(rowsO J.cos us++[rowO (Jn.newC J key l) (.slice ua l.length ucap)]).length=n5:=⟨_,rfl⟩;rw[hn5]at hv5;subst hv5;clear hn5;have q5:Below w4.heap.size w4 w5:=hbn.trans (hb5.mono hbn.size);have d2:=(q5.cell (p:=⟨b,2,none⟩) hbl4).trans m2;have e2:=(q5.frozen (p:=⟨b,2,none⟩) hbl4).trans n2)
         |(go_simp;go_at_call 203;refine(clip_any ca J.cos.length ccap _ hccap).mono ?_;rintro e wa ⟨rfl,rfl⟩))
        all_goals
         have hb05:Below w0.heap.size w0 w5:=hb4.trans (q5.mono hs04)
         have hne5: ∀g,(Value.slice xa5 n5 xc5).ownBlock=some g→g≠b:=fun g hg=>by
          have h6:w4.heap.size≤g:=Nat.le_trans hbn.size (HO5.out g hg).1;omega
         go_wp2_with fail;go_meet
         case rel=>
          have hb06:Below w0.heap.size w0 (w5.setCell ⟨b,2,none⟩ (.slice xa5 n5 xc5)):=hb05.setCell (p:=⟨b,2,none⟩) hb0 _;exact⟨rfl,_,(HC4.out.below q5).set 2 _,LiesO.append (HCH.out.below hb06) (HU.out.below hb06) (HR5.out.nbo (nb_set _ _ _ _) hne5),hb06⟩
       case rest=>
        obtain⟨rfl,va,HCX,HLX,hbx⟩:=hcut
        have HLX2:=hid HLX.out;obtain⟨va1,vacap,rfl,_⟩:=HLX.out
        have hlA:(J.cos++[Jn.newC J key l]).length=J.cos.length+1:=by simp
        have y2:=HCX.out.cell 2 rfl;by_cases h31:30<J.cos.length+1
        · have h31':30<(((J.cos++[Jn.newC J key l]).length:Nat):Int):=by rw[hlA];omega
          obtain⟨c,r,hcr⟩: ∃c r,J.cos=c::r:=by
           cases hc:J.cos with
           |nil=>rw[hc]at h31;simp at h31
           |cons c r=>exact⟨c,r,rfl⟩
          have hrl:r.length+1=J.cos.length:=by rw[hcr];simp
          have hfst:=Jn.run_first (n:=J.first) (T:=J.base) (c:=c) (r:=r) (by rw[←hcr,(Jn.chk_parts HJ.out).2.2.2.1]);have hcnu:c.nu=J.first:=(Jn.co_zero hfst.1).1
          have HAD:=hid (show Jn.addJ J key l=⟨Pp.allR J.base c.ch J.first,J.first+1,r++[Jn.newC J key l]⟩from by rw[Jn.addJ,Jn.cutJ,if_pos (by show 30<(J.cos++[Jn.newC J key l]).length;rw[hlA];exact h31)];simp only[hcr,List.cons_append]);have HF0:=hid (show Pp.allE J.base c.ch J.first=0 from by have:=hfst.2;rwa [hcnu]at this);have HLX3:=hid (show LiesO wc (.slice va1 (J.cos++[Jn.newC J key l]).length vacap) (c::(r++[Jn.newC J key l]))from by have:=HLX2.out;rw[hcr]at this⊢;exact this);have HCZ:=hid (show SizedC 150000000000000 c.ch from(HCS.out c (by rw[hcr];simp)).2);have HGB:=hid (Pp.good_sized ((Pp.good_iff J.base).1 (Jn.chk_parts HJ.out).1))
          have HNO5:Hid (∀s,Value.string s∉[.slice ba J.base.length bcap,.int .i64 J.first,.slice va1 (J.cos++[Jn.newC J key l]).length vacap,vt4,.map (some mb)]):=(fun s hs=>by
           simp only[List.mem_cons,List.not_mem_nil,or_false]at hs;rcases hs with h|h|h|h|h
           · exact Value.noConfusion h
           · exact Value.noConfusion h
           · exact Value.noConfusion h
           · exact HNO4.out s (by simp[h])
           · exact Value.noConfusion h:_)
          clear hcr hfst hcnu;go_wp2_with fail;refine(forget_any J.base J.first c (r++[Jn.newC J key l]) b _ _ _ _ w0.heap.size _ HCX.out HNO5.out (HVB.out.below hbx) HLX3.out (by simp) HGB.out HCZ.out f1 f2 HF0.out hb0).mono ?_
          rintro e w6 ⟨rfl,hb6,vb6,va6,hC6,hL6,hO6⟩;have HD:=hid (show Added w6 b (Jn.addJ J key l)from by rw[HAD.out];exact⟨_,_,_,_,hC6,hL6,hO6⟩);have hb06:=hbx.trans hb6;clear hC6 hL6 hO6;go_wp2_with fail;go_ret;exact⟨by rw[HE.out,HA.out];rfl,hb06,fun _=>HD.out⟩
        · have h31': ¬30<(((J.cos++[Jn.newC J key l]).length:Nat):Int):=by rw[hlA];omega
          have HAD:=hid (show Jn.addJ J key l=⟨J.base,J.first,J.cos++[Jn.newC J key l]⟩from by rw[Jn.addJ,Jn.cutJ,if_neg (by show¬30<(J.cos++[Jn.newC J key l]).length;rw[hlA];exact h31)]);have HVX:=hid (HVB.out.below hbx);go_wp2_with fail;go_ret;refine⟨by rw[HE.out,HA.out];rfl,hbx,fun _=>?_⟩
          rw[HAD.out];exact⟨_,_,_,_,HCX.out,HVX.out,HLX2.out⟩
     · have hz:(Pp.allE (Jn.tree J) l (Jn.last J+1)==0)=false:=by simpa using ha
       have HA:=hid ha;go_wp2_with fail;go_ret;exact⟨by rw[HE.out];rfl,hb4,fun h=>by rw[HE.out]at h;exact absurd h HA.out⟩
/-- A page. -/
structure Pg where
 reset:Bool
 tree:List En
 cos:List Co
 cur:Int
 more:Bool
def LiesPg (w:World) (v:Value) (P:Pg):Prop:= ∃vt vc,v= .agg #[.bool P.reset,vt,vc,.int .i64 P.cur,.bool P.more]∧Lies w vt P.tree∧LiesO w vc P.cos
theorem LiesPg.below {w w':World} {v:Value} {P:Pg} (h:LiesPg w v P) (hw:Below w.heap.size w w'):LiesPg w' v P:=by
 obtain⟨vt,vc,h1,h2,h3⟩:=h
 exact⟨vt,vc,h1,h2.below hw,h3.below hw⟩
theorem liesO_shape {w:World} {v:Value} {l:List Co} (h:LiesO w v l): ∃a cap,v= .slice a l.length cap:=by
 obtain⟨a,cap,h,_⟩:=h
 exact⟨a,cap,h⟩
end Go.Proofs.YtppdfeehhnofaaaGreatDoor
