/- What slices.SortFunc of grants by grant.compare does. -/
import Derived.Test.YtppdfeehhnofaaaGreatDoorHAO
import Derived.Test.YtppdfeehhnofaaaGreatDoorHAL
set_option linter.unusedSimpArgs false
set_option linter.unusedVariables false
namespace Go.Proofs.YtppdfeehhnofaaaGreatDoor
open Go.RowKit

theorem below_growG {B:Nat} {w0 w:World} (h:Below B w0 w) (hB:B≤w.heap.size) (os:Array Obj):Below B w0 (Sort.grow w os):=
 h.trans ⟨rfl,rfl,rfl,by simp[Sort.grow],fun k hk=>by simp[Sort.grow,Array.getElem?_append_left (show k<w.heap.size by omega)]⟩
set_option maxHeartbeats 1000000 in
theorem or2_same (a b:Int) (g:Nat) (w:World) (h0:w.cell? ⟨g,0,none⟩=some (.int .i64 a)) (h1:w.cell? ⟨g,1,none⟩=some (.int .i64 b)):
    Calls Tryz.prog 152 #[.slice (some ⟨g,0,none⟩) 2 2] w fun e w'=>e= .returned (.int .i64 (if a=0 then b else a))∧w'=w:=by
 have H0:=ghid h0;have H1:=ghid h1;clear h0 h1;obtain⟨r,hr⟩: ∃r,r=if a=0 then b else a:=⟨_,rfl⟩
 rw[←hr];have HR:=ghid hr;clear hr;go_enter Tryz.func152,Tryz.ntmps152
 go_wp2_with fail;go_loopw [8] (fun i wr=>(i= .int .i64 0∨(i= .int .i64 1∧a=0)∨(i= .int .i64 2∧a=0∧b=0))∧wr=w) (fun i _=>2-(intOf i).toNat)
 case atStart=>exact⟨Or.inl rfl,rfl⟩
 case round=>
  obtain⟨hi,hbel⟩:=hrel
  have c0:wr.cell? ⟨g,0,none⟩=some (.int .i64 a):=hbel▸H0.out;have c1:wr.cell? ⟨g,1,none⟩=some (.int .i64 b):=hbel▸H1.out;have HB:=ghid hbel;clear hbel;rcases hi with rfl|⟨rfl,ha⟩|⟨rfl,ha,hb⟩
  · by_cases ha:a=0
    · subst ha
      go_wp2_with fail;go_roundw
      case rel=>exact⟨by simp,HB.out⟩
      case measure=>simp[intOf]
    · have HE:=hid (show a=r from by rw[HR.out,if_neg ha])
      have hz:(a==0)=false:=by simpa using ha
      go_wp2_with fail;go_ret;exact⟨Pp.ret_int HE.out,HB.out⟩
  · subst ha
    by_cases hb:b=0
    · subst hb
      go_wp2_with fail;go_roundw
      case rel=>exact⟨by simp,HB.out⟩
      case measure=>simp[intOf]
    · have HE:=hid (show b=r from by rw[HR.out,if_pos rfl])
      have hz:(b==0)=false:=by simpa using hb
      go_wp2_with fail;go_ret;exact⟨Pp.ret_int HE.out,HB.out⟩
  · subst ha
    subst hb;have HE:=hid (show(0:Int)=r from by rw[HR.out,if_pos rfl]);go_wp2_with fail;go_ret;exact⟨Pp.ret_int HE.out,HB.out⟩
set_option maxHeartbeats 1000000 in
theorem compare_grow (a b:Gr) (w:World):
    Calls Tryz.prog 116 #[.agg #[.string a.fo,.string a.wh,.int .i64 a.ri],.agg #[.string b.fo,.string b.wh,.int .i64 b.ri]] w fun e w'=>e= .returned (.int .i64 (Pp.cG a b))∧ ∃q os',w'=Sort.grow (w.drewN q) os':=by
 have HE:Hid ((if Pp.cS a.fo b.fo=0 then Pp.cS a.wh b.wh else Pp.cS a.fo b.fo)=Pp.cG a b):=rfl;go_enter Tryz.func116,Tryz.ntmps116
 go_wp2_with fail
 go_region_held3 (fun W=>W.cell? ⟨w.heap.size,0,none⟩=some (.string a.fo)∧W.cell? ⟨w.heap.size,1,none⟩=some (.string a.wh)∧W.cell? ⟨w.heap.size+1,0,none⟩=some (.string b.fo)∧W.cell? ⟨w.heap.size+1,1,none⟩=some (.string b.wh)) (go_keep) (first
  |(go_at_call 153;refine(cmpS_any _ _ _).mono ?_;rintro e wa ⟨rfl,rfl⟩)
  |(go_at_call 152;refine(or2_same (Pp.cS a.fo b.fo) (Pp.cS a.wh b.wh) _ _ (by simp[go_sem]) (by simp[go_sem])).mono ?_;rintro e wb ⟨rfl,rfl⟩;rw[HE.out]))
 all_goals
  go_wp2;go_ret;exact⟨rfl,1,_,by rw[Sort.alloc_eq_grow,Sort.alloc_eq_grow,Sort.alloc_eq_grow,Sort.grow_grow,Sort.grow_grow];rfl⟩
set_option maxHeartbeats 1000000 in
theorem sortG_any (G:List Gr) (base g cap:Nat) (w:World) (ho:w.ownsRow base 137 3 (.slice (some ⟨g,0,none⟩) G.length cap) G.length (Pp.flatG G)) (hn:G.length≤1000000000) (hc1:G.length≤cap) (hb:base≤g) (hg:g<w.heap.size):
    Calls Tryz.prog 201 #[.slice (some ⟨g,0,none⟩) G.length cap,.func (.func 116) #[] #[]] w fun e w'=>e= .returned (.tuple #[])∧ ∃M:List Gr,M.Perm G∧M.Pairwise (fun a b=>Pp.ltG b a=false)∧LiesG w' (.slice (some ⟨g,0,none⟩) G.length cap) M∧Below base w w':=by
 have inst:Inhabited Gr:=⟨⟨⟨#[]⟩,⟨#[]⟩,0⟩⟩
 have hH:=Pp.holdsG_own ho rfl;have eg: ∀args w,(callFunc 116 args).run Tryz.prog w= .ok (.enter 116 args) w:=enters_of Tryz.func116 (by kernel_rfl) rfl;have hcon:=AnyQ.slices_SortFunc Tryz.sortG 3 Tryz.isAgg137 Tryz.sizeOf137 Pp.cellsG (fun _=>rfl) (fun x=>Pp.cellsG_one x) Pp.cG Pp.swoG 116 #[] g 0 cap G.toArray w eg (fun _ _ _ _ x y=>compare_grow x y _) hH hg (by simp;omega);change Calls Tryz.prog 201 _ _ _ at hcon
 rw[List.size_toArray]at hcon;refine hcon.mono ?_
 rintro e w' ⟨rfl,d',n,os,hp,hsrt,rfl⟩;have hsz:d'.size=G.length:=by have:=hp.1;simpa using this
 refine⟨rfl,d'.toList,?_,?_,?_,?_⟩
 · have:=hp.2.2
   rw[←hsz]at this;simp only[Array.extract_size]at this;rw[hsz,←List.size_toArray,Array.extract_size]at this;exact this
 · rw[List.pairwise_iff_getElem]
   intro i j hi hj hij;have hj':j<d'.size:=by simpa using hj
   have hi':i<d'.size:=by simpa using hi
   have:=hsrt i j (Nat.zero_le _) hij (by omega)
   rw[Pp.ltOfG,getElem!_pos d' i hi',getElem!_pos d' j hj']at this;simpa using this
 · rw[←hsz]
   exact Pp.liesG_holds (by rw[sortWorldK];simp[Sort.grow,Sort.size_putRowK,Sort.ahead];omega) (holdsK_sortWorldK_c Pp.cellsG 3 w g 0 G.toArray d' n os hH hg (by rw[hsz];simp)) (by omega) (by omega)
 · exact below_growG (Lib.below_putRow (Below.refl base w) hb) (by simp[Sort.putRow,Sort.mapBlock,Sort.ahead];omega) os
theorem own_belowG {w w':World} {base:Nat} {e:TypeId} {size:Nat} {v:Value} {n:Nat} {xs:List Value} (h:w.ownsRow base e size v n xs) (hb:Below w.heap.size w w'):w'.ownsRow base e size v n xs:=by
 obtain⟨h1,h2⟩:=h
 refine⟨h1,?_⟩
 rcases h2 with h2|⟨g,cap,cur,hv,hg,hh,r⟩
 · exact .inl h2
 · have hlt:g<w.heap.size:=by
    rcases Nat.lt_or_ge g w.heap.size with h|h
    · exact h
    · rw[Array.getElem?_eq_none h]at hh;cases hh
   exact .inr ⟨g,cap,cur,hv,hg,(hb.block g hlt).trans hh,r⟩
theorem own_monoG {w:World} {base B:Nat} {e:TypeId} {size:Nat} {v:Value} {n:Nat} {xs:List Value} (h:w.ownsRow base e size v n xs) (hB:B≤base):w.ownsRow B e size v n xs:=by
 obtain⟨h1,h2⟩:=h
 refine⟨h1,?_⟩
 rcases h2 with h2|⟨g,cap,cur,hv,hg,r⟩
 · exact .inl h2
 · exact .inr ⟨g,cap,cur,hv,Nat.le_trans hB hg,r⟩
theorem new_cellsG (w:World) (e:Gr) (T:TypeId): ∀j u,(Pp.cellsG e)[j]?=some u→(w.alloc (.cells #[.string e.fo,.string e.wh,.int .i64 e.ri] T)).cell? ((⟨w.heap.size,0,none⟩:Addr).add j)=some u:=by
 intro j u hj;match j,hj with
 |0,hj=>simp[Pp.cellsG]at hj;subst hj;simp[Addr.add]
 |1,hj=>simp[Pp.cellsG]at hj;subst hj;simp[Addr.add]
 |2,hj=>simp[Pp.cellsG]at hj;subst hj;simp[Addr.add]
 |j+3,hj=>simp[Pp.cellsG]at hj
namespace Pp
theorem gfilter_hit {L:List Gr} {k:Nat} (h:k<L.length) {pr:Gr→Bool} (hp:pr L[k]=true):(L.take (k+1)).filter pr=(L.take k).filter pr++[L[k]]:=by
 rw[List.take_succ_eq_append_getElem h,List.filter_append];simp[hp]
theorem gfilter_miss {L:List Gr} {k:Nat} (h:k<L.length) {pr:Gr→Bool} (hp:pr L[k]=false):(L.take (k+1)).filter pr=(L.take k).filter pr:=by
 rw[List.take_succ_eq_append_getElem h,List.filter_append];simp[hp]
end Pp
theorem Tryz.infoG:(Tryz.prog.info? 137).map (fun i=>(i.zero,i.size,i.bytes))=some (some (.agg #[.string ⟨#[]⟩,.string ⟨#[]⟩,.int .i64 0]),3,40):=by kernel_rfl
set_option maxRecDepth 100000 in
set_option maxHeartbeats 1000000 in
theorem gevery_any (L:List Gr) (v:Value) (g:Nat) (cb:Array Value) (pr:Gr→Bool) (w:World) (hv:LiesG w v L) (hg:TellsG w g cb pr) (hn:L.length≤1000000000):
    Calls Tryz.prog 199 #[v,.func (.func g) #[] cb] w fun e w'=> ∃u,e= .returned u∧w'.ownsRow w.heap.size 137 3 u (L.filter pr).length (Pp.flatG (L.filter pr))∧u≠ .slice none 0 0∧Below w.heap.size w w':=by
 obtain⟨i0,hi0,hz0,hz1,hz2⟩:=info_parts Tryz.infoG
 obtain⟨a,cap,rfl,hcap,hcap2,hL⟩:=hv
 have HL:Hid (∀i (h:i<L.length),∃b o,a=some ⟨b,o,none⟩∧b<w.heap.size∧GrAt w b (o+i*3) L[i]):=hL;have HG:Hid (TellsG w g cb pr):=hg;have eg:=hg.1;clear hL hg;go_enter Tryz.func199,Tryz.ntmps199
 go_wp2_with (at_make;refine wpList_make_own _ rfl _ _ 23 rfl w.heap.size 137 i0 (.agg #[.string ⟨#[]⟩,.string ⟨#[]⟩,.int .i64 0]) 3 Tryz.underlying23 hi0 hz0 hz1 .i64 .i64 (L.length:Int) L.length rfl rfl rfl ?m2 ?m3 ?m4 ?_)
 case m2=>rw[hz2];omega
 case m3=>unfold maxLen;omega
 case m4=>exact Nat.le_refl _
 intro w0 ho0 hgr0;have hb0:Below w.heap.size w w0:=(Below.refl _ _).grown hgr0 (Nat.le_refl _) (fun k hk=>by cases hk);clear hgr0;go_wp2_with fail;go_loopw [5,13] (fun u i wr=> ∃k:Nat,k≤L.length∧i= .int .i64 k∧wr.ownsRow w.heap.size 137 3 u ((L.take k).filter pr).length (Pp.flatG ((L.take k).filter pr))∧u≠ .slice none 0 0∧Below w.heap.size w wr) (fun _ i _=>L.length-(intOf i).toNat)
 case atStart=>exact⟨0,Nat.zero_le _,rfl,ho0,by simp,hb0⟩
 case round=>
  obtain⟨k,hk,rfl,hown,hnn,hbel⟩:=hrel
  clear ho0 hb0
  have hlenf:((L.take k).filter pr).length≤k:=by
   have h1:=List.length_filter_le pr (L.take k);have h2:=List.length_take_le k L;omega
  by_cases hlt:k<L.length
  · obtain⟨b,o,rfl,hb,he⟩:=HL.out k hlt
    obtain⟨c0,c1,c2⟩:=he.below hb hbel
    cases hp:pr L[k]with
    |true=>
     have HF:Hid ((L.take (k+1)).filter pr=(L.take k).filter pr++[L[k]]):=Pp.gfilter_hit hlt hp;go_wp2_with fail;refine(HG.out.2 _ (hbel.alloc hbel.size _) L[k]).mono ?_
     rintro e w1 ⟨rfl,hb1⟩;obtain⟨d0,d1,d2,hb1w,hlt1⟩:=bxG3 hb1
     have hbel1:=below_trans hbel hb1w;have hown1:=own_belowG hown hb1w;rw[hp];clear hb1 c0 c1 c2 eg hown hbel hb1w;go_wp2_with (at_builtin;refine wpList_append_own _ rfl _ _ 23 rfl w.heap.size 137 i0 (.agg #[.string ⟨#[]⟩,.string ⟨#[]⟩,.int .i64 0]) 3 40 Tryz.underlying23 hi0 hz0 hz1 hz2 rfl (by decide) _ _ _ rfl (hown1.alloc _) ⟨w1.heap.size,0,none⟩ 1 1 (Pp.cellsG L[k]) rfl rfl ?c1 ?c2 ?c3 ?c4 ?c5 ?_)
     case c1=>exact new_cellsG w1 L[k] _
     case c2=>exact Pp.cellsG_one _
     case c3=>unfold maxLen;omega
     case c4=>omega
     case c5=>have:=hbel1.size;simp;omega
     intro v2 w2 ho2 hgr2 hnn2;have hbel2:Below w.heap.size w w2:=(hbel1.alloc hbel1.size _).grown hgr2 (by have:=hbel1.size;simp;omega) (fun q hq=>(hown1.lt q hq).1);rw[Pp.flatG_snoc]at ho2;have HO:Hid (w2.ownsRow w.heap.size 137 3 v2 (((L.take k).filter pr).length+1) (Pp.flatG ((L.take k).filter pr++[L[k]]))):=ho2;have hnn3:v2≠ .slice none 0 0:=by simpa using hnn2
     clear ho2 hgr2 hnn2 hown1 hbel1 d0 d1 d2 hnn;go_wp2_with fail;go_roundw
     case rel=>exact⟨k+1,by omega,by simp,by rw[HF.out,List.length_append];exact HO.out,hnn3,hbel2⟩
     case measure=>simp[intOf];omega
    |false=>
     have HF:Hid ((L.take (k+1)).filter pr=(L.take k).filter pr):=Pp.gfilter_miss hlt hp;go_wp2_with fail;refine(HG.out.2 _ (hbel.alloc hbel.size _) L[k]).mono ?_
     rintro e w1 ⟨rfl,hb1⟩;obtain⟨d0,d1,d2,hb1w,hlt1⟩:=bxG3 hb1
     have hbel1:=below_trans hbel hb1w;have hown1:=own_belowG hown hb1w;rw[hp];clear hb1 c0 c1 c2 eg hown hbel hb1w;go_wp2_with fail;go_roundw
     case rel=>exact⟨k+1,by omega,by simp,by rw[HF.out];exact hown1,hnn,hbel1⟩
     case measure=>simp[intOf];omega
  · go_wp2_with fail
    go_ret;exact⟨_,rfl,by have e:L.take k=L:=List.take_of_length_le (by omega);rw[e]at hown;exact hown,hnn,hbel⟩
end Go.Proofs.YtppdfeehhnofaaaGreatDoor
namespace Go.Proofs.YtppdfeehhnofaaaGreatDoor
open Go.RowKit

namespace Pp
/-- Is a grant another one's, or of another folder? -/
def othG (x e:Gr):Bool:= !(cG e x==0)
def outG (x:Gr) (G:List Gr):List Gr:=G.filter (othG x)
end Pp

set_option maxHeartbeats 1000000 in
theorem put1_any (e x:Gr) (b:Nat) (w:World) (hb:b<w.heap.size) (h0:w.cell? ⟨b,0,none⟩=some (.string x.fo)) (h1:w.cell? ⟨b,1,none⟩=some (.string x.wh)) (h2:w.cell? ⟨b,2,none⟩=some (.int .i64 x.ri)):
    Calls Tryz.prog 200 #[.agg #[.string e.fo,.string e.wh,.int .i64 e.ri],.pointer (some ⟨b,0,none⟩)] w fun r w'=>r= .returned (.bool (Pp.othG x e))∧Below w.heap.size w w':=by
 have HE:Hid ((!(Pp.cG e x==0))=Pp.othG x e):=rfl;have k0: ∀o,(w.alloc o).cell? ⟨b,0,none⟩=some (.string x.fo):=fun o=>(((Below.refl w.heap.size w).alloc (Nat.le_refl _) o).cell (p:=⟨b,0,none⟩) hb).trans h0
 have k1: ∀o,(w.alloc o).cell? ⟨b,1,none⟩=some (.string x.wh):=fun o=>(((Below.refl w.heap.size w).alloc (Nat.le_refl _) o).cell (p:=⟨b,1,none⟩) hb).trans h1
 have k2: ∀o,(w.alloc o).cell? ⟨b,2,none⟩=some (.int .i64 x.ri):=fun o=>(((Below.refl w.heap.size w).alloc (Nat.le_refl _) o).cell (p:=⟨b,2,none⟩) hb).trans h2
 go_enter Tryz.func200,Tryz.ntmps200
 go_wp2_with fail;refine(compare_any e x _).mono ?_
 rintro r w1 ⟨rfl,hb1⟩
 first
  |(obtain⟨d0,d1,d2,hbw,hlt⟩:=bxG3 hb1)
  |(have hbw:=hb1)
 generalize Pp.cG e x=y at*;go_wp2;go_ret;exact⟨Pp.ret_bool HE.out,hbw⟩
set_option maxHeartbeats 1000000 in
theorem in1_any (e:Gr) (f:ByteArray) (b:Nat) (w:World) (hb:b<w.heap.size) (hc:w.cell? ⟨b,0,none⟩=some (.string f)):
    Calls Tryz.prog 198 #[.agg #[.string e.fo,.string e.wh,.int .i64 e.ri],.pointer (some ⟨b,0,none⟩)] w fun r w'=>r= .returned (.bool (Pp.inF f e))∧Below w.heap.size w w':=by
 have hc2: ∀o,(w.alloc o).cell? ⟨b,0,none⟩=some (.string f):=fun o=>(((Below.refl w.heap.size w).alloc (Nat.le_refl _) o).cell (p:=⟨b,0,none⟩) hb).trans hc
 have HE:Hid ((e.fo.toList==f.toList)=Pp.inF f e):=rfl;go_enter Tryz.func198,Tryz.ntmps198
 go_wp2;go_ret;exact⟨Pp.ret_bool HE.out,(Below.refl _ _).alloc (Nat.le_refl _) _⟩
set_option maxHeartbeats 1000000 in
theorem in_any (f:ByteArray) (w:World):
    Calls Tryz.prog 161 #[.string f] w fun e w'=>e= .returned (.func (.func 198) #[] #[.pointer (some ⟨w.heap.size,0,none⟩)])∧TellsG w' 198 #[.pointer (some ⟨w.heap.size,0,none⟩)] (Pp.inF f)∧Below w.heap.size w w':=by
 go_enter Tryz.func161,Tryz.ntmps161
 go_wp2;go_ret;refine⟨rfl,⟨enters_of Tryz.func198 (by kernel_rfl) rfl,fun W hW e=>?_⟩,(Below.refl _ _).alloc (Nat.le_refl _) _⟩
 exact in1_any e f w.heap.size W (Nat.lt_of_lt_of_le (by simp) hW.size) ((hW.cell (p:=⟨w.heap.size,0,none⟩) (by simp)).trans (by simp))
set_option maxHeartbeats 1000000 in
theorem right1_any (e:Gr) (f h:ByteArray) (b b2:Nat) (w:World) (hb:b<w.heap.size) (hb2:b2<w.heap.size) (hc:w.cell? ⟨b,0,none⟩=some (.string f)) (hc2:w.cell? ⟨b2,0,none⟩=some (.string h)):
    Calls Tryz.prog 160 #[.agg #[.string e.fo,.string e.wh,.int .i64 e.ri],.pointer (some ⟨b,0,none⟩),.pointer (some ⟨b2,0,none⟩)] w fun r w'=>r= .returned (.bool (Pp.ofW f h e))∧Below w.heap.size w w':=by
 have k0: ∀o,(w.alloc o).cell? ⟨b,0,none⟩=some (.string f):=fun o=>(((Below.refl w.heap.size w).alloc (Nat.le_refl _) o).cell (p:=⟨b,0,none⟩) hb).trans hc
 have k1: ∀o,(w.alloc o).cell? ⟨b2,0,none⟩=some (.string h):=fun o=>(((Below.refl w.heap.size w).alloc (Nat.le_refl _) o).cell (p:=⟨b2,0,none⟩) hb2).trans hc2
 cases h1:(e.fo.toList==f.toList)with
 |true=>
  have HE:=hid (show(e.wh.toList==h.toList)=Pp.ofW f h e from by rw[Pp.ofW,h1];rfl);go_enter Tryz.func160,Tryz.ntmps160
  go_wp2;go_ret;exact⟨Pp.ret_bool HE.out,(Below.refl _ _).alloc (Nat.le_refl _) _⟩
 |false=>
  have HE:=hid (show false=Pp.ofW f h e from by rw[Pp.ofW,h1];rfl);go_enter Tryz.func160,Tryz.ntmps160
  go_wp2;go_ret;exact⟨Pp.ret_bool HE.out,(Below.refl _ _).alloc (Nat.le_refl _) _⟩
namespace Pp
/-- The right of somebody in a folder. -/
def rgt (G:List Gr) (f h:ByteArray):Int:=match G.find? (ofW f h)with
 |some e=>e.ri
 |none=>0
end Pp

set_option maxRecDepth 100000 in
set_option maxHeartbeats 1000000 in
theorem right_any (G:List Gr) (v:Value) (f h:ByteArray) (w:World) (hv:LiesG w v G):
    Calls Tryz.prog 123 #[v,.string f,.string h] w fun e w'=>e= .returned (.int .i64 (Pp.rgt G f h))∧Below w.heap.size w w':=by
 have HV:=ghid hv
 have hT:TellsG ((w.alloc (.cells #[.string f] 9)).alloc (.cells #[.string h] 9)) 160 #[.pointer (some ⟨w.heap.size,0,none⟩),.pointer (some ⟨w.heap.size+1,0,none⟩)] (Pp.ofW f h):=by
  refine⟨enters_of Tryz.func160 (by kernel_rfl) rfl,fun W hW e=>?_⟩
  exact right1_any e f h w.heap.size (w.heap.size+1) W (Nat.lt_of_lt_of_le (by simp;omega) hW.size) (Nat.lt_of_lt_of_le (by simp) hW.size) ((hW.cell (p:=⟨w.heap.size,0,none⟩) (by simp;omega)).trans (by simp[go_sem])) ((hW.cell (p:=⟨w.heap.size+1,0,none⟩) (by simp)).trans (by simp[go_sem]))
 have HT:=ghid hT;clear hT;have hbb:Below w.heap.size w ((w.alloc (.cells #[.string f] 9)).alloc (.cells #[.string h] 9)):=((Below.refl _ _).alloc (Nat.le_refl _) _).alloc (by simp) _;rcases Pp.idG_cases G (Pp.ofW f h)with⟨hi,hf,_⟩|⟨k,hk,hi,hf,_⟩
 · have HI:=ghid hi
   have HE:=hid (show 0=Pp.rgt G f h from by rw[Pp.rgt,hf]);clear hi hf hv;go_enter Tryz.func123,Tryz.ntmps123
   go_wp2_with fail;refine(indexFunc_any G _ _ _ (Pp.ofW f h) _ (HV.out.below hbb) HT.out).mono ?_
   rintro e w1 ⟨rfl,hb1⟩;rw[HI.out];have hb2:=hbb.trans (hb1.mono hbb.size);go_wp2;go_ret;exact⟨Pp.ret_int HE.out,hb2⟩
 · have HI:=ghid hi
   have HE:=hid (show(G[k]).ri=Pp.rgt G f h from by rw[Pp.rgt,hf]);obtain⟨a,cap,rfl,hcap,hcap2,hLL⟩:=hv
   obtain⟨b,o,rfl,hb,he⟩:=hLL k hk
   have hkk:(k:Int)<G.length:=by omega
   clear hi hf hLL;go_enter Tryz.func123,Tryz.ntmps123
   go_wp2_with fail;refine(indexFunc_any G _ _ _ (Pp.ofW f h) _ (HV.out.below hbb) HT.out).mono ?_
   rintro e w1 ⟨rfl,hb1⟩;rw[HI.out];have hb2:=hbb.trans (hb1.mono hbb.size);obtain⟨c0,c1,c2⟩:=he.below hb hb2
   go_wp2;go_ret;exact⟨Pp.ret_int HE.out,hb2⟩
end Go.Proofs.YtppdfeehhnofaaaGreatDoor
namespace Go.Proofs.YtppdfeehhnofaaaGreatDoor
open Go.RowKit

/-- A row's block is one from B on. -/
def Fr (B:Nat) (v:Value):Prop:= ∀g,v.ownBlock=some g→B≤g
theorem fr_nil (B:Nat):Fr B (.slice none 0 0):=fun g h=>by simp[Value.ownBlock]at h
theorem Fr.mono {B B':Nat} {v:Value} (h:Fr B v) (hB:B'≤B):Fr B' v:=fun g hg=>Nat.le_trans hB (h g hg)
theorem own_shapeG {w:World} {base:Nat} {T:TypeId} {v:Value} {L:List Gr} (h:w.ownsRow base T 3 v L.length (Pp.flatG L)) (h0:L≠[]): ∃g cap,v= .slice (some ⟨g,0,none⟩) L.length cap∧base≤g∧g<w.heap.size∧L.length≤cap∧cap≤maxLen:=by
 obtain⟨hl,h2⟩:=h
 rcases h2 with⟨_,hz⟩|⟨g,cap,cur,rfl,hg,hh,hn,hm,hz,htake⟩
 · exact absurd (List.length_eq_zero_iff.1 hz) h0
 · have hlt:g<w.heap.size:=by
    rcases Nat.lt_or_ge g w.heap.size with h|h
    · exact h
    · rw[Array.getElem?_eq_none h]at hh;cases hh
   exact⟨g,cap,rfl,hg,hlt,hn,hm⟩
theorem liesG_own {w:World} {base:Nat} {T:TypeId} {v:Value} {L:List Gr} (h:w.ownsRow base T 3 v L.length (Pp.flatG L)) (hn:L.length≤1000000000000000):LiesG w v L:=by
 haveI:Inhabited Gr:=⟨⟨⟨#[]⟩,⟨#[]⟩,0⟩⟩
 by_cases h0:L=[]
 · subst h0
   obtain⟨_,h2⟩:=h
   rcases h2 with⟨rfl,_⟩|⟨g,cap,cur,rfl,hg,hh,hc,_⟩
   · exact liesG_nil _
   · exact⟨some ⟨g,0,none⟩,cap,rfl,hc,by simp,fun i hi=>absurd hi (by simp)⟩
 · obtain⟨g,cap,rfl,hb,hg,hc,hm⟩:=own_shapeG h h0
   have:=Pp.liesG_holds hg (Pp.holdsG_own h rfl) (d:=L.toArray) (cap:=cap) (by simpa using hc) (by simpa using hn)
   simpa using this
set_option maxRecDepth 100000 in
set_option maxHeartbeats 2000000 in
theorem put_yes (G:List Gr) (v:Value) (x:Gr) (w:World) (hv:LiesG w v G) (hn:G.length≤1000) (hx: ¬x.ri=0):
    Calls Tryz.prog 163 #[v,.agg #[.string x.fo,.string x.wh,.int .i64 x.ri]] w fun e w'=> ∃u M,e= .returned u∧M.Perm (Pp.outG x G++[x])∧M.Pairwise (fun a b=>Pp.ltG b a=false)∧(LiesG w' u M∧Fr w.heap.size u)∧Below w.heap.size w w':=by
 obtain⟨i0,hi0,hz0,hz1,hz2⟩:=info_parts Tryz.infoG
 have HV:=ghid hv
 have hT:TellsG (w.alloc (.cells #[.string x.fo,.string x.wh,.int .i64 x.ri] 137)) 200 #[.pointer (some ⟨w.heap.size,0,none⟩)] (Pp.othG x):=by
  refine⟨enters_of Tryz.func200 (by kernel_rfl) rfl,fun W hW e=>?_⟩
  exact put1_any e x w.heap.size W (Nat.lt_of_lt_of_le (by simp) hW.size) ((hW.cell (p:=⟨w.heap.size,0,none⟩) (by simp)).trans (by simp)) ((hW.cell (p:=⟨w.heap.size,1,none⟩) (by simp)).trans (by simp)) ((hW.cell (p:=⟨w.heap.size,2,none⟩) (by simp)).trans (by simp))
 have HT:=ghid hT;have hFl:(Pp.outG x G).length≤G.length:=List.length_filter_le _ _;have hz:(x.ri==0)=false:=by simpa using hx
 have HF:Hid (G.filter (Pp.othG x)=Pp.outG x G):=rfl;clear hT hv hx;generalize Pp.outG x G=F at*;go_enter Tryz.func163,Tryz.ntmps163
 go_wp2_with fail;refine(gevery_any G _ _ _ (Pp.othG x) _ (HV.out.below ((Below.refl _ _).alloc (Nat.le_refl _) _)) HT.out (by omega)).mono ?_
 rintro e w1 ⟨u1,rfl,ho1,hn1,hb1⟩;rw[HF.out]at ho1;obtain⟨c0,c1,c2,hbw,hlt⟩:=bxG3 hb1
 have hown1:=own_monoG (B:=w.heap.size) ho1 (by simp);clear ho1 hb1;go_wp2_with (at_builtin;refine wpList_append_own _ rfl _ _ 23 rfl w.heap.size 137 i0 (.agg #[.string ⟨#[]⟩,.string ⟨#[]⟩,.int .i64 0]) 3 40 Tryz.underlying23 hi0 hz0 hz1 hz2 rfl (by decide) _ _ _ rfl (hown1.alloc _) ⟨w1.heap.size,0,none⟩ 1 1 (Pp.cellsG x) rfl rfl (new_cellsG w1 x _) (Pp.cellsG_one _) (by unfold maxLen;omega) (by omega) (by have:=hbw.size;simp;omega) ?_)
 intro v2 w2 ho2 hgr2 hnn2;have hbel2:Below w.heap.size w w2:=(hbw.alloc hbw.size _).grown hgr2 (by have:=hbw.size;simp;omega) (fun q hq=>(hown1.lt q hq).1);rw[Pp.flatG_snoc]at ho2;have ho3:w2.ownsRow w.heap.size 137 3 v2 (F++[x]).length (Pp.flatG (F++[x])):=by rw[List.length_append];exact ho2
 obtain⟨g,cap,rfl,hg1,hg2,hc1,hc2⟩:=own_shapeG ho3 (by simp)
 have HO:=ghid ho3;have HG1:=ghid hg1;have hFX:(F++[x]).length≤1001:=by rw[List.length_append];simp;omega
 clear ho2 hgr2 hnn2 ho3 hown1 hn1 c0 c1 c2;obtain⟨FX,hFX0⟩: ∃FX,FX=F++[x]:=⟨_,rfl⟩
 rw[←hFX0]at HO hFX hc1⊢;have HFX:=ghid hFX0;clear hFX0;go_wp2_with fail;refine(sortG_any FX w.heap.size g cap _ HO.out (by omega) hc1 hg1 hg2).mono ?_
 rintro e w3 ⟨rfl,M,hp,hs,hli,hb3⟩;have HP:=ghid hp;have HSS:=ghid hs;have HLI:=ghid hli;have hb03:Below w.heap.size w w3:=hbel2.trans hb3;clear hp hs hli hb3;go_wp2;go_ret;exact⟨_,M,rfl,by rw[←HFX.out];exact HP.out,HSS.out,⟨HLI.out,fun q hq=>by have h2:some g=some q:=hq;injection h2 with h2;exact h2▸HG1.out⟩,hb03⟩
set_option maxHeartbeats 1000000 in
theorem bounded_ok (G:List Gr) (v:Value) (w:World) (hv:LiesG w v G) (hn:G.length≤60):
    Calls Tryz.prog 162 #[v] w fun e w'=>e= .returned (.tuple #[v,.int .i64 0])∧w'=w:=by
 obtain⟨a,cap,rfl,hcap,hcap2,hLL⟩:=hv
 have h60: ¬60<(G.length:Int):=by omega
 clear hLL;go_enter Tryz.func162,Tryz.ntmps162
 go_wp2;go_ret2;exact⟨rfl,rfl⟩
namespace Pp
/-- Check of grants, then of names beside them. -/
def calE (G:List Gr) (ns:List ByteArray):Int:=if gchE G=0 then nmsE ns else gchE G
theorem nms_cases (ns:List ByteArray):nmsE ns=0∨nmsE ns=1:=by
 rw[nmsE];split
 · exact Or.inl rfl
 · exact Or.inr rfl
end Pp

set_option maxHeartbeats 1000000 in
theorem gcheckAll_any (G:List Gr) (v:Value) (ns:List ByteArray) (g cap:Nat) (w:World) (hv:LiesG w v G) (hs:SizedG G) (hg:g<w.heap.size) (hns: ∀i (h:i<ns.length),(ns[i]).size≤1000000000000000) (hl:ns.length≤1000) (hc: ∀i (h:i<ns.length),w.cell? ⟨g,0+i,none⟩=some (.string ns[i])):
    Calls Tryz.prog 122 #[v,.slice (some ⟨g,0,none⟩) ns.length cap] w fun e w'=>e= .returned (.int .i64 (Pp.calE G ns))∧Below w.heap.size w w':=by
 have HV:=ghid hv;have HS:=ghid hs;have HN:=ghid hns;have HC:=ghid hc;clear hv hs hns hc;by_cases h0:Pp.gchE G=0
 · have H0:=ghid h0
   have HE:=hid (show Pp.nmsE ns=Pp.calE G ns from(if_pos h0).symm);clear h0;go_enter Tryz.func122,Tryz.ntmps122
   go_wp2_with fail;refine(gcheck_any G _ _ HV.out HS.out).mono ?_
   rintro e w1 ⟨rfl,hb1⟩;rw[H0.out];go_wp2_with fail;refine(names_any ns g 0 cap _ (Nat.lt_of_lt_of_le hg hb1.size) HN.out hl (fun i h=>(hb1.cell (p:=⟨g,0+i,none⟩) hg).trans (HC.out i h))).mono ?_
   rintro e w2 ⟨rfl,hb2⟩;generalize Pp.nmsE ns=y at*;go_wp2;go_ret;exact⟨Pp.ret_int HE.out,below_trans hb1 hb2⟩
 · have HE:=hid (show Pp.gchE G=Pp.calE G ns from(if_neg h0).symm)
   have hz:(Pp.gchE G==0)=false:=by simpa using h0
   go_enter Tryz.func122,Tryz.ntmps122
   go_wp2_with fail;refine(gcheck_any G _ _ HV.out HS.out).mono ?_
   rintro e w1 ⟨rfl,hb1⟩;generalize Pp.gchE G=y at*;go_wp2;go_ret;exact⟨Pp.ret_int HE.out,hb1⟩
namespace Pp
def rigR (G:List Gr) (f h:ByteArray):Int:=if calE G [f,h]=0 then rgt G f h else 0
end Pp

set_option maxRecDepth 100000 in
set_option maxHeartbeats 1000000 in
theorem right2_any (G:List Gr) (v:Value) (f h:ByteArray) (w:World) (hv:LiesG w v G) (hs:SizedG G) (hf:f.size≤150000000000000) (hh:h.size≤150000000000000):
    Calls Tryz.prog 87 #[v,.string f,.string h] w fun e w'=>e= .returned (.tuple #[.int .i64 (Pp.rigR G f h),.int .i64 (Pp.calE G [f,h])])∧Below w.heap.size w w':=by
 have HV:=ghid hv;have HS:=ghid hs;clear hv hs;have hsz: ∀i (hi:i<[f,h].length),([f,h][i]).size≤1000000000000000:=fun i hi=>by match i,hi with|0,_=>exact Nat.le_trans hf (by decide)|1,_=>exact Nat.le_trans hh (by decide)
 by_cases h0:Pp.calE G [f,h]=0
 · have HE:=hid (show Pp.rgt G f h=Pp.rigR G f h from(if_pos h0).symm)
   have H0:=ghid h0;rw[h0];clear h0;go_enter Tryz.func87,Tryz.ntmps87
   go_wp2_with fail;refine(gcheckAll_any G _ [f,h] w.heap.size 2 _ (HV.out.below ((Below.refl _ _).alloc (Nat.le_refl _) _)) HS.out (by simp) hsz (by simp) (fun i hi=>by match i,hi with|0,_=>simp|1,_=>simp)).mono ?_
   rintro e w1 ⟨rfl,hb1⟩;rw[H0.out];have hb01:Below w.heap.size w w1:=((Below.refl _ _).alloc (Nat.le_refl _) _).trans (hb1.mono (by simp));clear hb1;go_wp2_with fail;refine(right_any G _ f h _ (HV.out.below hb01)).mono ?_
   rintro e w2 ⟨rfl,hb2⟩;rw[HE.out];have hb02:=below_trans hb01 hb2;go_wp2;go_ret2;exact⟨rfl,hb02⟩
 · have HE:=hid (show 0=Pp.rigR G f h from(if_neg h0).symm)
   have hz:(Pp.calE G [f,h]==0)=false:=by simpa using h0
   go_enter Tryz.func87,Tryz.ntmps87
   go_wp2_with fail;refine(gcheckAll_any G _ [f,h] w.heap.size 2 _ (HV.out.below ((Below.refl _ _).alloc (Nat.le_refl _) _)) HS.out (by simp) hsz (by simp) (fun i hi=>by match i,hi with|0,_=>simp|1,_=>simp)).mono ?_
   rintro e w1 ⟨rfl,hb1⟩;have hb01:Below w.heap.size w w1:=((Below.refl _ _).alloc (Nat.le_refl _) _).trans (hb1.mono (by simp));go_wp2;go_ret2;exact⟨by rw[←HE.out];rfl,hb01⟩
end Go.Proofs.YtppdfeehhnofaaaGreatDoor
namespace Go.Proofs.YtppdfeehhnofaaaGreatDoor.Pp

theorem gsorted_eq: ∀{a b:List Gr},a.Perm b→a.Pairwise (fun x y=>ltG x y=true)→b.Pairwise (fun x y=>ltG x y=true)→a=b
 |[],b,h,_,_=>by rw[List.nil_perm]at h;exact h.symm
 |x::r,b,h,h1,h2=>by
  cases b with
  |nil=>exact absurd h.length_eq (by simp)
  |cons y s=>
   have e:x=y:=by
    have hx:x∈y::s:=h.subset (List.mem_cons_self ..);have hy:y∈x::r:=h.symm.subset (List.mem_cons_self ..);rcases List.mem_cons.1 hx with e|hx
    · exact e
    · rcases List.mem_cons.1 hy with e|hy
      · exact e.symm
      · have l1:=(List.pairwise_cons.1 h1).1 y hy
        have l2:=(List.pairwise_cons.1 h2).1 x hx;have:=ltG_trans x y x l1 l2
        rw[ltG_irr]at this;cases this
   subst e;rw[gsorted_eq (List.perm_cons x|>.1 h) (List.pairwise_cons.1 h1).2 (List.pairwise_cons.1 h2).2]
theorem risG_pair: ∀(L:List Gr),risG L=true↔L.Pairwise (fun x y=>ltG x y=true)
 |[]=>by simp[risG]
 |[_]=>by simp[risG]
 |a::b::r=>by
  rw[risG,Bool.and_eq_true,risG_pair (b::r),ltG_c];constructor
  · rintro ⟨h1,h2⟩
    refine List.pairwise_cons.2 ⟨fun x hx=>?_,h2⟩
    rcases List.mem_cons.1 hx with rfl|hx
    · exact h1
    · exact ltG_trans _ _ _ h1 ((List.pairwise_cons.1 h2).1 x hx)
  · intro h
    exact⟨(List.pairwise_cons.1 h).1 b (by simp),(List.pairwise_cons.1 h).2⟩
/-- Two grants are of one and the same in one folder just where neither comes ahead of the other. -/
theorem oth_iff (x e:Gr):othG x e=true↔ltG e x=true∨ltG x e=true:=by
 have h1:decide (cG e x<0)=ltG e x:=ltG_c e x;have h2:decide (cG x e<0)=ltG x e:=ltG_c x e
 have key:cG e x=0↔cG x e=0:=by
  have c0: ∀a b:ByteArray,cS a b=0↔cS b a=0:=by
   intro a b;rcases tri a b with⟨t1,t2,t3,t4⟩|⟨t1,t2,t3,t4⟩|⟨t1,t2,t3,t4⟩
   · simp[cS,t1,t2,t4]
   · simp[cS,t1,t2,t3,t4]
   · simp[cS,t1,t2,t3]
  rw[cG,cG];by_cases hf:cS e.fo x.fo=0
  · have hf':=(c0 _ _).1 hf
    rw[if_pos hf,if_pos hf'];exact c0 _ _
  · have hf': ¬cS x.fo e.fo=0:=fun h=>hf ((c0 _ _).1 h)
    rw[if_neg hf,if_neg hf'];exact c0 _ _
 have pos: ∀a b:Gr,0<cG a b→cG b a<0:=by
  intro a b h
  have p0: ∀u v:ByteArray,0<cS u v→cS v u<0:=by
   intro u v hh;rcases tri u v with⟨t1,t2,t3,t4⟩|⟨t1,t2,t3,t4⟩|⟨t1,t2,t3,t4⟩
   · simp[cS,t1]at hh
   · simp[cS,t1,t3]at hh
   · simp[cS,t2]
  have z0: ∀u v:ByteArray,cS u v=0→cS v u=0:=by
   intro u v hh;rcases tri u v with⟨t1,t2,t3,t4⟩|⟨t1,t2,t3,t4⟩|⟨t1,t2,t3,t4⟩
   · simp[cS,t1]at hh
   · simp[cS,t2,t4]
   · simp[cS,t1,t3]at hh
  rw[cG]at h⊢;by_cases hf:cS a.fo b.fo=0
  · rw[if_pos hf]at h
    rw[if_pos (z0 _ _ hf)];exact p0 _ _ h
  · rw[if_neg hf]at h
    have:=p0 _ _ h
    rw[if_neg (by omega)];exact this
 rw[othG,←h1,←h2,decide_eq_true_eq,decide_eq_true_eq];constructor
 · intro h
   have h0: ¬cG e x=0:=by simpa using h
   by_cases hl:cG e x<0
   · exact Or.inl hl
   · exact Or.inr (pos e x (by omega))
 · intro h
   have h0: ¬cG e x=0:=by
    rcases h with h|h
    · omega
    · intro e0;have:=key.1 e0;omega
   simpa using h0
def insG (x:Gr):List Gr→List Gr
 |[]=>[x]
 |y::r=>if ltG y x=true then y::insG x r else x::y::r
theorem insG_perm (x:Gr): ∀L:List Gr,(insG x L).Perm (x::L)
 |[]=>List.Perm.refl _
 |y::r=>by
  rw[insG];split
  · exact((insG_perm x r).cons y).trans (List.Perm.swap x y r)
  · exact List.Perm.refl _
theorem insG_sorted (x:Gr): ∀{L:List Gr},L.Pairwise (fun x y=>ltG x y=true)→(∀y∈L,othG x y=true)→(insG x L).Pairwise (fun x y=>ltG x y=true)
 |[],_,_=>by simp[insG]
 |y::r,h,hne=>by
  rw[insG];split
  · rename_i hy
    rw[List.pairwise_cons];refine⟨fun z hz=>?_,insG_sorted x (List.pairwise_cons.1 h).2 fun z hz=>hne z (List.mem_cons_of_mem _ hz)⟩
    rcases List.mem_cons.1 ((insG_perm x r).subset hz)with rfl|hz
    · exact hy
    · exact(List.pairwise_cons.1 h).1 z hz
  · rename_i hy
    have hxy:ltG x y=true:=by
     rcases(oth_iff x y).1 (hne y (List.mem_cons_self ..))with h1|h1
     · exact absurd h1 hy
     · exact h1
    rw[List.pairwise_cons];refine⟨fun z hz=>?_,h⟩
    rcases List.mem_cons.1 hz with rfl|hz
    · exact hxy
    · exact ltG_trans _ _ _ hxy ((List.pairwise_cons.1 h).1 z hz)
/-- What put makes of grants that rise: the grant in its place. -/
theorem put_ins {G M:List Gr} {x:Gr} (hG:G.Pairwise (fun x y=>ltG x y=true)) (hp:M.Perm (outG x G++[x])) (hM:M.Pairwise (fun a b=>ltG b a=false)):M=insG x (outG x G):=by
 have hF:(outG x G).Pairwise (fun x y=>ltG x y=true):=List.Pairwise.filter _ hG;have ho: ∀y∈outG x G,othG x y=true:=fun y hy=>(List.mem_filter.1 hy).2
 have hdist:(outG x G++[x]).Pairwise (fun a b=>ltG a b=true∨ltG b a=true):=by
  rw[List.pairwise_append];refine⟨hF.imp fun h=>Or.inl h,by simp,fun a ha b hb=>?_⟩
  have:b=x:=by simpa using hb
  subst this;exact(oth_iff b a).1 (ho a ha)
 have hnd:M.Pairwise (fun a b=>ltG a b=true∨ltG b a=true):=hp.symm.pairwise hdist (fun h=>h.symm);refine gsorted_eq (hp.trans ?_) ((hM.and hnd).imp fun {a b} h=>?_) (insG_sorted x hF ho)
 · exact(List.perm_append_comm).trans (insG_perm x _).symm
 · rcases h.2 with h1|h1
   · exact h1
   · rw[h.1]at h1;cases h1
end Go.Proofs.YtppdfeehhnofaaaGreatDoor.Pp
namespace Go.Proofs.YtppdfeehhnofaaaGreatDoor
open Go.RowKit

namespace Pp
/-- What put makes of grants: the grant in its place; of right 0 there is none then. -/
def pgN (x:Gr) (G:List Gr):List Gr:=if x.ri=0 then outG x G else insG x (outG x G)
theorem pgN_no {x:Gr} {G:List Gr} (h:x.ri=0):pgN x G=outG x G:=if_pos h
theorem pgN_yes {x:Gr} {G:List Gr} (h: ¬x.ri=0):pgN x G=insG x (outG x G):=if_neg h
theorem pgN_len (x:Gr) (G:List Gr):(pgN x G).length≤G.length+1:=by
 have h1:(outG x G).length≤G.length:=List.length_filter_le _ _;rw[pgN];split
 · omega
 · rw[(insG_perm x _).length_eq];simp;omega
theorem gch0 {G:List Gr} (h:gchE G=0):G.length≤60∧grsE G=0∧risG G=true∧ownsE G=0:=by
 by_cases h60:60<G.length
 · rw[gch_many h60]at h;cases h
 · by_cases h1:grsE G=0
   · cases h2:risG G with
     |false=>rw[gch_ris h60 h1 h2]at h;cases h
     |true=>rw[gch_own h60 h1 h2]at h;exact⟨by omega,h1,rfl,h⟩
   · rw[gch_grs h60 h1]at h;exact absurd h h1
theorem cS_ne {a b:ByteArray} (h2:(a.toList==b.toList)=false): ¬cS a b=0:=by rw[cS,h2];split<;>simp
theorem oth_fo {x y:Gr} (h:(y.fo.toList==x.fo.toList)=false):othG x y=true:=by
 have h1:=cS_ne h;rw[othG,cG,if_neg h1];simpa using h1
end Pp

set_option maxRecDepth 100000 in
set_option maxHeartbeats 2000000 in
theorem put_none (G:List Gr) (v:Value) (x:Gr) (w:World) (hv:LiesG w v G) (hn:G.length≤1000) (hx:x.ri=0):
    Calls Tryz.prog 163 #[v,.agg #[.string x.fo,.string x.wh,.int .i64 x.ri]] w fun e w'=> ∃u,e= .returned u∧(LiesG w' u (Pp.outG x G)∧Fr w.heap.size u)∧Below w.heap.size w w':=by
 have HV:=ghid hv
 have hT:TellsG (w.alloc (.cells #[.string x.fo,.string x.wh,.int .i64 x.ri] 137)) 200 #[.pointer (some ⟨w.heap.size,0,none⟩)] (Pp.othG x):=by
  refine⟨enters_of Tryz.func200 (by kernel_rfl) rfl,fun W hW e=>?_⟩
  exact put1_any e x w.heap.size W (Nat.lt_of_lt_of_le (by simp) hW.size) ((hW.cell (p:=⟨w.heap.size,0,none⟩) (by simp)).trans (by simp)) ((hW.cell (p:=⟨w.heap.size,1,none⟩) (by simp)).trans (by simp)) ((hW.cell (p:=⟨w.heap.size,2,none⟩) (by simp)).trans (by simp))
 have HT:=ghid hT;have hFl:(Pp.outG x G).length≤G.length:=List.length_filter_le _ _;have hz:(x.ri==0)=true:=by simpa using hx
 have HF:Hid (G.filter (Pp.othG x)=Pp.outG x G):=rfl;clear hT hv hx;generalize Pp.outG x G=F at*;go_enter Tryz.func163,Tryz.ntmps163
 go_wp2_with fail;refine(gevery_any G _ _ _ (Pp.othG x) _ (HV.out.below ((Below.refl _ _).alloc (Nat.le_refl _) _)) HT.out (by omega)).mono ?_
 rintro e w1 ⟨u1,rfl,ho1,hn1,hb1⟩;rw[HF.out]at ho1;obtain⟨c0,c1,c2,hbw,hlt⟩:=bxG3 hb1
 have HLI:=ghid (liesG_own ho1 (by omega));have HFR:=hid (show Fr w.heap.size u1 from fun q hq=>by have:=(ho1.lt q hq).1;simp at this;omega);clear ho1 hb1 hn1;go_wp2;go_ret;exact⟨_,rfl,⟨HLI.out,HFR.out⟩,hbw⟩
theorem gput_any (G:List Gr) (v:Value) (x:Gr) (w:World) (hv:LiesG w v G) (hn:G.length≤1000) (hG:G.Pairwise (fun x y=>Pp.ltG x y=true)):
    Calls Tryz.prog 163 #[v,.agg #[.string x.fo,.string x.wh,.int .i64 x.ri]] w fun e w'=> ∃u,e= .returned u∧(LiesG w' u (Pp.pgN x G)∧Fr w.heap.size u)∧Below w.heap.size w w':=by
 by_cases hx:x.ri=0
 · rw[Pp.pgN_no hx]
   exact put_none G v x w hv hn hx
 · rw[Pp.pgN_yes hx]
   refine(put_yes G v x w hv hn hx).mono ?_
   rintro e w1 ⟨u,M,rfl,hp,hs,⟨hli,hfr⟩,hb⟩;rw[Pp.put_ins hG hp hs]at hli;exact⟨u,rfl,⟨hli,hfr⟩,hb⟩
set_option maxHeartbeats 1000000 in
theorem bounded_no (G:List Gr) (v:Value) (w:World) (hv:LiesG w v G) (hn:60<G.length):
    Calls Tryz.prog 162 #[v] w fun e w'=>e= .returned (.tuple #[.slice none 0 0,.int .i64 2])∧w'=w:=by
 obtain⟨a,cap,rfl,hcap,hcap2,hLL⟩:=hv
 have h60:60<(G.length:Int):=by omega
 clear hLL;go_enter Tryz.func162,Tryz.ntmps162
 go_wp2;go_ret2;exact⟨rfl,rfl⟩
end Go.Proofs.YtppdfeehhnofaaaGreatDoor
namespace Go.Proofs.YtppdfeehhnofaaaGreatDoor
open Go.RowKit

namespace Pp
theorem uch_zero {G:List Se} {x l r:Int} (h:uchE G x l r=0):bndE G.length x l r=0∧sesE x G=0∧risS G=true∧roE G r=0:=by
 by_cases h1:bndE G.length x l r=0
 · by_cases h2:sesE x G=0
   · cases h3:risS G with
     |false=>rw[uch_ris h1 h2 h3]at h;cases h
     |true=>rw[uch_ro h1 h2 h3]at h;exact⟨h1,h2,rfl,h⟩
   · rw[uch_ses h1 h2]at h;exact absurd h h2
 · rw[uch_bnd h1]at h;exact absurd h h1
end Pp
end Go.Proofs.YtppdfeehhnofaaaGreatDoor
