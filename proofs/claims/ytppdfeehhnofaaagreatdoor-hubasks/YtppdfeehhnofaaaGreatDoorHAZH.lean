/- The program's reader: a list of Change records. -/
import Derived.Test.YtppdfeehhnofaaaGreatDoorHAZG
import Derived.Test.YtppdfeehhnofaaaGreatDoorHAH
import Derived.Defers
import Derived.Recover
import Derived.Laws.Pointers
set_option linter.unusedSimpArgs false
set_option linter.unusedVariables false
namespace Go.Proofs.YtppdfeehhnofaaaGreatDoor
open Go.RowKit

theorem Tryz.infoW5:(Tryz.prog.info? 54).map (fun i=>(i.zero,i.size,i.bytes))=some (some (.agg #[.int .i64 0,.string ⟨#[]⟩,.string ⟨#[]⟩,.string ⟨#[]⟩,.int .i64 0]),5,64):=by kernel_rfl
def VCh (x:Pp.Ch) (r:List Value) (_:World):Prop:=r=[.int .i64 x.k,.string x.p,.string x.q,.string x.t,.int .i64 x.b]
theorem rlc_enters: ∀args w,(callFunc 73 args).run Tryz.prog w= .ok (.enter 73 args) w:=enters_of Tryz.func73 (by kernel_rfl) rfl
/-- A list that is being read. -/
structure Rrlc (w:World) (b g:Nat) (x:Value) (xs:List (Pp.Ch)) (r:List UInt8) (W:World):Prop where
 row:RowV w.heap.size 54 5 VCh xs x W
 rd:Rd b r W
 box:RBox W b g
 v:VarsW W
 fr:w.grownBy W (some b)
 rl:r.length≤MaxL
theorem rlc_new (W:World) (x:Pp.Ch): ∀j u,([.int .i64 x.k,.string x.p,.string x.q,.string x.t,.int .i64 x.b]:List Value)[j]?=some u→(W.alloc (.cells #[.int .i64 x.k,.string x.p,.string x.q,.string x.t,.int .i64 x.b] 54)).cell? ((⟨W.heap.size,0,none⟩:Addr).add j)=some u:=by
 intro j u hu;have h:=Cs.new W ([.int .i64 x.k,.string x.p,.string x.q,.string x.t,.int .i64 x.b]) 54;have h2:=h.cell j hu;rw[Addr.add_lit,Nat.zero_add];exact h2
set_option maxHeartbeats 2000000 in
theorem rlc_any (b g:Nat) (l:List UInt8) (w:World) (h:Rd b l w) (hg:RBox w b g) (hs:l.length≤MaxL) (h6:5<b) (hv:VarsW w):
    Calls Tryz.prog 72 #[.pointer (some ⟨b,0,none⟩),.int .i64 20,.func (.func 73) #[] #[.pointer (some ⟨g,0,none⟩)]] w fun e w'=>RdPost b (Wr.lstP Wr.gN 20 (Wr.chP Wr.gN 1000) l) (RowV w.heap.size 54 5 VCh) e w'∧w.grownBy w' (some b):=by
 have eg:=rlc_enters;cases hc:Wr.cntP Wr.gN 20 l with
 |none=>
  have HK:=hid (rcnt_no h hs h6 hv hc);have HN:=hid (Wr.lst_none (p:=Wr.chP Wr.gN 1000) hc);clear h hv hc hg;go_enter Tryz.func72,Tryz.ntmps72
  go_wp2_with fail;refine HK.out.mono ?_
  rintro e w1 ⟨rfl,hb1⟩;exact bodyPost_panic rfl ⟨RdPost.no HN.out rfl,hb1⟩
 |some z=>
 obtain⟨n,r1⟩:=z
 obtain⟨_,n0,n1⟩:=Wr.cnt_some hc
 obtain⟨N,rfl⟩: ∃k:Nat,n=k:=⟨n.toNat,by omega⟩
 have HK:=hid (rcnt_ok h hs h6 hv hc);have HN:=hid (Wr.lst_some (p:=Wr.chP Wr.gN 1000) hc);rw[show((N:Int).toNat)=N from rfl]at HN;have hl1:=Wr.cnt_len hc;obtain⟨i0,hi0,hz0,hz1,hz2⟩:=info_parts Tryz.infoW5
 have hbl:=h.lt;have hgb:=heap_lt hg.1;have HS:=hid (Wr.shr_ch _ _:Wr.Shr (Wr.chP Wr.gN 1000));have HG:=hid hg;have HV0:=hid hv;clear h hv hc hg;go_enter Tryz.func72,Tryz.ntmps72
 go_wp2_with fail;refine HK.out.mono ?_
 rintro e w1 ⟨rfl,hr1,hb1⟩;have HR:=hid (show Rrlc w b g (.slice none 0 0) [] r1 w1 from⟨rowV_nil _ _ _ _ _,hr1,HG.out.nb hb1,HV0.out.nb h6 (by omega) hb1,hb1,by omega⟩);clear HK hr1 hb1 HG HV0;go_wp2_with fail;go_loopw [7,11] (fun x i wr=> ∃(k:Nat) (xs:List (Pp.Ch)) (r:List UInt8),k≤N∧i= .int .i64 k∧Hid (Rrlc w b g x xs r wr)∧Hid (Wr.lstP Wr.gN 20 (Wr.chP Wr.gN 1000) l=Wr.repA (Wr.chP Wr.gN 1000) (N-k) xs r)∧xs.length=k) (fun _ i _=>N-(intOf i).toNat)
 case atStart=>exact⟨0,[],r1,Nat.zero_le _,rfl,HR,HN,rfl⟩
 case round=>
  obtain⟨k,xs,r,hk,rfl,HL,HE,hxk⟩:=hrel
  by_cases hlt:k<N
  · have HO:=hid (rch1_any b g r wr HL.out.rd HL.out.box HL.out.rl h6 HL.out.v)
    obtain⟨m,hm⟩: ∃m,N-k=m+1:=⟨N-k-1,by omega⟩
    cases hp:(Wr.chP Wr.gN 1000) r with
    |none=>
     have HF:=hid (Wr.repA_no (n:=m) (xs:=xs) hp);rw[hm]at HE;rw[hp]at HO;clear hp HN HR hm;go_wp2_with fail;refine HO.out.mono ?_
     rintro e w2 ⟨he,hb2⟩;cases he
     exact(show bodyPost Tryz.prog Tryz.f72 (fun e w'=>RdPost b (Wr.lstP Wr.gN 20 (Wr.chP Wr.gN 1000) l) (RowV w.heap.size 54 5 VCh) e w'∧w.grownBy w' (some b)) (.panic _) _ w2 from bodyPost_panic rfl ⟨RdPost.no (HE.out.trans HF.out) rfl,nb_tr HL.out.fr hb2⟩)
    |some z=>
     obtain⟨x,r'⟩:=z
     have HF:=hid (Wr.repA_yes (n:=m) (xs:=xs) hp);rw[hm]at HE;have hl2:=HS.out _ _ _ hp;rw[hp]at HO;have hrl:=HL.out.rl;clear hp HN HR;obtain⟨Z,hZ1,hZ2,hZ3⟩:=HL.out.row
     have hZl:Z.length=k:=by rw[←hxk,←hZ1,List.length_map]
     go_wp2_with fail;refine HO.out.mono ?_
     rintro e w2 ⟨⟨v2,rfl,rfl,hr2⟩,hb2⟩;have hfr2:=nb_tr HL.out.fr hb2;have hO2:=ownsRow_nbX hZ2 hb2 hbl;have hsz2:=hfr2.size;have HB2:=hid (HL.out.box.nb hb2);have HV2:=hid (HL.out.v.nb h6 (by have:=HL.out.rd.lt;omega) hb2);have HR2:=hid hr2;have hgl:=HL.out.box;have hsr:=HL.out.fr.size;clear hr2 HO;go_wp2_with (at_builtin;refine wpList_append_own _ rfl _ _ 29 rfl w.heap.size 54 i0 (.agg #[.int .i64 0,.string ⟨#[]⟩,.string ⟨#[]⟩,.string ⟨#[]⟩,.int .i64 0]) 5 64 Tryz.underlying29 hi0 hz0 hz1 hz2 rfl (by decide) _ _ _ rfl (hO2.alloc _) ⟨w2.heap.size,0,none⟩ 1 1 ([.int .i64 x.k,.string x.p,.string x.q,.string x.t,.int .i64 x.b]) rfl rfl (rlc_new w2 x) (by simp[Value.oneCell']) (by unfold maxLen;omega) (by omega) (by simp;omega) ?_)
     intro v5 w5 ho5 hgr5 hnn5;have hB5:Below w.heap.size w2 w5:=((Below.refl _ w2).alloc hsz2 _).grown hgr5 (by simp;omega) (fun q hq=>(hO2.lt q hq).1);have HL5:=hid (show Rrlc w b g v5 (xs++[x]) r' w5 from⟨by rw[←hZ1];exact RowV.snoc (r:=[.int .i64 x.k,.string x.p,.string x.q,.string x.t,.int .i64 x.b]) (by rw[hZl];exact ho5) (fun z hz=>⟨(hZ3 z hz).1,(hZ3 z hz).2⟩) ⟨rfl,rfl,by simp[Value.oneCell']⟩,HR2.out.belowB hB5 hbl,HB2.out.belowB hB5 hgb,HV2.out.belowB (by omega) hB5,nb_then hfr2 hB5,by omega⟩);clear ho5 hgr5 hnn5 hO2 hZ1 hZ2 hZ3 hB5;go_wp2_with fail;go_roundw
     case rel=>exact⟨k+1,xs++[x],r',by omega,by simp,HL5,hid (by rw[HE.out,HF.out,show N-(k+1)=m from by omega]),by simp[hxk]⟩
     case measure=>simp[intOf];omega
  · obtain rfl:k=N:=by omega
    rw[Nat.sub_self,Wr.repA_zero]at HE;clear HN HR;go_wp2_with fail;go_ret;exact⟨RdPost.yes _ HE.out rfl HL.out.row HL.out.rd,HL.out.fr⟩
theorem RowV.low {B B':Nat} {T:TypeId} {n:Nat} {α:Type} {V:α→List Value→World→Prop} {xs:List α} {v:Value} {W:World} (h:RowV B T n V xs v W) (hB:B'≤B):RowV B' T n V xs v W:=by
 obtain⟨Z,h1,h2,h3⟩:=h
 exact⟨Z,h1,ownsRow_lowX h2 hB,h3⟩
theorem RdPost.map {α:Type} {b:Nat} {res:Option (α×List UInt8)} {V V':α→Value→World→Prop} {e:Ending} {w':World} (h:RdPost b res V e w') (hV: ∀x v,V x v w'→V' x v w'):RdPost b res V' e w':=by
 cases res with
 |none=>exact h
 |some z=>obtain⟨v,h1,h2,h3⟩:=h;exact⟨v,h1,hV _ _ h2,h3⟩
set_option maxHeartbeats 1000000 in
theorem rchs_any (b:Nat) (l:List UInt8) (w:World) (h:Rd b l w) (hs:l.length≤MaxL) (h6:5<b) (hv:VarsW w):
    Calls Tryz.prog 36 #[.pointer (some ⟨b,0,none⟩)] w fun e w'=>RdPost b (Wr.lstP Wr.gN 20 (Wr.chP Wr.gN 1000) l) (RowV w.heap.size 54 5 VCh) e w'∧w.grownBy w' (some b):=by
 have hmf: ∀(fn:Fn) (first cap:Array Value) (w:World),(Instr.makeFunc fn first cap).run Tryz.prog w= .ok (.func fn first cap) w:=fun _ _ _ _=>rfl
 have hlt:=h.lt;obtain⟨wz,hwz⟩: ∃wz,wz=w.alloc (.cells #[.pointer (some ⟨b,0,none⟩)] 80):=⟨_,rfl⟩
 have hbz:Below w.heap.size w wz:=by rw[hwz];exact below_alloc _ _
 have hgz:RBox wz b w.heap.size:=⟨by rw[hwz];exact heap_alloc_new w _,by omega⟩
 have hsz:=hbz.size;have HK:=hid (rlc_any b w.heap.size l wz (h.below hbz) hgz hs h6 (hv.belowB (by omega) hbz));have HF:=hid (nb_below b hbz);rw[hwz]at HK;have HWZ:=hid hwz;clear hwz hgz hv h;go_enter Tryz.func36,Tryz.ntmps36
 go_wp2_with fail;refine HK.out.mono ?_
 rintro e w2 ⟨hp,hf2⟩;rw[←HWZ.out]at hf2 hp;have hp2:=hp.map (V':=RowV w.heap.size 54 5 VCh) (fun x v hx=>hx.low hsz);cases hr:Wr.lstP Wr.gN 20 (Wr.chP Wr.gN 1000) l with
 |none=>
  rw[hr]at hp2;cases hp2
  exact bodyPost_panic rfl ⟨RdPost.no hr rfl,nb_tr HF.out hf2⟩
 |some z=>
  obtain⟨cs,r⟩:=z
  rw[hr]at hp2;obtain⟨v,rfl,hV,hrd⟩:=hp2
  have HV:=hid hV;have HR:=hid hrd;clear hV hrd hp;go_wp2_with fail;go_ret;exact⟨RdPost.yes v hr rfl HV.out HR.out,nb_tr HF.out hf2⟩
theorem rnum_any {b:Nat} {l:List UInt8} {w:World} (h:Rd b l w) (hs:l.length≤MaxL) (h6:5<b) (hv:VarsW w):
    Calls Tryz.prog 25 #[.pointer (some ⟨b,0,none⟩)] w fun e w'=>RdPost b (Wr.rdG Wr.gN l) (fun n v _=>v= .int .i64 n) e w'∧w.grownBy w' (some b):=by
 cases hr:Wr.rdG Wr.gN l with
 |none=>exact(rnum_no h hs h6 hv hr).mono fun e w' hh=>⟨hh.1,hh.2⟩
 |some z=>exact(rnum_ok h hs h6 hv hr).mono fun e w' hh=>⟨⟨_,hh.1,rfl,hh.2.1⟩,hh.2.2⟩
theorem rtxt_any {b:Nat} {l:List UInt8} {w:World} (h:Rd b l w) (hs:l.length≤MaxL) (h6:5<b) (hv:VarsW w):
    Calls Tryz.prog 35 #[.pointer (some ⟨b,0,none⟩)] w fun e w'=>RdPost b (Wr.txtP Wr.gN 1000 l) (fun x v _=>v= .string x) e w'∧w.grownBy w' (some b):=by
 cases hr:Wr.txtP Wr.gN 1000 l with
 |none=>exact(rtxt_no h hs h6 hv hr).mono fun e w' hh=>⟨hh.1,hh.2⟩
 |some z=>exact(rtxt_ok h hs h6 hv hr).mono fun e w' hh=>⟨⟨_,hh.1,rfl,hh.2.1⟩,hh.2.2⟩
/-- A reader at work on a record of its own. -/
structure R4 (w:World) (b C R:Nat) (l:List UInt8) (cs zs:List Value) (W:World):Prop where
 rd:Rd b l W
 v:VarsW W
 cC:Cs W C cs
 cR:Cs W R zs
 fr:w.grownBy W (some b)
 bl:b<w.heap.size
 Cl:w.heap.size≤C
 Rl:w.heap.size≤R
 ne:C≠R
 b6:5<b
theorem R4.call {w W W':World} {b C R:Nat} {l r:List UInt8} {cs zs:List Value} (h:R4 w b C R l cs zs W) (hn:W.grownBy W' (some b)) (hr:Rd b r W'):R4 w b C R r cs zs W':=
 ⟨hr,h.v.nb h.b6 (by have:=h.rd.lt;have:=h.b6;omega) hn,h.cC.nb hn (by have:=h.bl;have:=h.Cl;omega),h.cR.nb hn (by have:=h.bl;have:=h.Rl;omega),nb_tr h.fr hn,h.bl,h.Cl,h.Rl,h.ne,h.b6⟩
theorem R4.set {w W:World} {b C R:Nat} {l:List UInt8} {cs zs:List Value} (h:R4 w b C R l cs zs W) (i:Nat) (v:Value):R4 w b C R l (cs.set i v) zs (W.setCell ⟨C,i,none⟩ v):=by
 have hb:=h.bl;have hC:=h.Cl;have hn:=nb_set W C i v;exact⟨h.rd.nb hn (by omega),h.v.nb (by have:=h.b6;omega) (by have:=h.rd.lt;have:=h.b6;omega) hn,h.cC.set i v,h.cR.nb hn h.ne.symm,nb_new h.fr h.Cl v,h.bl,h.Cl,h.Rl,h.ne,h.b6⟩
theorem R4.drew {w W:World} {b C R:Nat} {l:List UInt8} {cs zs:List Value} (h:R4 w b C R l cs zs W):R4 w b C R l cs zs W.drew:=
 h.call (nb_below b (Below.refl _ _).drew) h.rd
theorem r4_new {w:World} {b:Nat} {l:List UInt8} (cs zs:List Value) (T U:TypeId) (h:Rd b l w) (h6:5<b) (hv:VarsW w):R4 w b (w.heap.size+1) w.heap.size l cs zs ((w.alloc (.cells zs.toArray T)).alloc (.cells cs.toArray U)):=by
 have hbl:=h.lt;obtain⟨wa,hwa⟩: ∃wa,wa=w.alloc (.cells zs.toArray T):=⟨_,rfl⟩
 rw[←hwa];have sa:wa.heap.size=w.heap.size+1:=by rw[hwa];simp
 have hba:Below w.heap.size w wa:=by rw[hwa];exact below_alloc _ _
 have hbb:=below_alloc wa (.cells cs.toArray U);have hab:=hba.trans (hbb.mono (by omega));refine⟨h.below hab,hv.belowB (by omega) hab,?_,?_,nb_below b hab,hbl,by omega,Nat.le_refl _,by omega,h6⟩
 · rw[←sa];exact Cs.new wa cs _
 · exact Cs.belowAt (show Cs wa w.heap.size zs by rw[hwa];exact Cs.new w zs _) hbb (by omega)
theorem RowV.shape {B:Nat} {T:TypeId} {n:Nat} {α:Type} {V:α→List Value→World→Prop} {xs:List α} {v:Value} {W:World} (h:RowV B T n V xs v W): ∃a l c,v= .slice a l c:=by
 obtain⟨Z,_,⟨_,h2⟩,_⟩:=h
 rcases h2 with⟨rfl,_⟩|⟨g,cap,cur,rfl,_⟩
 · exact⟨_,_,_,rfl⟩
 · exact⟨_,_,_,rfl⟩
theorem RowV.nb {B:Nat} {T:TypeId} {n:Nat} {α:Type} {V:α→List Value→World→Prop} {xs:List α} {v:Value} {W W':World} {g:Nat} (h:RowV B T n V xs v W) (hw:W.grownBy W' (some g)) (hg:g<B) (hV: ∀x r,V x r W→V x r W'):RowV B T n V xs v W':=by
 obtain⟨Z,h1,h2,h3⟩:=h
 exact⟨Z,h1,ownsRow_nbX h2 hw hg,fun z hz=>⟨hV _ _ (h3 z hz).1,(h3 z hz).2⟩⟩
theorem RowV.setC {B:Nat} {T:TypeId} {n:Nat} {xs:List Pp.Ch} {v:Value} {W:World} (h:RowV B T n VCh xs v W) {g:Nat} (hg:g<B) (i:Nat) (u:Value):RowV B T n VCh xs v (W.setCell ⟨g,i,none⟩ u):=h.nb (nb_set W g i u) hg (fun _ _ h=>h)
namespace Wr
def rqP (g:Int→Bool) (m:Int):Ps Rq:=bindP (rdG g) fun k=>bindP (txtP g m) fun a=>bindP (txtP g m) fun b=>bindP (txtP g m) fun c=>bindP (txtP g m) fun d=>bindP (txtP g m) fun e=>bindP (rdG g) fun x=>bindP (rdG g) fun y=>bindP (rdG g) fun z=>bindP (lstP g 20 (chP g m)) fun cs=>pureP ⟨k,a,b,c,d,e,x,y,z,cs⟩
end Wr
abbrev zrq:List Value:=[.int .i64 0,.string ⟨#[]⟩,.string ⟨#[]⟩,.string ⟨#[]⟩,.string ⟨#[]⟩,.string ⟨#[]⟩,.int .i64 0,.int .i64 0,.int .i64 0,.slice none 0 0]
/-- A request that was read. -/
def RqV (B:Nat) (q:Rq) (v:Value) (W:World):Prop:= ∃vc,v= .agg #[.int .i64 q.kind,.string q.who,.string q.fo,.string q.name,.string q.key,.string q.text,.int .i64 q.num,.int .i64 q.off,.int .i64 q.base,vc]∧RowV B 54 5 VCh q.ch vc W
set_option maxHeartbeats 4000000 in
theorem rrq_any (b:Nat) (l:List UInt8) (w:World) (h:Rd b l w) (hs:l.length≤MaxL) (h6:5<b) (hv:VarsW w):
    Calls Tryz.prog 34 #[.pointer (some ⟨b,0,none⟩)] w fun e w'=>RdPost b (Wr.rqP Wr.gN 1000 l) (RqV w.heap.size) e w'∧w.grownBy w' (some b):=by
 have HE0:=hid (show Wr.rqP Wr.gN 1000 l=Wr.rqP Wr.gN 1000 l from rfl);conv at HE0=>arg 1;rhs;unfold Wr.rqP
 generalize hP:Wr.rqP Wr.gN 1000 l=res at*;clear hP;have H0:=hid (r4_new zrq zrq 31 31 h h6 hv);have hbl:=h.lt;have PN:=hid (show∀(a:Act) (W:World),a.defers=[]→w.grownBy W (some b)→res=none→bodyPost Tryz.prog Tryz.f34 (fun e w'=>RdPost b res (RqV w.heap.size) e w'∧w.grownBy w' (some b)) (.panic [{v:= .iface 33 (.int .i64 1),recovered:=false}]) a W from fun a W hd hw hr=>bodyPost_panic hd ⟨RdPost.no hr rfl,hw⟩);clear hv h;go_enter Tryz.func34,Tryz.ntmps34
 go_wp2_with fail;refine(rnum_any H0.out.rd (by omega) h6 H0.out.v).mono ?_
 rintro e w1 ⟨hp,hn1⟩;cases hq:Wr.rdG Wr.gN l with
 |none=>
  rw[hq]at hp;cases hp
  exact PN.out _ _ rfl (nb_tr H0.out.fr hn1) (HE0.out.trans (Wr.bind_none hq))
 |some z=>
 obtain⟨k,r1⟩:=z
 rw[hq]at hp;obtain⟨_,rfl,rfl,hr1⟩:=hp
 have HE1:=hid (HE0.out.trans (Wr.bind_some hq));have s1:=Wr.rd_len hq;have H1:=hid (H0.out.call hn1 hr1);clear hq HE0;have c0:=H1.out.cC.cell 0 rfl;have f0:=H1.out.cC.fr 0;go_wp2_with fail;clear c0 f0;refine(rtxt_any (H1.out.set 0 (.int .i64 k)).rd (by omega) h6 (H1.out.set 0 (.int .i64 k)).v).mono ?_
 rintro e w2 ⟨hp,hn2⟩;cases hq:Wr.txtP Wr.gN 1000 r1 with
 |none=>
  rw[hq]at hp;cases hp
  exact PN.out _ _ rfl (nb_tr (H1.out.set 0 (.int .i64 k)).fr hn2) (HE1.out.trans (Wr.bind_none hq))
 |some z=>
 obtain⟨ta,r2⟩:=z
 rw[hq]at hp;obtain⟨_,rfl,rfl,hr2⟩:=hp
 have HE2:=hid (HE1.out.trans (Wr.bind_some hq));have s2:=Wr.txt_rest hq;have H2:=hid ((H1.out.set 0 (.int .i64 k)).call hn2 hr2);clear hq HE1;go_wp2_with fail;refine(rtxt_any H2.out.rd (by omega) h6 H2.out.v).mono ?_
 rintro e w3 ⟨hp,hn3⟩;cases hq:Wr.txtP Wr.gN 1000 r2 with
 |none=>
  rw[hq]at hp;cases hp
  exact PN.out _ _ rfl (nb_tr H2.out.fr hn3) (HE2.out.trans (Wr.bind_none hq))
 |some z=>
 obtain⟨tb,r3⟩:=z
 rw[hq]at hp;obtain⟨_,rfl,rfl,hr3⟩:=hp
 have HE3:=hid (HE2.out.trans (Wr.bind_some hq));have s3:=Wr.txt_rest hq;have H3:=hid (H2.out.call hn3 hr3);clear hq HE2;go_wp2_with fail;refine(rtxt_any H3.out.rd (by omega) h6 H3.out.v).mono ?_
 rintro e w4 ⟨hp,hn4⟩;cases hq:Wr.txtP Wr.gN 1000 r3 with
 |none=>
  rw[hq]at hp;cases hp
  exact PN.out _ _ rfl (nb_tr H3.out.fr hn4) (HE3.out.trans (Wr.bind_none hq))
 |some z=>
 obtain⟨tc,r4⟩:=z
 rw[hq]at hp;obtain⟨_,rfl,rfl,hr4⟩:=hp
 have HE4:=hid (HE3.out.trans (Wr.bind_some hq));have s4:=Wr.txt_rest hq;have H4:=hid (H3.out.call hn4 hr4);clear hq HE3;go_wp2_with fail;refine(rtxt_any H4.out.rd (by omega) h6 H4.out.v).mono ?_
 rintro e w5 ⟨hp,hn5⟩;cases hq:Wr.txtP Wr.gN 1000 r4 with
 |none=>
  rw[hq]at hp;cases hp
  exact PN.out _ _ rfl (nb_tr H4.out.fr hn5) (HE4.out.trans (Wr.bind_none hq))
 |some z=>
 obtain⟨td,r5⟩:=z
 rw[hq]at hp;obtain⟨_,rfl,rfl,hr5⟩:=hp
 have HE5:=hid (HE4.out.trans (Wr.bind_some hq));have s5:=Wr.txt_rest hq;have H5:=hid (H4.out.call hn5 hr5);clear hq HE4;go_wp2_with fail;refine(rtxt_any H5.out.rd (by omega) h6 H5.out.v).mono ?_
 rintro e w6 ⟨hp,hn6⟩;cases hq:Wr.txtP Wr.gN 1000 r5 with
 |none=>
  rw[hq]at hp;cases hp
  exact PN.out _ _ rfl (nb_tr H5.out.fr hn6) (HE5.out.trans (Wr.bind_none hq))
 |some z=>
 obtain⟨te,r6⟩:=z
 rw[hq]at hp;obtain⟨_,rfl,rfl,hr6⟩:=hp
 have HE6:=hid (HE5.out.trans (Wr.bind_some hq));have s6:=Wr.txt_rest hq;have H6:=hid (H5.out.call hn6 hr6);clear hq HE5;have c1:=H6.out.cC.cell 1 rfl;have f1:=H6.out.cC.fr 1;have c2:=H6.out.cC.cell 2 rfl;have f2:=H6.out.cC.fr 2;have c3:=H6.out.cC.cell 3 rfl;have f3:=H6.out.cC.fr 3;have c4:=H6.out.cC.cell 4 rfl;have f4:=H6.out.cC.fr 4;have c5:=H6.out.cC.cell 5 rfl;have f5:=H6.out.cC.fr 5;go_wp2_with fail;clear c1 f1 c2 f2 c3 f3 c4 f4 c5 f5;refine(rnum_any (((((H6.out.set 1 (.string ta)).set 2 (.string tb)).set 3 (.string tc)).set 4 (.string td)).set 5 (.string te)).rd (by omega) h6 (((((H6.out.set 1 (.string ta)).set 2 (.string tb)).set 3 (.string tc)).set 4 (.string td)).set 5 (.string te)).v).mono ?_
 rintro e w7 ⟨hp,hn7⟩;cases hq:Wr.rdG Wr.gN r6 with
 |none=>
  rw[hq]at hp;cases hp
  exact PN.out _ _ rfl (nb_tr (((((H6.out.set 1 (.string ta)).set 2 (.string tb)).set 3 (.string tc)).set 4 (.string td)).set 5 (.string te)).fr hn7) (HE6.out.trans (Wr.bind_none hq))
 |some z=>
 obtain⟨x,r7⟩:=z
 rw[hq]at hp;obtain⟨_,rfl,rfl,hr7⟩:=hp
 have HE7:=hid (HE6.out.trans (Wr.bind_some hq));have s7:=Wr.rd_len hq;have H7:=hid ((((((H6.out.set 1 (.string ta)).set 2 (.string tb)).set 3 (.string tc)).set 4 (.string td)).set 5 (.string te)).call hn7 hr7);clear hq HE6;go_wp2_with fail;refine(rnum_any H7.out.rd (by omega) h6 H7.out.v).mono ?_
 rintro e w8 ⟨hp,hn8⟩;cases hq:Wr.rdG Wr.gN r7 with
 |none=>
  rw[hq]at hp;cases hp
  exact PN.out _ _ rfl (nb_tr H7.out.fr hn8) (HE7.out.trans (Wr.bind_none hq))
 |some z=>
 obtain⟨y,r8⟩:=z
 rw[hq]at hp;obtain⟨_,rfl,rfl,hr8⟩:=hp
 have HE8:=hid (HE7.out.trans (Wr.bind_some hq));have s8:=Wr.rd_len hq;have H8:=hid (H7.out.call hn8 hr8);clear hq HE7;go_wp2_with fail;refine(rnum_any H8.out.rd (by omega) h6 H8.out.v).mono ?_
 rintro e w9 ⟨hp,hn9⟩;cases hq:Wr.rdG Wr.gN r8 with
 |none=>
  rw[hq]at hp;cases hp
  exact PN.out _ _ rfl (nb_tr H8.out.fr hn9) (HE8.out.trans (Wr.bind_none hq))
 |some z=>
 obtain⟨z',r9⟩:=z
 rw[hq]at hp;obtain⟨_,rfl,rfl,hr9⟩:=hp
 have HE9:=hid (HE8.out.trans (Wr.bind_some hq));have s9:=Wr.rd_len hq;have H9:=hid (H8.out.call hn9 hr9);clear hq HE8;have c6:=H9.out.cC.cell 6 rfl;have f6:=H9.out.cC.fr 6;have c7:=H9.out.cC.cell 7 rfl;have f7:=H9.out.cC.fr 7;have c8:=H9.out.cC.cell 8 rfl;have f8:=H9.out.cC.fr 8;go_wp2_with fail;clear c6 f6 c7 f7 c8 f8;refine(rchs_any b r9 _ (((H9.out.set 6 (.int .i64 x)).set 7 (.int .i64 y)).set 8 (.int .i64 z')).rd (by omega) h6 (((H9.out.set 6 (.int .i64 x)).set 7 (.int .i64 y)).set 8 (.int .i64 z')).v).mono ?_
 rintro e w10 ⟨hp,hn10⟩;cases hq:Wr.lstP Wr.gN 20 (Wr.chP Wr.gN 1000) r9 with
 |none=>
  rw[hq]at hp;cases hp
  exact PN.out _ _ rfl (nb_tr (((H9.out.set 6 (.int .i64 x)).set 7 (.int .i64 y)).set 8 (.int .i64 z')).fr hn10) (HE9.out.trans (Wr.bind_none hq))
 |some z=>
 obtain⟨cs,r10⟩:=z
 rw[hq]at hp;obtain⟨vc,rfl,hrow,hr10⟩:=hp
 have HE10:=hid (HE9.out.trans (Wr.bind_some hq));have s10:=Wr.shr_lst _ _ (Wr.shr_ch _ _) _ _ _ hq;have H10:=hid ((((H9.out.set 6 (.int .i64 x)).set 7 (.int .i64 y)).set 8 (.int .i64 z')).call hn10 hr10);clear hq HE9;have hbc:=hrow;obtain⟨av,lv,cv,rfl⟩:=hbc.shape
 have HRW:=hid hrow;have hs9:=(((H9.out.set 6 (.int .i64 x)).set 7 (.int .i64 y)).set 8 (.int .i64 z')).fr.size;have hCR:=H10.out.ne;have hC9:=((((H9.out.set 6 (.int .i64 x)).set 7 (.int .i64 y)).set 8 (.int .i64 z')).cC).lt;have hR9:=((((H9.out.set 6 (.int .i64 x)).set 7 (.int .i64 y)).set 8 (.int .i64 z')).cR).lt;clear hrow hbc;have y0:=H10.out.cC.cell 0 rfl;have y1:=H10.out.cC.cell 1 rfl;have y2:=H10.out.cC.cell 2 rfl;have y3:=H10.out.cC.cell 3 rfl;have y4:=H10.out.cC.cell 4 rfl;have y5:=H10.out.cC.cell 5 rfl;have y6:=H10.out.cC.cell 6 rfl;have y7:=H10.out.cC.cell 7 rfl;have y8:=H10.out.cC.cell 8 rfl;have y9:=H10.out.cC.cell 9 rfl;have z9:=H10.out.cC.fr 9;have v0:=H10.out.cR.cell 0 rfl;have x0:=H10.out.cR.fr 0;have v1:=H10.out.cR.cell 1 rfl;have x1:=H10.out.cR.fr 1;have v2:=H10.out.cR.cell 2 rfl;have x2:=H10.out.cR.fr 2;have v3:=H10.out.cR.cell 3 rfl;have x3:=H10.out.cR.fr 3;have v4:=H10.out.cR.cell 4 rfl;have x4:=H10.out.cR.fr 4;have v5:=H10.out.cR.cell 5 rfl;have x5:=H10.out.cR.fr 5;have v6:=H10.out.cR.cell 6 rfl;have x6:=H10.out.cR.fr 6;have v7:=H10.out.cR.cell 7 rfl;have x7:=H10.out.cR.fr 7;have v8:=H10.out.cR.cell 8 rfl;have x8:=H10.out.cR.fr 8;have v9:=H10.out.cR.cell 9 rfl;have x9:=H10.out.cR.fr 9;have n3: ¬w.heap.size=w.heap.size+1:=by omega
 have n4: ¬w.heap.size+1=w.heap.size:=by omega
 go_wp2_with fail;have nR:b≠w.heap.size:=by omega
 have nC:b≠w.heap.size+1:=by omega
 have l1:w.heap.size≤w.heap.size+1:=by omega
 have l0:=Nat.le_refl w.heap.size;refine bodyPost_ret (v:= .agg #[.int .i64 k,.string ta,.string tb,.string tc,.string td,.string te,.int .i64 x,.int .i64 y,.int .i64 z',.slice av lv cv]) (by simp[results,Tryz.results34,go_sem,n3,n4,v0,v1,v2,v3,v4,v5,v6,v7,v8,v9]) rfl ⟨RdPost.yes (x:=⟨k,ta,tb,tc,td,te,x,y,z',cs⟩) _ HE10.out rfl ⟨_,rfl,?_⟩ ?_,?_⟩
 · exact(HRW.out.setC hC9 _ _|>.setC hR9 _ _|>.setC hR9 _ _|>.setC hR9 _ _|>.setC hR9 _ _|>.setC hR9 _ _|>.setC hR9 _ _|>.setC hR9 _ _|>.setC hR9 _ _|>.setC hR9 _ _|>.setC hR9 _ _).low hs9
 · exact(H10.out.rd.set' nC _|>.set' nR _|>.set' nR _|>.set' nR _|>.set' nR _|>.set' nR _|>.set' nR _|>.set' nR _|>.set' nR _|>.set' nR _|>.set' nR _)
 · exact nb_new (nb_new (nb_new (nb_new (nb_new (nb_new (nb_new (nb_new (nb_new (nb_new (nb_new H10.out.fr l1 _) l0 _) l0 _) l0 _) l0 _) l0 _) l0 _) l0 _) l0 _) l0 _) l0 _
end Go.Proofs.YtppdfeehhnofaaaGreatDoor
namespace Go.Proofs.YtppdfeehhnofaaaGreatDoor
open Go.RowKit

namespace Wr
/-- All of it was read. -/
def whole {α:Type}:Option (α×List UInt8)→Option α
 |some (x,[])=>some x
 |_=>none
end Wr
/-- What a reading of a whole text answers. -/
def WhPost {α:Type} (res:Option α) (z:Value) (V:α→Value→World→Prop) (e:Ending) (w':World):Prop:=match res with
 |none=>e= .returned (.tuple #[z,.int .i64 1])
 |some x=> ∃v,e= .returned (.tuple #[v,.int .i64 0])∧V x v w'
theorem RqV.set {B:Nat} {q:Rq} {v:Value} {W:World} (h:RqV B q v W) {g:Nat} (hg:g<B) (i:Nat) (u:Value):RqV B q v (W.setCell ⟨g,i,none⟩ u):=by
 obtain⟨vc,h1,h2⟩:=h
 exact⟨vc,h1,h2.setC hg i u⟩
theorem RqV.low {B B':Nat} {q:Rq} {v:Value} {W:World} (h:RqV B q v W) (hB:B'≤B):RqV B' q v W:=by
 obtain⟨vc,h1,h2⟩:=h
 exact⟨vc,h1,h2.low hB⟩
theorem RowV.belowC {B:Nat} {T:TypeId} {n:Nat} {xs:List Pp.Ch} {v:Value} {W W':World} (h:RowV B T n VCh xs v W) (hw:Below W.heap.size W W'):RowV B T n VCh xs v W':=by
 obtain⟨Z,h1,h2,h3⟩:=h
 refine⟨Z,h1,h2.kept (row:=none) ⟨hw.os,hw.tape,hw.output,hw.size,fun k hk _=>hw.block k hk⟩ (by cases hv:v.ownBlock with
  |none=>exact Or.inl rfl
  |some q=>exact Or.inr (by simp)),h3⟩
theorem RqV.below {B:Nat} {q:Rq} {v:Value} {W W':World} (h:RqV B q v W) (hw:Below W.heap.size W W'):RqV B q v W':=by
 obtain⟨vc,h1,h2⟩:=h
 exact⟨vc,h1,h2.belowC hw⟩
theorem nb_low {W W':World} {b B:Nat} (h:W.grownBy W' (some b)) (hb:B≤b) (hB:B≤W.heap.size):Below B W W':=⟨h.os,h.tape,h.output,h.size,fun k hk=>h.block k (by omega) (fun e=>by injection e;omega)⟩
theorem Tryz.errnoYes (t:TypeId) (W:World):(Instr.typeAssert (.iface 33 (.int .i64 1)) t 33 true).run Tryz.prog W= .ok (.tuple #[.int .i64 1,.bool true]) W:=by kernel_rfl
theorem Tryz.errnoNo (t:TypeId) (W:World):(Instr.typeAssert .nilIface t 33 true).run Tryz.prog W= .ok (.tuple #[.int .i64 0,.bool false]) W:=by kernel_rfl
set_option maxRecDepth 4000 in
theorem catch_gave (p:Addr) (w:World) (hc:w.cell? p=some (.int .i64 0)) (hz:w.frozen? p=false):
    CallsD Tryz.prog 70 #[.pointer (some p)] (.panicking [{v:= .iface 33 (.int .i64 1),recovered:=false}]) w fun e u' w'=>
     e= .returned (.tuple #[])∧u'= .panicking [{v:= .iface 33 (.int .i64 1),recovered:=true}]∧w'=w.setCell p (.int .i64 1):=by
 refine callsD_of_wpS Tryz.func70 rfl fun c₀ cs hu=>?_
 have h1:=Tryz.errnoYes;apply wpS_seq
 apply wpS_region
 simp[wpOpsS,go_sem,recoverD,hu,h1,Tryz.ntmps70,Exit.thenS,Array.replicate]
 apply wpS_seq
 apply wpS_region
 simp[wpOpsS,go_sem,Exit.thenS]
 refine wpS_cond (t:=true) (by simp[Act.eval,Array.replicate]) ?_
 simp only[if_true];apply wpS_region
 simp[wpOpsS,go_sem,hc,hz,bodyPostS,results,Tryz.results70]
set_option maxRecDepth 4000 in
theorem catch_none (p:Addr) (w:World):
    CallsD Tryz.prog 70 #[.pointer (some p)] .returning w fun e u' w'=>e= .returned (.tuple #[])∧u'= .returning∧w'=w:=by
 refine callsD_of_wpS Tryz.func70 rfl fun c₀ cs hu=>?_
 have h1:=Tryz.errnoNo;apply wpS_seq
 apply wpS_region
 simp[wpOpsS,go_sem,recoverD,hu,h1,Tryz.ntmps70,Exit.thenS,Array.replicate]
 apply wpS_seq
 apply wpS_region
 simp[wpOpsS,go_sem,Exit.thenS]
 refine wpS_cond (t:=false) (by simp[Act.eval,Array.replicate]) ?_
 simp only[Bool.false_eq_true,if_false];refine wpS_of_wp (wp_skip ?_)
 cases c₀
 simp_all [bodyPostS,results,Tryz.results70]
theorem readq_gave (tm:Array Value) (c e:Nat) (R:Ending→World→Prop) (W:World) (h4:tm.getD 4 undef= .pointer (some ⟨c,0,none⟩)) (h5:tm.getD 5 undef= .pointer (some ⟨e,0,none⟩)) (hne:c≠e) (hcR:Cs W c zrq) (hE:Cs W e [.int .i64 0]) (hR:R (.returned (.tuple #[.agg zrq.toArray,.int .i64 1])) (W.setCell ⟨e,0,none⟩ (.int .i64 1))):
    Leaves Tryz.prog Tryz.f33 tm R [{target:=Target.fn (Fn.func 70) #[.pointer (some ⟨e,0,none⟩)],args:= #[]}] (.panicking [{v:= .iface 33 (.int .i64 1),recovered:=false}]) W:=by
 refine leaves_cons (f:=70) (args:= #[.pointer (some ⟨e,0,none⟩)]) (by simp) (by simp[go_sem]) ?_
 refine(catch_gave ⟨e,0,none⟩ _ (hE.cell 0 rfl) (hE.fr 0)).mono ?_
 rintro e1 u' w'' ⟨rfl,rfl,rfl⟩;have hcR2:=hcR.other (o:=0) hne (.int .i64 1);have hE2:=(hE.set 0 (.int .i64 1)).cell 0 rfl;have y0:=hcR2.cell 0 rfl;have y1:=hcR2.cell 1 rfl;have y2:=hcR2.cell 2 rfl;have y3:=hcR2.cell 3 rfl;have y4:=hcR2.cell 4 rfl;have y5:=hcR2.cell 5 rfl;have y6:=hcR2.cell 6 rfl;have y7:=hcR2.cell 7 rfl;have y8:=hcR2.cell 8 rfl;have y9:=hcR2.cell 9 rfl;refine⟨_,?_,hR⟩
 have h4':tm[4]?.getD undef= .pointer (some ⟨c,0,none⟩):=by rw[←h4];simp
 have h5':tm[5]?.getD undef= .pointer (some ⟨e,0,none⟩):=by rw[←h5];simp
 simp[results,Tryz.results33,go_sem,h4',h5',hE2,y0,y1,y2,y3,y4,y5,y6,y7,y8,y9]
theorem readq_well (tm:Array Value) (e:Nat) (R:Ending→World→Prop) (W:World) (hR: ∃v,(results Tryz.f33 tm).run Tryz.prog W= .ok v W∧R (.returned v) W):
    Leaves Tryz.prog Tryz.f33 tm R [{target:=Target.fn (Fn.func 70) #[.pointer (some ⟨e,0,none⟩)],args:= #[]}] .returning W:=by
 refine leaves_cons (f:=70) (args:= #[.pointer (some ⟨e,0,none⟩)]) (by simp) (by simp[go_sem]) ?_
 refine(catch_none ⟨e,0,none⟩ _).mono ?_
 rintro e1 u' w'' ⟨rfl,rfl,rfl⟩;exact hR
theorem rrq_enters: ∀args w,(callFunc 34 args).run Tryz.prog w= .ok (.enter 34 args) w:=enters_of Tryz.func34 (by kernel_rfl) rfl
set_option maxHeartbeats 2000000 in
theorem readq_any (s:ByteArray) (w:World) (hs:s.size≤MaxL) (h6:5<w.heap.size) (hv:VarsW w):
    Calls Tryz.prog 33 #[.string s,.func (.func 34) #[] #[]] w fun e w'=>WhPost (Wr.whole (Wr.rqP Wr.gN 1000 s.data.toList)) (.agg zrq.toArray) (RqV w.heap.size) e w'∧Below w.heap.size w w':=by
 have hmf: ∀(fn:Fn) (first cap:Array Value) (w:World),(Instr.makeFunc fn first cap).run Tryz.prog w= .ok (.func fn first cap) w:=fun _ _ _ _=>rfl
 have eg:=rrq_enters;obtain⟨l,rfl⟩: ∃l:List UInt8,s=⟨l.toArray⟩:=⟨s.data.toList,by simp⟩
 have hsl:l.length≤MaxL:=by rw[Lib.size_eq]at hs;simpa using hs
 rw[show(⟨l.toArray⟩:ByteArray).data.toList=l from by simp];obtain⟨w0,hw0⟩: ∃w0,w0=w.alloc (.cells zrq.toArray 31):=⟨_,rfl⟩
 obtain⟨w5,hw5⟩: ∃w5,w5=w0.alloc (.cells #[.int .i64 0] 33):=⟨_,rfl⟩
 obtain⟨wa,hwa⟩: ∃wa,wa=w5.alloc (.cells #[.string ⟨l.toArray⟩] 123):=⟨_,rfl⟩
 have s0:w0.heap.size=w.heap.size+1:=by rw[hw0];simp
 have s5:w5.heap.size=w.heap.size+1+1:=by rw[hw5];simp[s0]
 have sa:wa.heap.size=w.heap.size+1+1+1:=by rw[hwa];simp[s5]
 have b0:Below w.heap.size w w0:=by rw[hw0];exact below_alloc _ _
 have b5:Below w0.heap.size w0 w5:=by rw[hw5];exact below_alloc _ _
 have ba:Below w5.heap.size w5 wa:=by rw[hwa];exact below_alloc _ _
 have hba:Below w.heap.size w wa:=(b0.trans (b5.mono (by omega))).trans (ba.mono (by omega))
 have cR0:Cs wa w.heap.size zrq:=by
  have h1:Cs w0 w.heap.size zrq:=by rw[hw0];exact Cs.new w zrq _
  exact(h1.below b5).below ba
 have cE0:Cs wa (w.heap.size+1) [.int .i64 0]:=by
  have h1:Cs w5 w0.heap.size [.int .i64 0]:=by rw[hw5];exact Cs.new w0 [.int .i64 0] _
  rw[s0]at h1;exact h1.below ba
 have rda:Rd (w.heap.size+1+1) l wa:=by rw[←s5,hwa];exact heap_alloc_new w5 _
 have HK:=hid (rrq_any (w.heap.size+1+1) l wa rda hsl (by omega) (hv.belowB (by omega) hba));rw[hwa,hw5,hw0]at HK;have HWA:=hid (show wa=((w.alloc (.cells zrq.toArray 31)).alloc (.cells #[.int .i64 0] 33)).alloc (.cells #[.string ⟨l.toArray⟩] 123)from by rw[hwa,hw5,hw0]);have HC:=hid (And.intro cR0 (And.intro cE0 hba));have HSA:=hid sa;clear hs hwa hw5 hw0 b0 b5 ba s0 s5 cR0 cE0 hba rda sa;go_enter_defers Tryz.func33,Tryz.ntmps33
 go_wp2_with fail;refine HK.out.mono ?_
 rintro e w1 ⟨hp,hn1⟩;rw[←HWA.out]at hp hn1;obtain⟨cR0,cE0,hba⟩:=HC.out
 have hcR:=cR0.nb hn1 (by omega);have hcE:=cE0.nb hn1 (by omega);have hb1:Below w.heap.size w w1:=hba.trans (nb_low hn1 (by omega) hba.size);have hs1:=hn1.size;rw[HSA.out]at hs1;cases hq:Wr.rqP Wr.gN 1000 l with
 |none=>
  rw[hq]at hp;cases hp
  exact readq_gave _ _ _ _ _ rfl rfl (by omega) hcR hcE ⟨by rw[hq];rfl,hb1.setCell (p:=⟨w.heap.size+1,0,none⟩) (by simp) _⟩
 |some z=>
 obtain⟨q,r⟩:=z
 rw[hq]at hp;obtain⟨v1,rfl,hV,hr1⟩:=hp
 have hbr:=hr1.cell;have HV:=hid hV;have HRD:=hid hr1;have HCS:=hid (And.intro hcR (And.intro hcE hb1));obtain⟨vc,rfl,hrow⟩:=HV.out
 obtain⟨av,lv,cv,rfl⟩:=hrow.shape
 clear hrow;have q2:w.heap.size+1+1<w1.heap.size:=by omega
 have q1:w.heap.size+1<w1.heap.size:=by omega
 have q0:w.heap.size<w1.heap.size:=by omega
 have m2: ¬w.heap.size+1+1=w1.heap.size:=by omega
 have m1: ¬w.heap.size+1=w1.heap.size:=by omega
 have m0: ¬w.heap.size=w1.heap.size:=by omega
 have HS1:=hid hs1;clear hV hr1 cR0 cE0 hba HK hn1 hs1;cases r with
 |cons x r=>
  have hne:((⟨(x::r).toArray⟩:ByteArray).toList==(⟨#[]⟩:ByteArray).toList)=false:=by
   rw[beq_eq_false_iff_ne];intro h;rw[Lib.toList_data,Lib.toList_data]at h;simp at h
  have hnn:((⟨(x::r).toArray⟩:ByteArray).toList !=(⟨#[]⟩:ByteArray).toList)=true:=by rw[bne,hne];rfl
  clear hcR hcE hb1;go_wp2_with fail;refine(gu_any _).mono ?_
  rintro e w3 ⟨rfl,rfl⟩;obtain⟨hcR,hcE,hb1⟩:=HCS.out
  have hal:=below_alloc w1 (.cells #[.int .i64 q.kind,.string q.who,.string q.fo,.string q.name,.string q.key,.string q.text,.int .i64 q.num,.int .i64 q.off,.int .i64 q.base,.slice av lv cv] 31);exact readq_gave _ _ _ _ _ rfl rfl (by omega) (hcR.below hal) (hcE.below hal) ⟨by rw[hq];rfl,(hb1.trans (hal.mono (Nat.le_of_lt q0))).setCell (p:=⟨w.heap.size+1,0,none⟩) (by simp) _⟩
 |nil=>
  have hne:((⟨[].toArray⟩:ByteArray).toList==(⟨#[]⟩:ByteArray).toList)=true:=by
   rw[Lib.toList_data];rfl
  have hnn:((⟨[].toArray⟩:ByteArray).toList !=(⟨#[]⟩:ByteArray).toList)=false:=by rw[bne,hne];rfl
  have y0:=hcR.cell 0 rfl;have x0:=hcR.fr 0;have y1:=hcR.cell 1 rfl;have x1:=hcR.fr 1;have y2:=hcR.cell 2 rfl;have x2:=hcR.fr 2;have y3:=hcR.cell 3 rfl;have x3:=hcR.fr 3;have y4:=hcR.cell 4 rfl;have x4:=hcR.fr 4;have y5:=hcR.cell 5 rfl;have x5:=hcR.fr 5;have y6:=hcR.cell 6 rfl;have x6:=hcR.fr 6;have y7:=hcR.cell 7 rfl;have x7:=hcR.fr 7;have y8:=hcR.cell 8 rfl;have x8:=hcR.fr 8;have y9:=hcR.cell 9 rfl;have x9:=hcR.fr 9;have e0:=hcE.cell 0 rfl;have g0:=hcE.fr 0;clear hcR hcE hb1;go_wp2_with fail;obtain⟨_,_,hb1⟩:=HCS.out
  have k1: ¬w.heap.size+1=w.heap.size:=by omega
  have k2: ¬w.heap.size=w.heap.size+1:=by omega
  have hB0:w.heap.size<wa.heap.size:=by rw[HSA.out];omega
  have hB1:w.heap.size+1<wa.heap.size:=by rw[HSA.out];omega
  have e1:w.heap.size≤w.heap.size+1:=Nat.le_succ _;have e9:=Nat.le_refl w.heap.size;refine readq_well _ _ _ _ ⟨.tuple #[.agg #[.int .i64 q.kind,.string q.who,.string q.fo,.string q.name,.string q.key,.string q.text,.int .i64 q.num,.int .i64 q.off,.int .i64 q.base,.slice av lv cv],.int .i64 0],?_,?_,?_⟩
  · simp[results,Tryz.results33,go_sem,k1,k2,m0,m1,q0,q1,y0,y1,y2,y3,y4,y5,y6,y7,y8,y9,e0]
  · rw[hq]
    exact⟨_,rfl,(HV.out|>.set hB0 0 _|>.set hB0 1 _|>.set hB0 2 _|>.set hB0 3 _|>.set hB0 4 _|>.set hB0 5 _|>.set hB0 6 _|>.set hB0 7 _|>.set hB0 8 _|>.set hB0 9 _|>.set hB1 0 (.int .i64 0)).low (by rw[HSA.out];omega)|>.below (below_alloc _ _)⟩
  · exact(((hb1|>.setCell (p:=⟨w.heap.size,0,none⟩) e9 _|>.setCell (p:=⟨w.heap.size,1,none⟩) e9 _|>.setCell (p:=⟨w.heap.size,2,none⟩) e9 _|>.setCell (p:=⟨w.heap.size,3,none⟩) e9 _|>.setCell (p:=⟨w.heap.size,4,none⟩) e9 _|>.setCell (p:=⟨w.heap.size,5,none⟩) e9 _|>.setCell (p:=⟨w.heap.size,6,none⟩) e9 _|>.setCell (p:=⟨w.heap.size,7,none⟩) e9 _|>.setCell (p:=⟨w.heap.size,8,none⟩) e9 _|>.setCell (p:=⟨w.heap.size,9,none⟩) e9 _).setCell (p:=⟨w.heap.size+1,0,none⟩) e1 _).alloc (by simp;omega) _)
set_option maxHeartbeats 2000000 in
theorem asked_any (s:ByteArray) (w:World) (hs:s.size≤MaxL) (h6:5<w.heap.size) (hv:VarsW w):
    Calls Tryz.prog 14 #[.string s] w fun e w'=>WhPost (Wr.whole (Wr.rqP Wr.gN 1000 s.data.toList)) (.agg zrq.toArray) (RqV w.heap.size) e w'∧Below w.heap.size w w':=by
 obtain⟨w0,hw0⟩: ∃w0,w0=w.alloc (.cells zrq.toArray 31):=⟨_,rfl⟩
 have s0:w0.heap.size=w.heap.size+1:=by rw[hw0];simp
 have b0:Below w.heap.size w w0:=by rw[hw0];exact below_alloc _ _
 have c0:Cs w0 w.heap.size zrq:=by rw[hw0];exact Cs.new w zrq _
 have HK:=hid (readq_any s w0 hs (by omega) (hv.belowB h6 b0));rw[hw0]at HK;have HW0:=hid hw0;have HB:=hid (And.intro b0 c0);clear hw0 hv b0 c0;generalize hR:Wr.whole (Wr.rqP Wr.gN 1000 s.data.toList)=res at*;go_enter Tryz.func14,Tryz.ntmps14
 go_wp2_with fail;refine HK.out.mono ?_
 rintro e w1 ⟨hp,hb1⟩;rw[←HW0.out]at hp hb1;obtain⟨b0,c0⟩:=HB.out
 have hcR:=c0.below hb1;have hB1:Below w.heap.size w w1:=b0.trans (hb1.mono (by omega));have hs1:=hb1.size;have y0:=hcR.cell 0 rfl;have x0:=hcR.fr 0;have y1:=hcR.cell 1 rfl;have x1:=hcR.fr 1;have y2:=hcR.cell 2 rfl;have x2:=hcR.fr 2;have y3:=hcR.cell 3 rfl;have x3:=hcR.fr 3;have y4:=hcR.cell 4 rfl;have x4:=hcR.fr 4;have y5:=hcR.cell 5 rfl;have x5:=hcR.fr 5;have y6:=hcR.cell 6 rfl;have x6:=hcR.fr 6;have y7:=hcR.cell 7 rfl;have x7:=hcR.fr 7;have y8:=hcR.cell 8 rfl;have x8:=hcR.fr 8;have y9:=hcR.cell 9 rfl;have x9:=hcR.fr 9;have e9:=Nat.le_refl w.heap.size;have HB1:=hid hB1;clear hB1 hb1 c0 b0 HK;cases res with
 |none=>
  cases hp
  go_wp2_with fail;refine bodyPost_ret (v:= .tuple #[.agg zrq.toArray,.int .i64 1]) (by simp[results,Tryz.results14,go_sem,y0,y1,y2,y3,y4,y5,y6,y7,y8,y9]) rfl ⟨rfl,?_⟩
  exact(HB1.out|>.setCell (p:=⟨w.heap.size,0,none⟩) e9 _|>.setCell (p:=⟨w.heap.size,1,none⟩) e9 _|>.setCell (p:=⟨w.heap.size,2,none⟩) e9 _|>.setCell (p:=⟨w.heap.size,3,none⟩) e9 _|>.setCell (p:=⟨w.heap.size,4,none⟩) e9 _|>.setCell (p:=⟨w.heap.size,5,none⟩) e9 _|>.setCell (p:=⟨w.heap.size,6,none⟩) e9 _|>.setCell (p:=⟨w.heap.size,7,none⟩) e9 _|>.setCell (p:=⟨w.heap.size,8,none⟩) e9 _|>.setCell (p:=⟨w.heap.size,9,none⟩) e9 _)
 |some q=>
  obtain⟨v1,rfl,hV⟩:=hp
  have HV:=hid hV;obtain⟨vc,rfl,hrow⟩:=HV.out
  obtain⟨av,lv,cv,rfl⟩:=hrow.shape
  clear hrow;clear hV;go_wp2_with fail;refine bodyPost_ret (v:= .tuple #[.agg #[.int .i64 q.kind,.string q.who,.string q.fo,.string q.name,.string q.key,.string q.text,.int .i64 q.num,.int .i64 q.off,.int .i64 q.base,.slice av lv cv],.int .i64 0]) (by simp[results,Tryz.results14,go_sem,y0,y1,y2,y3,y4,y5,y6,y7,y8,y9]) rfl ⟨⟨_,rfl,?_⟩,?_⟩
  · exact(HV.out|>.set (by rw[s0];omega) 0 _|>.set (by rw[s0];omega) 1 _|>.set (by rw[s0];omega) 2 _|>.set (by rw[s0];omega) 3 _|>.set (by rw[s0];omega) 4 _|>.set (by rw[s0];omega) 5 _|>.set (by rw[s0];omega) 6 _|>.set (by rw[s0];omega) 7 _|>.set (by rw[s0];omega) 8 _|>.set (by rw[s0];omega) 9 _).low (by rw[s0];omega)
  · exact(HB1.out|>.setCell (p:=⟨w.heap.size,0,none⟩) e9 _|>.setCell (p:=⟨w.heap.size,1,none⟩) e9 _|>.setCell (p:=⟨w.heap.size,2,none⟩) e9 _|>.setCell (p:=⟨w.heap.size,3,none⟩) e9 _|>.setCell (p:=⟨w.heap.size,4,none⟩) e9 _|>.setCell (p:=⟨w.heap.size,5,none⟩) e9 _|>.setCell (p:=⟨w.heap.size,6,none⟩) e9 _|>.setCell (p:=⟨w.heap.size,7,none⟩) e9 _|>.setCell (p:=⟨w.heap.size,8,none⟩) e9 _|>.setCell (p:=⟨w.heap.size,9,none⟩) e9 _)
end Go.Proofs.YtppdfeehhnofaaaGreatDoor
