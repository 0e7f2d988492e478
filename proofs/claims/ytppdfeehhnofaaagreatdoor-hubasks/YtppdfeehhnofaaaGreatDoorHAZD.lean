/- What Serve answers to every request, of a hub that passes Check. -/
import Derived.Test.YtppdfeehhnofaaaGreatDoorHAZC
import Derived.Test.YtppdfeehhnofaaaGreatDoorHAQ
import Derived.Lib.AtoiAll
import Derived.Lib.AtoiAllCases
import Derived.Lib.ItoaNum
import Derived.Lib.ItoaMem
import Derived.Test.YtppdfeehhnofaaaGreatDoorHAH
import Derived.Test.YtppdfeehhnofaaaGreatDoorHAG
import Derived.Lib.Builder
import Derived.Lib.AppendStr
import Derived.Lib.UnsafeStr
import Derived.Lib.OthersKept
import Derived.Lib.OwnKind
import Derived.Laws.Externs
set_option linter.unusedSimpArgs false
set_option linter.unusedVariables false
namespace Go.Proofs.YtppdfeehhnofaaaGreatDoor
open Go.RowKit

namespace Hu
theorem plc_le (L:List Sh) (x:ByteArray):plc L x≤L.length:=by
 rw[plc];exact List.findIdx_le_length
def anU (U:Ur):An:=⟨U.e,U.num,Jn.zeroP⟩
def upU (H:Hb) (U:Ur):Hb:=upH H U.e U.ss U.nx U.la U.ro
/-- What a request that is not denied leaves, and its answer. -/
def skH (H:Hb) (q:Rq):Hb:=
 if q.kind=1 then cmH H (whr H.fos H.gs q.fo) q.key q.ch
 else if q.kind=2 then H
 else if q.kind=3 then gsH H (Pp.giE H.gs q.fo q.who q.name q.num) (Pp.giL H.gs q.fo q.who q.name q.num)
 else if q.kind=4 then upU H (opU H q.who q.num)
 else if q.kind=5 then upU H (apU H q.who q.num q.off q.text)
 else if q.kind=6 then H
 else if q.kind=7 then fnH H q (fnU H q.who q.num)
 else mkH H q.fo q.who
def skA (H:Hb) (q:Rq):An:=
 if q.kind=1 then⟨cmE H (whr H.fos H.gs q.fo) q.key q.ch,cmN H (whr H.fos H.gs q.fo) q.key q.ch,Jn.zeroP⟩
 else if q.kind=2 then⟨Jn.rdE (joAt H (whr H.fos H.gs q.fo)) q.num 10,0,Jn.rdR (joAt H (whr H.fos H.gs q.fo)) q.num 10⟩
 else if q.kind=3 then⟨Pp.giE H.gs q.fo q.who q.name q.num,0,Jn.zeroP⟩
 else if q.kind=4 then anU (opU H q.who q.num)
 else if q.kind=5 then anU (apU H q.who q.num q.off q.text)
 else if q.kind=6 then⟨quE H q.who q.num,quN H q.who q.num,Jn.zeroP⟩
 else if q.kind=7 then⟨fnE H q (fnU H q.who q.num),fnN H q (fnU H q.who q.num),Jn.zeroP⟩
 else⟨mkE H q.fo q.who,0,Jn.zeroP⟩
def svH (H:Hb) (q:Rq):Hb:=if ckE H.gs q=0 then skH H q else H
def svA (H:Hb) (q:Rq):An:=if ckE H.gs q=0 then skA H q else⟨ckE H.gs q,0,Jn.zeroP⟩
theorem kinds {k:Int} (h1:1≤k) (h2:k≤8):k=1∨k=2∨k=3∨k=4∨k=5∨k=6∨k=7∨k=8:=by omega
theorem sk_1 {H:Hb} {q:Rq} (h:q.kind=1):skH H q=cmH H (whr H.fos H.gs q.fo) q.key q.ch∧skA H q=⟨cmE H (whr H.fos H.gs q.fo) q.key q.ch,cmN H (whr H.fos H.gs q.fo) q.key q.ch,Jn.zeroP⟩:=by simp[skH,skA,h]
theorem sk_2 {H:Hb} {q:Rq} (h:q.kind=2):skH H q=H∧skA H q=⟨Jn.rdE (joAt H (whr H.fos H.gs q.fo)) q.num 10,0,Jn.rdR (joAt H (whr H.fos H.gs q.fo)) q.num 10⟩:=by simp[skH,skA,h]
theorem sk_3 {H:Hb} {q:Rq} (h:q.kind=3):skH H q=gsH H (Pp.giE H.gs q.fo q.who q.name q.num) (Pp.giL H.gs q.fo q.who q.name q.num)∧skA H q=⟨Pp.giE H.gs q.fo q.who q.name q.num,0,Jn.zeroP⟩:=by simp[skH,skA,h]
theorem sk_4 {H:Hb} {q:Rq} (h:q.kind=4):skH H q=upU H (opU H q.who q.num)∧skA H q=anU (opU H q.who q.num):=by simp[skH,skA,h]
theorem sk_5 {H:Hb} {q:Rq} (h:q.kind=5):skH H q=upU H (apU H q.who q.num q.off q.text)∧skA H q=anU (apU H q.who q.num q.off q.text):=by simp[skH,skA,h]
theorem sk_6 {H:Hb} {q:Rq} (h:q.kind=6):skH H q=H∧skA H q=⟨quE H q.who q.num,quN H q.who q.num,Jn.zeroP⟩:=by simp[skH,skA,h]
theorem sk_7 {H:Hb} {q:Rq} (h:q.kind=7):skH H q=fnH H q (fnU H q.who q.num)∧skA H q=⟨fnE H q (fnU H q.who q.num),fnN H q (fnU H q.who q.num),Jn.zeroP⟩:=by simp[skH,skA,h]
theorem sk_8 {H:Hb} {q:Rq} (h:q.kind=8):skH H q=mkH H q.fo q.who∧skA H q=⟨mkE H q.fo q.who,0,Jn.zeroP⟩:=by simp[skH,skA,h]
end Hu
end Go.Proofs.YtppdfeehhnofaaaGreatDoor
namespace Go.Proofs.YtppdfeehhnofaaaGreatDoor
open Go.RowKit

/-- What answer does, wherever the server lies. -/
def AnsAll (H:Hb) (q:Rq) (A:An) (H':Hb):Prop:= ∀(B:Nat) (W:World) (g mb:Nat) (vf vg vs vq:Value),Sv B W g mb vf vg vs H→SvM W mb H.gs.length H→g<B→B≤W.heap.size→LiesQ W vq q→AnsOK W g mb vf vq A H'
theorem ans_1 (H:Hb) (q:Rq) (hs:SizedH H) (hsq:SizedQ q) (h0:Hu.hE H=0) (hk:q.kind=1) (hck:Hu.ckE H.gs q=0):
    AnsAll H q ⟨Hu.cmE H (Hu.whr H.fos H.gs q.fo) q.key q.ch,Hu.cmN H (Hu.whr H.fos H.gs q.fo) q.key q.ch,Jn.zeroP⟩ (Hu.cmH H (Hu.whr H.fos H.gs q.fo) q.key q.ch):=by
 have hin:Hu.inG H.gs q.fo=true:=Hu.rig_in (h:=q.who) (by have:=(Hu.ck_parts hck).2.2.2;rw[hk]at this;have e:Hu.lst 1=2:=rfl;omega);have hi:Hu.whr H.fos H.gs q.fo<H.fos.length:=(Hu.whr_at h0 hin).elim (fun h _=>h);intro B W g mb vf vg vs vq hsv hm hgB hBW hq;exact sanswer_num H _ q vq vf g mb _ _ W hsv.lies hs.gs hq hsq hck (by rw[hk];decide) (fun W' vq' hW hq'=>snum_commit H q vq' vf vg vs B g mb _ W' (hsv.below hW) (hm.below hW) hgB hs.fos hq' hsq hi hk) hsv.vlt
theorem ans_2 (H:Hb) (q:Rq) (hs:SizedH H) (hsq:SizedQ q) (h0:Hu.hE H=0) (hk:q.kind=2) (hck:Hu.ckE H.gs q=0):
    AnsAll H q ⟨Jn.rdE (Hu.joAt H (Hu.whr H.fos H.gs q.fo)) q.num 10,0,Jn.rdR (Hu.joAt H (Hu.whr H.fos H.gs q.fo)) q.num 10⟩ H:=by
 have hin:Hu.inG H.gs q.fo=true:=Hu.rig_in (h:=q.who) (by have:=(Hu.ck_parts hck).2.2.2;rw[hk]at this;have e:Hu.lst 2=1:=rfl;omega);have hi:Hu.whr H.fos H.gs q.fo<H.fos.length:=(Hu.whr_at h0 hin).elim (fun h _=>h);intro B W g mb vf vg vs vq hsv hm hgB hBW hq;exact sanswer_page H q vq vf vg vs B g mb _ W hsv hm hs.fos hs.gs hq hsq hck hk hi
theorem ans_3 (H:Hb) (q:Rq) (hs:SizedH H) (hsq:SizedQ q) (h0:Hu.hE H=0) (hk:q.kind=3) (hck:Hu.ckE H.gs q=0):
    AnsAll H q ⟨Pp.giE H.gs q.fo q.who q.name q.num,0,Jn.zeroP⟩ (Hu.gsH H (Pp.giE H.gs q.fo q.who q.name q.num) (Pp.giL H.gs q.fo q.who q.name q.num)):=by
 intro B W g mb vf vg vs vq hsv hm hgB hBW hq;exact sanswer_num H _ q vq vf g mb 0 _ W hsv.lies hs.gs hq hsq hck (by rw[hk];decide) (fun W' vq' hW hq'=>snum_give H q vq' vf g mb W' (hsv.below hW).lies hs.gs hq' hsq hk) hsv.vlt
theorem ans_4 (H:Hb) (q:Rq) (hs:SizedH H) (hsq:SizedQ q) (h0:Hu.hE H=0) (hk:q.kind=4) (hck:Hu.ckE H.gs q=0):
    AnsAll H q ⟨(Hu.opU H q.who q.num).e,(Hu.opU H q.who q.num).num,Jn.zeroP⟩ (Hu.upH H (Hu.opU H q.who q.num).e (Hu.opU H q.who q.num).ss (Hu.opU H q.who q.num).nx (Hu.opU H q.who q.num).la (Hu.opU H q.who q.num).ro):=by
 intro B W g mb vf vg vs vq hsv hm hgB hBW hq;exact sanswer_num H _ q vq vf g mb _ _ W hsv.lies hs.gs hq hsq hck (by rw[hk];decide) (fun W' vq' hW hq'=>snum_open H q vq' vf g mb W' _ (hsv.below hW).lies hq' hk (fun W v hv=>uopen_all H v q.who q.num W hs.ss hsq.who hv)) hsv.vlt
theorem ans_5 (H:Hb) (q:Rq) (hs:SizedH H) (hsq:SizedQ q) (h0:Hu.hE H=0) (hk:q.kind=5) (hck:Hu.ckE H.gs q=0):
    AnsAll H q ⟨(Hu.apU H q.who q.num q.off q.text).e,(Hu.apU H q.who q.num q.off q.text).num,Jn.zeroP⟩ (Hu.upH H (Hu.apU H q.who q.num q.off q.text).e (Hu.apU H q.who q.num q.off q.text).ss (Hu.apU H q.who q.num q.off q.text).nx (Hu.apU H q.who q.num q.off q.text).la (Hu.apU H q.who q.num q.off q.text).ro):=by
 intro B W g mb vf vg vs vq hsv hm hgB hBW hq;exact sanswer_num H _ q vq vf g mb _ _ W hsv.lies hs.gs hq hsq hck (by rw[hk];decide) (fun W' vq' hW hq'=>snum_append H q vq' vf g mb W' _ (hsv.below hW).lies hq' hk (fun W v hv=>uappend_all H v q.who q.num q.off q.text W hs.ss hsq.who hsq.text hv)) hsv.vlt
theorem ans_6 (H:Hb) (q:Rq) (hs:SizedH H) (hsq:SizedQ q) (h0:Hu.hE H=0) (hk:q.kind=6) (hck:Hu.ckE H.gs q=0):
    AnsAll H q ⟨Hu.quE H q.who q.num,Hu.quN H q.who q.num,Jn.zeroP⟩ H:=by
 intro B W g mb vf vg vs vq hsv hm hgB hBW hq;exact sanswer_num H _ q vq vf g mb _ _ W hsv.lies hs.gs hq hsq hck (by rw[hk];decide) (fun W' vq' hW hq'=>snum_query H q vq' vf g mb W' _ _ (hsv.below hW).lies hq' hk (fun W v hv=>uquery_all H v q.who q.num W hs.ss hsq.who hv)) hsv.vlt
theorem ans_7 (H:Hb) (q:Rq) (hs:SizedH H) (hsq:SizedQ q) (h0:Hu.hE H=0) (hk:q.kind=7) (hck:Hu.ckE H.gs q=0):
    AnsAll H q ⟨Hu.fnE H q (Hu.fnU H q.who q.num),Hu.fnN H q (Hu.fnU H q.who q.num),Jn.zeroP⟩ (Hu.fnH H q (Hu.fnU H q.who q.num)):=by
 have hin:Hu.inG H.gs q.fo=true:=Hu.rig_in (h:=q.who) (by have:=(Hu.ck_parts hck).2.2.2;rw[hk]at this;have e:Hu.lst 7=2:=rfl;omega);have hi:Hu.whr H.fos H.gs q.fo<H.fos.length:=(Hu.whr_at h0 hin).elim (fun h _=>h);intro B W g mb vf vg vs vq hsv hm hgB hBW hq;exact sanswer_num H _ q vq vf g mb _ _ W hsv.lies hs.gs hq hsq hck (by rw[hk];decide) (fun W' vq' hW hq'=>snum_finish H q vq' vf vg vs B g mb _ W' (hsv.below hW) (hm.below hW) hgB (Nat.le_trans hBW hW.size) hs.fos hs.ss hq' hsq (Hu.fn_tx hs.ss _ _) hi hk) hsv.vlt
theorem ans_8 (H:Hb) (q:Rq) (hs:SizedH H) (hsq:SizedQ q) (h0:Hu.hE H=0) (hk:q.kind=8) (hck:Hu.ckE H.gs q=0) (hins: ∀B v,InsOK B v H.fos (Hu.plc H.fos q.fo) q.fo):
    AnsAll H q ⟨Hu.mkE H q.fo q.who,0,Jn.zeroP⟩ (Hu.mkH H q.fo q.who):=by
 obtain⟨_,h1,h2,_⟩:=Hu.h_parts h0
 obtain⟨h3,_,h4⟩:=Hu.cf_parts h1
 intro B W g mb vf vg vs vq hsv hm hgB hBW hq;exact sanswer_num H _ q vq vf g mb 0 _ W hsv.lies hs.gs hq hsq hck (by rw[hk];decide) (fun W' vq' hW hq'=>snum_make H q vq' vf vg vs B g mb W' (hsv.below hW) hgB (Nat.le_trans hBW hW.size) hs.gs h4 h3 hq' hsq (hins B vf) hk) hsv.vlt
theorem ans_0 (H:Hb) (q:Rq) (hs:SizedH H) (hsq:SizedQ q) (h0:Hu.hE H=0) (hck: ¬Hu.ckE H.gs q=0):
    AnsAll H q ⟨Hu.ckE H.gs q,0,Jn.zeroP⟩ H:=by
 intro B W g mb vf vg vs vq hsv hm hgB hBW hq;exact sanswer_err H q vq vf g mb W hsv.lies hs.gs hq hsq hck
theorem ans_any (H:Hb) (q:Rq) (hs:SizedH H) (hsq:SizedQ q) (h0:Hu.hE H=0):AnsAll H q (Hu.svA H q) (Hu.svH H q):=by
 by_cases hck:Hu.ckE H.gs q=0
 · rw[Hu.svH,Hu.svA,if_pos hck,if_pos hck]
   obtain⟨k1,k2,_⟩:=Hu.ck_parts hck
   rcases Hu.kinds k1 k2 with hk|hk|hk|hk|hk|hk|hk|hk
   · rw[(Hu.sk_1 hk).1,(Hu.sk_1 hk).2];exact ans_1 H q hs hsq h0 hk hck
   · rw[(Hu.sk_2 hk).1,(Hu.sk_2 hk).2];exact ans_2 H q hs hsq h0 hk hck
   · rw[(Hu.sk_3 hk).1,(Hu.sk_3 hk).2];exact ans_3 H q hs hsq h0 hk hck
   · rw[(Hu.sk_4 hk).1,(Hu.sk_4 hk).2];exact ans_4 H q hs hsq h0 hk hck
   · rw[(Hu.sk_5 hk).1,(Hu.sk_5 hk).2];exact ans_5 H q hs hsq h0 hk hck
   · rw[(Hu.sk_6 hk).1,(Hu.sk_6 hk).2];exact ans_6 H q hs hsq h0 hk hck
   · rw[(Hu.sk_7 hk).1,(Hu.sk_7 hk).2];exact ans_7 H q hs hsq h0 hk hck
   · rw[(Hu.sk_8 hk).1,(Hu.sk_8 hk).2]
     exact ans_8 H q hs hsq h0 hk hck (fun B v=>insert_any B v H.fos _ q.fo (Hu.cf_parts (Hu.h_parts h0).2.1).1 (Hu.plc_le _ _))
 · rw[Hu.svH,Hu.svA,if_neg hck,if_neg hck]
   exact ans_0 H q hs hsq h0 hck
theorem serve_all (H:Hb) (q:Rq) (v vq:Value) (w:World) (hv:LiesH w v H) (hs:SizedH H) (hq:LiesQ w vq q) (hsq:SizedQ q) (h0:Hu.hE H=0):
    Calls Tryz.prog 8 #[v,vq] w fun e w'=> ∃u a,e= .returned (.tuple #[u,a,.int .i64 0])∧LiesH w' u (Hu.svH H q)∧LiesA w' a (Hu.svA H q)∧Below w.heap.size w w':=
 serve_ok H _ _ q v vq w hv hs hq h0 (ans_any H q hs hsq h0)
end Go.Proofs.YtppdfeehhnofaaaGreatDoor
namespace Go.Proofs.YtppdfeehhnofaaaGreatDoor

/-- What a writer holds: its bytes; whether there is too much; whether a number is too far. -/
structure Ws where
 l:List UInt8
 mn:Bool
 fr:Bool
def I64 (n:Int):Prop:= -9223372036854775808≤n∧n≤9223372036854775807
namespace Wr
def near (n:Int):Bool:=decide (-1099511627776≤n) && decide (n≤1099511627776)
theorem near_iff {n:Int}:near n=true↔ -1099511627776≤n∧n≤1099511627776:=by simp[near]
/-- What is written: a number, a text, or a mark that there is too much. -/
inductive It where
 |n (i:Int)
 |t (s:ByteArray)
 |big
def num (s:Ws) (n:Int):Ws:=⟨s.l++(Lib.itoa n++[59]),s.mn,s.fr|| !near n⟩
def much (s:Ws):Ws:=⟨s.l,true,s.fr⟩
def txt (s:Ws) (x:ByteArray):Ws:=if 1000<x.size then much s else⟨(num s x.size).l++x.data.toList,(num s x.size).mn,(num s x.size).fr⟩
def put (s:Ws):It→Ws
 | .n i=>num s i
 | .t x=>txt s x
 | .big=>much s
def run (s:Ws) (l:List It):Ws:=l.foldl put s
theorem run_app (s:Ws) (a b:List It):run s (a++b)=run (run s a) b:=by simp[run]
theorem run_cons (s:Ws) (x:It) (a:List It):run s (x::a)=run (put s x) a:=rfl
def It.wf:It→Prop
 | .n i=>I64 i
 |_=>True
def It.ok:It→Bool
 | .n i=>near i
 | .t x=>decide (x.size≤1000)
 | .big=>false
def It.bytes:It→List UInt8
 | .n i=>Lib.itoa i++[59]
 | .t x=>Lib.itoa x.size++[59]++x.data.toList
 | .big=>[]
def bytes (l:List It):List UInt8:=l.flatMap It.bytes
theorem bytes_app (a b:List It):bytes (a++b)=bytes a++bytes b:=by simp[bytes]
theorem bytes_cons (x:It) (b:List It):bytes (x::b)=x.bytes++bytes b:=rfl
def ok (l:List It):Bool:=l.all It.ok
/-- What is told in the end. -/
def fin (s:Ws):ByteArray×Int:=if s.mn=true then(⟨#[]⟩,2)else if s.fr=true then(⟨#[]⟩,3)else(⟨s.l.toArray⟩,0)
/-! Digits. -/
theorem dig_b (u:Nat) (h:u<10):(UInt8.ofNat (48+u)).toNat=48+u:=by rw[UInt8.toNat_ofNat'];omega
theorem dec_digit: ∀(n u:Nat),u<n→ ∀x∈Lib.decDigits u,48≤x.toNat∧x.toNat≤57
 |0,u,h=>absurd h (Nat.not_lt_zero _)
 |n+1,u,h=>by
  intro x hx;rw[Lib.decDigits]at hx;split at hx
  · rename_i h1
    simp only[List.mem_singleton]at hx;subst hx;rw[dig_b u h1];omega
  · rename_i h1
    rw[List.mem_append,List.mem_singleton]at hx;rcases hx with hx|rfl
    · exact dec_digit n (u/10) (by omega) x hx
    · rw[dig_b _ (by omega)];omega
theorem dec_ne: ∀u,Lib.decDigits u≠[]:=by
 intro u;rw[Lib.decDigits];split<;>simp
theorem dec_lenB: ∀(k u:Nat),u<10^(k+1)→(Lib.decDigits u).length≤k+1
 |0,u,h=>by rw[Lib.decDigits,dif_pos (by omega)];simp
 |k+1,u,h=>by
  rw[Lib.decDigits];split
  · simp
  · have:=dec_lenB k (u/10) (by rw[Nat.pow_succ]at h;omega)
    simp only[List.length_append,List.length_cons,List.length_nil];omega
theorem itoa_len {n:Int} (h:I64 n):(Lib.itoa n).length≤20:=by
 have h1 := dec_lenB 18 n.natAbs (by obtain ⟨h1, h2⟩ := h; have : (10 : Nat) ^ (18 + 1) = 10000000000000000000 := by decide
                                     omega)
 unfold Lib.itoa;split
 · simp only[List.length_cons];omega
 · have e:n.toNat=n.natAbs:=by omega
   rw[e];omega
theorem itoa_no (n:Int):(59:UInt8)∉Lib.itoa n:=by
 have hd: ∀u,(59:UInt8)∉Lib.decDigits u:=fun u hx=>by
  have:=dec_digit (u+1) u (Nat.lt_succ_self u) 59 hx
  simp at this
 unfold Lib.itoa;split
 · intro hx
   rw[List.mem_cons]at hx;rcases hx with hx|hx
   · simp at hx
   · exact hd _ hx
 · exact hd _
theorem pu_app: ∀(l:List UInt8) (acc:Nat) (c:UInt8),Lib.parseUint10 acc (l++[c])=match Lib.parseUint10 acc l with
    | .ok a=>Lib.parseUint10 a [c]
    | .«syntax» => .«syntax»
    | .range=> .range
 |[],acc,c=>rfl
 |x::l,acc,c=>by
  rw[List.cons_append];conv=>lhs;unfold Lib.parseUint10
  conv=>rhs;unfold Lib.parseUint10
  split
  · split
    · rfl
    · split
      · rfl
      · exact pu_app l _ c
  · rfl
theorem pu_dec: ∀(n u:Nat),u<n→u<1000000000000000000→Lib.parseUint10 0 (Lib.decDigits u)= .ok u
 |0,u,h,_=>absurd h (Nat.not_lt_zero _)
 |n+1,u,h,hb=>by
  rw[Lib.decDigits];split
  · rename_i h1
    have e:=dig_b u h1;simp only[Lib.parseUint10,e];rw[if_pos (by omega),if_neg (by omega),if_neg (by omega)];congr 1;omega
  · rename_i h1
    have e:=dig_b (u % 10) (by omega);rw[pu_app,pu_dec n (u/10) (by omega) (by omega)];simp only[Lib.parseUint10,e];rw[if_pos (by omega),if_neg (by omega),if_neg (by omega)];congr 1;omega
def wide (n:Int):Prop:=n.natAbs<1000000000000000000
theorem near_wide {n:Int} (h:near n=true):wide n:=by rw[near_iff]at h;unfold wide;omega
theorem atoi_itoa {n:Int} (h:wide n):Lib.atoiAll (Lib.itoa n)= .ok n:=by
 unfold wide at h
 have hm:Lib.parseMag (Lib.decDigits n.natAbs)= .ok n.natAbs:=by
  rw[Lib.parseMag,if_neg (dec_ne _),pu_dec _ _ (Nat.lt_succ_self _) h]
 unfold Lib.itoa;split
 · rename_i h1
   rw[Lib.atoiAll_minus,hm];simp only[Lib.signed];rw[if_neg (by omega)];congr 1;omega
 · rename_i h1
   have e:n.toNat=n.natAbs:=by omega
   rw[e];obtain⟨c,r,hc⟩: ∃c r,Lib.decDigits n.natAbs=c::r:=List.exists_cons_of_ne_nil (dec_ne _)
   have hd:=dec_digit _ _ (Nat.lt_succ_self n.natAbs) c (by rw[hc];simp);rw[hc]at hm⊢;rw[Lib.atoiAll_plain c r (by omega) (by omega),hm];simp only[Lib.signless];rw[if_neg (by omega)];congr 1;omega
/-! Numbers, read. -/
def upto (l:List UInt8):List UInt8:=l.takeWhile (fun x=> !(x==59))
def behind (l:List UInt8):List UInt8:=(l.dropWhile (fun x=> !(x==59))).drop 1
theorem upto_at {a r:List UInt8} (h:(59:UInt8)∉a):upto (a++59::r)=a:=by
 unfold upto;rw[List.takeWhile_append_of_pos (by intro x hx;simp;intro e;exact h (e▸hx))];simp
theorem behind_at {a r:List UInt8} (h:(59:UInt8)∉a):behind (a++59::r)=r:=by
 unfold behind;rw[List.dropWhile_append_of_pos (by intro x hx;simp;intro e;exact h (e▸hx))];simp
theorem upto_behind {l:List UInt8} (h:(59:UInt8)∈l):l=upto l++59::behind l:=by
 induction l with
 |nil=>cases h
 |cons x l ih=>
  by_cases e:x=59
  · subst e;simp[upto,behind]
  · have h':(59:UInt8)∈l:=by
     rw[List.mem_cons]at h;exact h.resolve_left (fun h=>e h.symm)
    have:=ih h'
    unfold upto behind at this⊢;simp only[List.takeWhile_cons,List.dropWhile_cons,beq_iff_eq,e,Bool.not_eq_true',not_false_eq_true,beq_eq_false_iff_ne,ne_eq,if_true,List.cons_append];rw[←this]
def rdG (g:Int→Bool) (l:List UInt8):Option (Int×List UInt8):=match Lib.atoiAll (upto l)with
 | .ok n=>if(59:UInt8)∈l∧Lib.itoa n=upto l∧g n=true then some (n,behind l)else none
 |_=>none
theorem rdG_iff {g:Int→Bool} (hg: ∀n,g n=true→wide n) {l r:List UInt8} {n:Int}:rdG g l=some (n,r)↔g n=true∧l=Lib.itoa n++59::r:=by
 constructor
 · intro h
   unfold rdG at h;split at h
   · rename_i m hm
     split at h
     · rename_i hc
       simp only[Option.some.injEq,Prod.mk.injEq]at h;obtain⟨rfl,rfl⟩:=h
       exact⟨hc.2.2,by rw[hc.2.1];exact upto_behind hc.1⟩
     · cases h
   · cases h
 · rintro ⟨h1,rfl⟩
   have e1:=upto_at (r:=r) (itoa_no n);unfold rdG;rw[e1,atoi_itoa (hg n h1)];simp only;rw[if_pos (by simp[h1]),behind_at (itoa_no n)]
/-- The program's bound, the document's. -/
def gN:Int→Bool:=near
theorem gN_wide (n:Int) (h:gN n=true):wide n:=near_wide h
end Wr
end Go.Proofs.YtppdfeehhnofaaaGreatDoor
namespace Go.Proofs.YtppdfeehhnofaaaGreatDoor
open Go.RowKit

def WtAt (B b:Nat) (p:Value) (s:Ws) (w:World):Prop:=
 B≤b∧ ∃v,w.heap[b]?=some (.cells #[p,v,.bool s.mn,.bool s.fr] 65 (0,0))∧w.ownsRow B 5 1 v s.l.length (Lib.byteCells s.l)∧v.ownBlock≠some b
/-- A writer in a block of its own. -/
def Wt (B b:Nat) (s:Ws) (w:World):Prop:=WtAt B b (.pointer none) s w∨WtAt B b (.pointer (some ⟨b,0,none⟩)) s w
theorem Wt.at {B b:Nat} {s:Ws} {w:World} (h:Wt B b s w): ∃p,WtAt B b p s w:=h.elim (fun h=>⟨_,h⟩) (fun h=>⟨_,h⟩)
/-- What stays: all below B, and above it all but the writer and rows of bytes. -/
def FrW (B b:Nat) (w w':World):Prop:=Below B w w'∧Lib.OthersKept 5 (some b) w w'
theorem FrW.refl (B b:Nat) (w:World):FrW B b w w:=⟨Below.refl _ _,Lib.OthersKept.refl _ _ _⟩
theorem FrW.trans {B b:Nat} {a c d:World} (h:FrW B b a c) (k:FrW B b c d):FrW B b a d:=⟨h.1.trans k.1,h.2.trans k.2⟩
theorem fr_set {B b:Nat} {a w:World} (h:FrW B b a w) (hB:B≤b) (i:Nat) (v:Value):FrW B b a (w.setCell ⟨b,i,none⟩ v):=⟨h.1.setCell (p:=⟨b,i,none⟩) hB _,h.2.setCell ⟨b,i,none⟩ rfl _⟩
theorem WtAt.lt {B b:Nat} {p:Value} {s:Ws} {w:World} (h:WtAt B b p s w):b<w.heap.size:=by
 obtain⟨_,v,hb,_⟩:=h
 exact heap_lt hb
/-- A cell of the writer's is set. -/
theorem own_set {B b:Nat} {w:World} {v:Value} {n:Nat} {xs:List Value} (hown:w.ownsRow B 5 1 v n xs) (hne:v.ownBlock≠some b) (i:Nat) (q:Value):(w.setCell ⟨b,i,none⟩ q).ownsRow B 5 1 v n xs:=
 hown.kept (row:=some b) ⟨rfl,rfl,rfl,by simp[World.setCell],fun k _ hk=>Below.heap_setCell _ _ _ _ (fun e=>hk (by simp[e]))⟩ (Or.inr hne)
theorem WtAt.used {B b:Nat} {p:Value} {s:Ws} {w:World} (h:WtAt B b p s w) (q:Value):WtAt B b q s (w.setCell ⟨b,0,none⟩ q):=by
 obtain⟨hB,v,hb,hown,hne⟩:=h
 exact⟨hB,v,by simp[World.setCell,Array.getElem?_modify,hb],own_set hown hne _ _,hne⟩
theorem WtAt.far {B b:Nat} {p:Value} {s:Ws} {w:World} (h:WtAt B b p s w):WtAt B b p {s with fr:=true} (w.setCell ⟨b,3,none⟩ (.bool true)):=by
 obtain⟨hB,v,hb,hown,hne⟩:=h
 exact⟨hB,v,by simp[World.setCell,Array.getElem?_modify,hb],own_set hown hne _ _,hne⟩
theorem WtAt.many {B b:Nat} {p:Value} {s:Ws} {w:World} (h:WtAt B b p s w):WtAt B b p {s with mn:=true} (w.setCell ⟨b,2,none⟩ (.bool true)):=by
 obtain⟨hB,v,hb,hown,hne⟩:=h
 exact⟨hB,v,by simp[World.setCell,Array.getElem?_modify,hb],own_set hown hne _ _,hne⟩
theorem WtAt.put {B b:Nat} {p v v':Value} {l:List UInt8} {m f:Bool} {w:World} (hB:B≤b) (hb:w.heap[b]?=some (.cells #[p,v,.bool m,.bool f] 65 (0,0))) (hown:w.ownsRow B 5 1 v' l.length (Lib.byteCells l)):
    WtAt B b p ⟨l,m,f⟩ (w.setCell ⟨b,1,none⟩ v'):=by
 have hne:=Lib.ownBlock_ne hown hb (by decide);exact⟨hB,v',by simp[World.setCell,Array.getElem?_modify,hb],own_set hown hne _ _,hne⟩
/-- Over a world that leaves b alone, and its bytes. -/
theorem Wt.below {B b:Nat} {s:Ws} {w w':World} (h:Wt B b s w) (hb:Below w.heap.size w w'):Wt B b s w':=by
 have one: ∀p,WtAt B b p s w→WtAt B b p s w':=fun p ⟨hB,v,h1,h2,h3⟩=>⟨hB,v,(hb.block b (heap_lt h1)).trans h1,Pp.own_below h2 hb,h3⟩
 exact h.elim (fun h=>Or.inl (one _ h)) (fun h=>Or.inr (one _ h))
theorem fr_below {B b:Nat} {w w':World} (h:Below w.heap.size w w') (hB:B≤w.heap.size):FrW B b w w':=
 ⟨h.mono hB,fun k o hk _ _=>(h.block k (heap_lt hk)).trans hk⟩
set_option maxHeartbeats 1000000 in
set_option maxRecDepth 100000 in
theorem cc_used (b:Nat) (w:World) (h0:w.cell? ⟨b,0,none⟩=some (.pointer (some ⟨b,0,none⟩))):
    Calls Tryz.prog 74 #[.pointer (some ⟨b,0,none⟩)] w fun e w'=>e= .returned (.tuple #[])∧w'=w:=by
 obtain⟨j,hj,_⟩: ∃j,Tryz.prog.info? 63=some j∧j.size=2:=Option.map_eq_some_iff.1 (by kernel_rfl)
 go_enter Tryz.func74,Tryz.ntmps74
 go_wp2;rw[Lib.run_neq_ptr_same w _ Tryz.underlying60 hj];go_wp2;go_end0
 exact⟨rfl,rfl⟩
set_option maxHeartbeats 1000000 in
set_option maxRecDepth 100000 in
theorem cc_fresh (b:Nat) (w:World) (h0:w.cell? ⟨b,0,none⟩=some (.pointer none)) (hsh:w.shape? b=some (65,4)) (hfz:w.frozen? ⟨b,0,none⟩=false):
    Calls Tryz.prog 74 #[.pointer (some ⟨b,0,none⟩)] w fun e w'=>e= .returned (.tuple #[])∧w'=w.setCell ⟨b,0,none⟩ (.pointer (some ⟨b,0,none⟩)):=by
 obtain⟨j,hj,hjs⟩: ∃j,Tryz.prog.info? 63=some j∧j.size=2:=Option.map_eq_some_iff.1 (by kernel_rfl)
 go_enter Tryz.func74,Tryz.ntmps74
 go_wp2;rw[Lib.run_to_unsafe w ⟨b,0,none⟩ Tryz.underlying60 Tryz.underlying183 hj (by rw[hjs];decide) hsh (Nat.zero_lt_succ 3)];simp only[Result.andThen];rw[Oper.upon_value];go_wp2;rw[run_callFunc_extern Tryz.func113 (by kernel_rfl) (by kernel_rfl) (by kernel_rfl) (e:=Extern.AbiNoEscape.same) (by kernel_rfl)];rw[Lib.run_noEscape];simp only[Result.andThen];rw[Oper.upon_value];go_wp2;rw[Lib.run_from_unsafe w ⟨b,0,none⟩ Tryz.underlying183 Tryz.underlying60 hj hsh (by kernel_rfl)];simp only[Result.andThen];rw[Oper.upon_value];go_wp2;go_end0
 exact⟨rfl,rfl⟩
theorem copyCheck_any (B b:Nat) (s:Ws) (w:World) (h:Wt B b s w):
    Calls Tryz.prog 74 #[.pointer (some ⟨b,0,none⟩)] w fun e w'=>e= .returned (.tuple #[])∧WtAt B b (.pointer (some ⟨b,0,none⟩)) s w'∧FrW B b w w':=by
 rcases h with h|h
 · have h':=h
   obtain⟨hB,v,hb,_⟩:=h'
   refine(cc_fresh b w (by rw[Lib.cell_of_heap hb];rfl) (by simp[World.shape?,hb]) (Lib.frozen_of_heap hb 0)).mono ?_
   rintro e w' ⟨rfl,rfl⟩;exact⟨rfl,h.used _,fr_set (FrW.refl _ _ _) hB _ _⟩
 · have h':=h
   obtain⟨hB,v,hb,_⟩:=h'
   refine(cc_used b w (by rw[Lib.cell_of_heap hb];rfl)).mono ?_
   rintro e w' ⟨rfl,rfl⟩;exact⟨rfl,h,FrW.refl _ _ _⟩
set_option maxHeartbeats 2000000 in
theorem writeByte_any (B b:Nat) (s:Ws) (c:UInt8) (w:World) (h:Wt B b s w) (hlen:s.l.length+1≤140737488355328) (hBw:B≤w.heap.size):
    Calls Tryz.prog 40 #[.pointer (some ⟨b,0,none⟩),.int .u8 c.toNat] w fun e w'=>e= .returned .nilIface∧WtAt B b (.pointer (some ⟨b,0,none⟩)) {s with l:=s.l++[c]} w'∧FrW B b w w':=by
 obtain⟨i0,hi,hz0,hz1,hz2⟩:=info_parts (show(Tryz.prog.info? 5).map (fun i=>(i.zero,i.size,i.bytes))=some (some (.int .u8 0),1,1) by kernel_rfl)
 have hcc:=copyCheck_any B b s w h;obtain⟨l,m,f⟩:=s
 go_enter Tryz.func40,Tryz.ntmps40
 go_wp2_with fail;refine hcc.mono ?_
 rintro e w1 ⟨rfl,h1,hb1,hk1⟩;obtain⟨hB,v,hbk,hown,hne⟩:=h1
 have c0:w1.cell? ⟨b,0,none⟩=some (.pointer (some ⟨b,0,none⟩)):=by rw[Lib.cell_of_heap hbk];rfl
 have c1:w1.cell? ⟨b,1,none⟩=some v:=by rw[Lib.cell_of_heap hbk];rfl
 go_wp2_with (at_builtin;refine wpList_append_own _ rfl _ _ 61 rfl B 5 i0 (.int .u8 0) 1 1 Tryz.underlying61 hi hz0 hz1 hz2 rfl (by decide) _ _ _ rfl (hown.alloc _) ⟨w1.heap.size,0,none⟩ 1 1 [.int .u8 c.toNat] rfl rfl ?c1 ?c2 ?c3 ?c4 ?c5 ?_)
 case c1=>
  intro j u hj;match j,hj with
  |0,hj=>simp at hj;subst hj;simp[Addr.add]
 case c2=>intro u hu;simp at hu;subst hu;rfl
 case c3=>unfold maxLen;have:l.length+1≤140737488355328:=hlen;omega
 case c4=>have:l.length+1≤140737488355328:=hlen;omega
 case c5=>have:=hb1.size;simp;omega
 intro v' w2 hown' hgrow _;have hlt:b<w1.heap.size:=heap_lt hbk
 have hb2:w2.heap[b]?=some (.cells #[.pointer (some ⟨b,0,none⟩),v,.bool m,.bool f] 65 (0,0)):=by
  rw[hgrow.block b (by simp;omega) (fun e=>hne e.symm),Lib.alloc_old w1 _ b hlt];exact hbk
 have d0:w2.cell? ⟨b,0,none⟩=some (.pointer (some ⟨b,0,none⟩)):=by rw[Lib.cell_of_heap hb2];rfl
 have d1:w2.cell? ⟨b,1,none⟩=some v:=by rw[Lib.cell_of_heap hb2];rfl
 have f1:w2.frozen? ⟨b,1,none⟩=false:=Lib.frozen_of_heap hb2 1;have e1:(Lib.byteCells l++[Value.int .u8 c.toNat])=Lib.byteCells (l++[c]):=by simp[Lib.byteCells]
 obtain⟨g,cap,rfl⟩: ∃g cap,v'= .slice (some ⟨g,0,none⟩) (l.length+1) cap:=by
  rcases hown'.2 with⟨_,h0⟩|⟨g,cap,cur,hv,_⟩
  · omega
  · exact⟨g,cap,hv⟩
 go_wp2;go_ret;refine⟨rfl,?_,?_,((hk1.alloc _).grown hgrow (Lib.ownsRow_kind (hown.alloc _))).setCell ⟨b,1,none⟩ rfl _⟩
 · exact WtAt.put hB hb2 (by rw[←e1];simpa using hown')
 · exact((hb1.alloc (by have:=hb1.size;omega) _).grown hgrow (by have:=hb1.size;simp;omega) (fun k hk=>(hown.lt k hk).1)).setCell (p:=⟨b,1,none⟩) hB _
set_option maxHeartbeats 2000000 in
theorem writeString_any (B b:Nat) (s:Ws) (x:ByteArray) (w:World) (h:Wt B b s w) (hlen:s.l.length+x.size≤140737488355328) (hBw:B≤w.heap.size):
    Calls Tryz.prog 38 #[.pointer (some ⟨b,0,none⟩),.string x] w fun e w'=>e= .returned (.tuple #[.int .i64 x.size,.nilIface])∧WtAt B b (.pointer (some ⟨b,0,none⟩)) {s with l:=s.l++x.data.toList} w'∧FrW B b w w':=by
 obtain⟨i0,hi,hz0,hz1,hz2⟩:=info_parts (show(Tryz.prog.info? 5).map (fun i=>(i.zero,i.size,i.bytes))=some (some (.int .u8 0),1,1) by kernel_rfl)
 have hcc:=copyCheck_any B b s w h;obtain⟨l,m,f⟩:=s
 go_enter Tryz.func38,Tryz.ntmps38
 go_wp2_with fail;refine hcc.mono ?_
 rintro e w1 ⟨rfl,h1,hb1,hk1⟩;obtain⟨hB,v,hbk,hown,hne⟩:=h1
 have c0:w1.cell? ⟨b,0,none⟩=some (.pointer (some ⟨b,0,none⟩)):=by rw[Lib.cell_of_heap hbk];rfl
 have c1:w1.cell? ⟨b,1,none⟩=some v:=by rw[Lib.cell_of_heap hbk];rfl
 go_wp2_with (at_builtin;refine Lib.wpList_append_own_string _ rfl _ _ 61 9 rfl B 5 i0 Tryz.underlying61 Tryz.underlying9 hi hz0 hz1 hz2 _ _ _ rfl hown x rfl ?c3 ?c4 ?c5 ?_)
 case c3=>unfold maxLen;have:l.length+x.size≤140737488355328:=hlen;omega
 case c4=>have:l.length+x.size≤140737488355328:=hlen;omega
 case c5=>have:=hb1.size;omega
 intro v' w2 hown' hgrow _;have hlt:b<w1.heap.size:=heap_lt hbk
 have hb2:w2.heap[b]?=some (.cells #[.pointer (some ⟨b,0,none⟩),v,.bool m,.bool f] 65 (0,0)):=by
  rw[hgrow.block b hlt (fun e=>hne e.symm)];exact hbk
 have d0:w2.cell? ⟨b,0,none⟩=some (.pointer (some ⟨b,0,none⟩)):=by rw[Lib.cell_of_heap hb2];rfl
 have d1:w2.cell? ⟨b,1,none⟩=some v:=by rw[Lib.cell_of_heap hb2];rfl
 have f1:w2.frozen? ⟨b,1,none⟩=false:=Lib.frozen_of_heap hb2 1;have e1:Lib.byteCells l++Lib.strCells x=Lib.byteCells (l++x.data.toList):=by simp[Lib.byteCells,Lib.strCells]
 obtain⟨ao,n',cap,rfl⟩: ∃ao n' cap,v'= .slice ao n' cap:=by
  rcases hown'.2 with⟨hv,_⟩|⟨g,cap,cur,hv,_⟩
  · exact⟨_,_,_,hv⟩
  · exact⟨_,_,_,hv⟩
 go_wp2;go_ret2;refine⟨rfl,?_,?_,(hk1.grown hgrow (Lib.ownsRow_kind hown)).setCell ⟨b,1,none⟩ rfl _⟩
 · exact WtAt.put hB hb2 (by rw[←e1];simpa[Lib.strCells_length]using hown')
 · exact(hb1.grown hgrow (by have:=hb1.size;omega) (fun k hk=>(hown.lt k hk).1)).setCell (p:=⟨b,1,none⟩) hB _
set_option maxHeartbeats 1000000 in
theorem string_any (B b:Nat) (s:Ws) (w:World) (h:Wt B b s w) (h0:s.l≠[]):
    Calls Tryz.prog 44 #[.pointer (some ⟨b,0,none⟩)] w fun e w'=>e= .returned (.string ⟨s.l.toArray⟩)∧Below B w w':=by
 obtain⟨p,hB,v,hbk,hown,hne⟩:=h.at
 obtain⟨l,m,f⟩:=s
 simp only at hbk hown h0⊢;have hl0:l.length≠0:=by simpa using h0
 obtain⟨g,cap,cur,rfl,hbg,hg,hnc,hcm,hcs,htake⟩: ∃g cap cur,v= .slice (some ⟨g,0,none⟩) l.length cap∧B≤g∧w.heap[g]?=some (.cells cur 5 (0,0))∧l.length≤cap∧cap≤maxLen∧cur.size=cap*1∧cur.toList.take (l.length*1)=Lib.byteCells l:=by
  rcases hown.2 with⟨_,hz⟩|⟨g,cap,cur,hv,r⟩
  · exact absurd hz hl0
  · exact⟨g,cap,cur,hv,r⟩
 have c1:w.drew.cell? ⟨b,1,none⟩=some (.slice (some ⟨g,0,none⟩) l.length cap):=by
  have:w.drew.heap[b]?=some (.cells #[p,.slice (some ⟨g,0,none⟩) l.length cap,.bool m,.bool f] 65 (0,0)):=hbk
  rw[Lib.cell_of_heap this];rfl
 have hSD:(Builtin.unsafeSliceData_ #[61] 152 #[.slice (some ⟨g,0,none⟩) l.length cap]).run Tryz.prog w.drew= .ok (.pointer (some ⟨g,0,none⟩)) w.drew:=
  Lib.run_unsafeSliceData_row _ _ _ _ _ _ (by omega)
 have hUS:(Builtin.unsafeString_ #[152,3] 9 #[.pointer (some ⟨g,0,none⟩),.int .i64 l.length]).run Tryz.prog w.drew= .ok (.string ⟨l.toArray⟩) (w.drew.freeze ⟨g,0,none⟩ l.length):=by
  refine Lib.run_unsafeString_row w.drew 152 3 9 5 Tryz.underlying152 (by kernel_rfl) g cur.size (by have hg':w.drew.heap[g]?=some (.cells cur 5 (0,0)):=hg;simp[World.shape?,hg']) l h0 (by omega) (by unfold maxLen at hcm;omega) ?_
  intro j x hx;have:=hown.cells (g:=g) rfl j (.int .u8 x.toNat) (by simp[Lib.byteCells,hx])
  exact this
 go_enter Tryz.func44,Tryz.ntmps44
 go_wp2;go_region
 all_goals (go_wp2;go_ret;exact⟨rfl,Lib.below_freeze (Below.drew (Below.refl B w)) (p:=⟨g,0,none⟩) hbg _⟩)
end Go.Proofs.YtppdfeehhnofaaaGreatDoor
