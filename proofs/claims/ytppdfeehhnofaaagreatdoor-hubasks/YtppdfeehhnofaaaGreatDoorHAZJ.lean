/- What is read is what was written, and nothing else: mathematics. -/
import Derived.Test.YtppdfeehhnofaaaGreatDoorHAZH
import Derived.Test.YtppdfeehhnofaaaGreatDoorHAZI
import Derived.Deep.Cut
import Derived.Deep.QuietTactic
import Derived.BigQuiet
import Derived.Test.YtppdfeehhnofaaaGreatDoorHAZD
import Derived.Test.YtppdfeehhnofaaaGreatDoorHAC
import Derived.Test.YtppdfeehhnofaaaGreatDoorHAZE
import Derived.Deep.RegionHeld3
import Derived.Deep.DeepCutAuto
import Derived.Test.YtppdfeehhnofaaaGreatDoorHAZG
import Derived.Test.YtppdfeehhnofaaaGreatDoorHAQ
import Derived.Test.YtppdfeehhnofaaaGreatDoorHAB
import Derived.Test.YtppdfeehhnofaaaGreatDoorHAG
set_option linter.unusedSimpArgs false
set_option linter.unusedVariables false
namespace Go.Proofs.YtppdfeehhnofaaaGreatDoor
open Go.RowKit

namespace Wr
theorem bind_iff {α β:Type} {p:Ps α} {f:α→Ps β} {l r:List UInt8} {y:β}:bindP p f l=some (y,r)↔ ∃x r',p l=some (x,r')∧f x r'=some (y,r):=by
 unfold bindP;cases h:p l with
 |none=>simp
 |some z=>
  obtain⟨x,r'⟩:=z
  constructor
  · exact fun h=>⟨x,r',rfl,h⟩
  · rintro ⟨a,b,h1,h2⟩
    simp only[Option.some.injEq,Prod.mk.injEq]at h1;obtain⟨rfl,rfl⟩:=h1
    exact h2
theorem pure_iff {α:Type} {x y:α} {l r:List UInt8}:pureP x l=some (y,r)↔x=y∧l=r:=by simp[pureP]
/-- Just what is written so is read. -/
def Rds {α:Type} (p:Ps α) (enc:α→List It) (OK:α→Prop):Prop:= ∀l x r,p l=some (x,r)↔OK x∧l=bytes (enc x)++r
theorem rds_rd {g:Int→Bool} (hg: ∀n,g n=true→wide n):Rds (rdG g) (fun n=>[.n n]) (fun n=>g n=true):=fun l x r=>by
 rw[rdG_iff hg];simp[bytes,It.bytes]
theorem rds_cnt {g:Int→Bool} (hg: ∀n,g n=true→wide n) (m:Int):Rds (cntP g m) (fun n=>[.n n]) (fun n=>g n=true∧0≤n∧n≤m):=fun l x r=>by
 unfold cntP;rw[bind_iff];constructor
 · rintro ⟨n,r',h1,h2⟩
   split at h2
   · rename_i hc
     simp only[Option.some.injEq,Prod.mk.injEq]at h2;obtain⟨rfl,rfl⟩:=h2
     have:=(rds_rd hg l n r').1 h1
     exact⟨⟨this.1,hc⟩,this.2⟩
   · cases h2
 · rintro ⟨⟨h1,h2⟩,h3⟩
   exact⟨x,r,(rds_rd hg l x r).2 ⟨h1,h3⟩,by rw[if_pos h2]⟩
theorem rds_txt {g:Int→Bool} (hg: ∀n,g n=true→wide n) (m:Int):Rds (txtP g m) (fun x=>[.t x]) (fun x=>g x.size=true∧(x.size:Int)≤m):=fun l x r=>by
 unfold txtP;rw[bind_iff];constructor
 · rintro ⟨n,r',h1,h2⟩
   obtain⟨⟨hn1,hn2,hn3⟩,rfl⟩:=(rds_cnt hg m l n r').1 h1
   split at h2
   · rename_i hc
     simp only[Option.some.injEq,Prod.mk.injEq]at h2;obtain⟨rfl,rfl⟩:=h2
     obtain⟨k,rfl⟩: ∃k:Nat,n=k:=⟨n.toNat,by omega⟩
     have hk:k≤r'.length:=by omega
     have hz:(⟨(r'.take k).toArray⟩:ByteArray).size=k:=by rw[Lib.size_eq];simp;omega
     simp only[Int.toNat_natCast];refine⟨by rw[hz];exact⟨hn1,hn3⟩,?_⟩
     simp only[bytes,List.flatMap_cons,List.flatMap_nil,It.bytes,hz,List.append_nil];simp
   · cases h2
 · rintro ⟨⟨h1,h2⟩,rfl⟩
   have hz:x.size=x.data.toList.length:=Lib.size_eq x;refine⟨x.size,x.data.toList++r,(rds_cnt hg m _ _ _).2 ⟨⟨h1,by omega,h2⟩,by simp[bytes,It.bytes]⟩,?_⟩
   rw[if_pos (by rw[List.length_append,←hz];omega)];simp only[Int.toNat_natCast];rw[hz,List.take_left,List.drop_left]
theorem rds_rep {α:Type} {p:Ps α} {enc:α→List It} {OK:α→Prop} (hp:Rds p enc OK): ∀n,Rds (repP p n) (fun xs=>xs.flatMap enc) (fun xs=>xs.length=n∧ ∀x∈xs,OK x)
 |0=>fun l xs r=>by
  rw[show repP p 0=pureP []from rfl,pure_iff];constructor
  · rintro ⟨rfl,rfl⟩;simp[bytes]
  · rintro ⟨⟨h1,_⟩,rfl⟩
    obtain rfl:=List.length_eq_zero_iff.1 h1;simp[bytes]
 |n+1=>fun l xs r=>by
  rw[show repP p (n+1)=bindP p (fun x=>bindP (repP p n) fun xs=>pureP (x::xs))from rfl,bind_iff];simp only[bind_iff,pure_iff];constructor
  · rintro ⟨x,r',h1,ys,r2,h2,rfl,rfl⟩
    obtain⟨a1,rfl⟩:=(hp l x r').1 h1
    obtain⟨⟨b1,b2⟩,rfl⟩:=(rds_rep hp n r' ys r2).1 h2
    refine⟨⟨by simp[b1],fun y hy=>?_⟩,?_⟩
    · rcases List.mem_cons.1 hy with rfl|hy
      · exact a1
      · exact b2 y hy
    · rw[List.flatMap_cons,bytes_app,List.append_assoc]
  · rintro ⟨⟨h1,h2⟩,rfl⟩
    match xs,h1 with
    |x::ys,h1=>
     refine⟨x,bytes (ys.flatMap enc)++r,(hp _ _ _).2 ⟨h2 x (by simp),by rw[List.flatMap_cons,bytes_app,List.append_assoc]⟩,ys,r,(rds_rep hp n _ _ _).2 ⟨⟨by simpa using h1,fun y hy=>h2 y (by simp[hy])⟩,rfl⟩,rfl,rfl⟩
theorem rds_lst {α:Type} {p:Ps α} {enc:α→List It} {OK:α→Prop} {g:Int→Bool} (hg: ∀n,g n=true→wide n) (m:Nat) (hm: ∀n:Nat,n≤m→g n=true) (hp:Rds p enc OK):Rds (lstP g m p) (fun xs=>lst m enc xs) (fun xs=>xs.length≤m∧ ∀x∈xs,OK x):=fun l xs r=>by
 unfold lstP;rw[bind_iff];constructor
 · rintro ⟨n,r',h1,h2⟩
   obtain⟨⟨hn1,hn2,hn3⟩,rfl⟩:=(rds_cnt hg m l n r').1 h1
   obtain⟨⟨b1,b2⟩,rfl⟩:=(rds_rep hp _ r' xs r).1 h2
   have hx:(xs.length:Int)=n:=by omega
   refine⟨⟨by omega,b2⟩,?_⟩
   dsimp only;rw[lst,if_pos (by omega),bytes_cons,←hx];simp[bytes]
 · rintro ⟨⟨h1,h2⟩,rfl⟩
   refine⟨xs.length,bytes (xs.flatMap enc)++r,(rds_cnt hg m _ _ _).2 ⟨⟨hm _ h1,by omega,by omega⟩,?_⟩,(rds_rep hp _ _ _ _).2 ⟨⟨by simp,h2⟩,rfl⟩⟩
   dsimp only;rw[lst,if_pos h1,bytes_cons];simp[bytes]
/-- What may be in a change. -/
structure OkC (g:Int→Bool) (m:Int) (c:Pp.Ch):Prop where
 k:g c.k=true
 b:g c.b=true
 p:g c.p.size=true∧(c.p.size:Int)≤m
 q:g c.q.size=true∧(c.q.size:Int)≤m
 t:g c.t.size=true∧(c.t.size:Int)≤m
theorem rds_ch {g:Int→Bool} (hg: ∀n,g n=true→wide n) (m:Int):Rds (chP g m) chI (OkC g m):=fun l c r=>by
 unfold chP;simp only[bind_iff,pure_iff];constructor
 · rintro ⟨k,r1,h1,p,r2,h2,q,r3,h3,t,r4,h4,b,r5,h5,rfl,rfl⟩
   obtain⟨a1,rfl⟩:=(rds_rd hg _ _ _).1 h1
   obtain⟨a2,rfl⟩:=(rds_txt hg m _ _ _).1 h2
   obtain⟨a3,rfl⟩:=(rds_txt hg m _ _ _).1 h3
   obtain⟨a4,rfl⟩:=(rds_txt hg m _ _ _).1 h4
   obtain⟨a5,rfl⟩:=(rds_rd hg _ _ _).1 h5
   exact⟨⟨a1,a5,a2,a3,a4⟩,by simp[chI,bytes]⟩
 · rintro ⟨⟨a1,a5,a2,a3,a4⟩,rfl⟩
   exact⟨_,_,(rds_rd hg _ c.k (bytes [.t c.p,.t c.q,.t c.t,.n c.b]++r)).2 ⟨a1,by simp[chI,bytes]⟩,_,_,(rds_txt hg m _ c.p (bytes [.t c.q,.t c.t,.n c.b]++r)).2 ⟨a2,by simp[bytes]⟩,_,_,(rds_txt hg m _ c.q (bytes [.t c.t,.n c.b]++r)).2 ⟨a3,by simp[bytes]⟩,_,_,(rds_txt hg m _ c.t (bytes [.n c.b]++r)).2 ⟨a4,by simp[bytes]⟩,_,_,(rds_rd hg _ c.b r).2 ⟨a5,by simp[bytes]⟩,rfl,rfl⟩
structure OkQ (g:Int→Bool) (m:Int) (q:Rq):Prop where
 kind:g q.kind=true
 who:g q.who.size=true∧(q.who.size:Int)≤m
 fo:g q.fo.size=true∧(q.fo.size:Int)≤m
 name:g q.name.size=true∧(q.name.size:Int)≤m
 key:g q.key.size=true∧(q.key.size:Int)≤m
 text:g q.text.size=true∧(q.text.size:Int)≤m
 num:g q.num=true
 off:g q.off=true
 base:g q.base=true
 ch:q.ch.length≤20∧ ∀c∈q.ch,OkC g m c
theorem rds_rq {g:Int→Bool} (hg: ∀n,g n=true→wide n) (hm: ∀n:Nat,n≤20→g n=true) (m:Int):Rds (rqP g m) rqI (OkQ g m):=fun l q r=>by
 have hl:=fun l x r=>rds_lst hg 20 hm (rds_ch hg m) l x r
 unfold rqP;simp only[bind_iff,pure_iff];constructor
 · rintro ⟨k,r1,h1,a,r2,h2,b,r3,h3,c,r4,h4,d,r5,h5,e,r6,h6,x,r7,h7,y,r8,h8,z,r9,h9,cs,r10,h10,rfl,rfl⟩
   obtain⟨a1,rfl⟩:=(rds_rd hg _ _ _).1 h1
   obtain⟨a2,rfl⟩:=(rds_txt hg m _ _ _).1 h2
   obtain⟨a3,rfl⟩:=(rds_txt hg m _ _ _).1 h3
   obtain⟨a4,rfl⟩:=(rds_txt hg m _ _ _).1 h4
   obtain⟨a5,rfl⟩:=(rds_txt hg m _ _ _).1 h5
   obtain⟨a6,rfl⟩:=(rds_txt hg m _ _ _).1 h6
   obtain⟨a7,rfl⟩:=(rds_rd hg _ _ _).1 h7
   obtain⟨a8,rfl⟩:=(rds_rd hg _ _ _).1 h8
   obtain⟨a9,rfl⟩:=(rds_rd hg _ _ _).1 h9
   obtain⟨a10,rfl⟩:=(hl _ _ _).1 h10
   exact⟨⟨a1,a2,a3,a4,a5,a6,a7,a8,a9,a10⟩,by simp[rqI,bytes]⟩
 · rintro ⟨⟨a1,a2,a3,a4,a5,a6,a7,a8,a9,a10⟩,rfl⟩
   obtain⟨k,a,b,c,d,e,x,y,z,cs⟩:=q
   have E:=rfl (a:=bytes (lst 20 chI cs)++r)
   exact⟨_,_,(rds_rd hg _ k (bytes [.t a,.t b,.t c,.t d,.t e,.n x,.n y,.n z]++(bytes (lst 20 chI cs)++r))).2 ⟨a1,by simp[rqI,bytes]⟩,
    _,_,(rds_txt hg m _ a (bytes [.t b,.t c,.t d,.t e,.n x,.n y,.n z]++(bytes (lst 20 chI cs)++r))).2 ⟨a2,by simp[bytes]⟩,
    _,_,(rds_txt hg m _ b (bytes [.t c,.t d,.t e,.n x,.n y,.n z]++(bytes (lst 20 chI cs)++r))).2 ⟨a3,by simp[bytes]⟩,
    _,_,(rds_txt hg m _ c (bytes [.t d,.t e,.n x,.n y,.n z]++(bytes (lst 20 chI cs)++r))).2 ⟨a4,by simp[bytes]⟩,
    _,_,(rds_txt hg m _ d (bytes [.t e,.n x,.n y,.n z]++(bytes (lst 20 chI cs)++r))).2 ⟨a5,by simp[bytes]⟩,
    _,_,(rds_txt hg m _ e (bytes [.n x,.n y,.n z]++(bytes (lst 20 chI cs)++r))).2 ⟨a6,by simp[bytes]⟩,
    _,_,(rds_rd hg _ x (bytes [.n y,.n z]++(bytes (lst 20 chI cs)++r))).2 ⟨a7,by simp[bytes]⟩,
    _,_,(rds_rd hg _ y (bytes [.n z]++(bytes (lst 20 chI cs)++r))).2 ⟨a8,by simp[bytes]⟩,
    _,_,(rds_rd hg _ z (bytes (lst 20 chI cs)++r)).2 ⟨a9,by simp[bytes]⟩,
    _,_,(hl _ cs r).2 ⟨a10,rfl⟩,rfl,rfl⟩
/-! What is written, if it may be. -/
theorem run_ok: ∀(l:List It) (s:Ws),ok l=true→run s l=⟨s.l++bytes l,s.mn,s.fr⟩
 |[],s,_=>by simp[run,bytes]
 |x::l,s,h=>by
  simp only[ok,List.all_cons,Bool.and_eq_true]at h
  have hx:put s x=⟨s.l++x.bytes,s.mn,s.fr⟩:=by
   cases x with
   |n i=>simp only[It.ok]at h;simp[put,num,It.bytes,h.1]
   |t x=>
    simp only[It.ok,decide_eq_true_eq]at h;have hn:near (x.size:Int)=true:=by rw[near_iff];omega
    simp only[put,txt];rw[if_neg (by omega)];simp[num,It.bytes,hn]
   |big=>simp[It.ok]at h
  rw[run_cons,hx,run_ok l _ h.2,bytes_cons];simp
theorem put_bad (s:Ws) (x:It):(s.mn=true∨s.fr=true∨x.ok=false)→((put s x).mn=true∨(put s x).fr=true):=by
 intro h;cases x with
 |n i=>simp only[put,num,It.ok]at h⊢;rcases h with h|h|h<;>simp[h]
 |t x=>
  simp only[put,txt,It.ok]at h⊢;split
  · simp[much]
  · rename_i hx
    simp only[num];rcases h with h|h|h
    · simp[h]
    · simp[h]
    · simp at h;omega
 |big=>simp[put,much]
theorem run_bad: ∀(l:List It) (s:Ws),(s.mn=true∨s.fr=true∨ok l=false)→((run s l).mn=true∨(run s l).fr=true)
 |[],s,h=>by simpa[ok,run]using h
 |x::l,s,h=>by
  rw[run_cons];refine run_bad l _ ?_
  by_cases hx:s.mn=true∨s.fr=true∨x.ok=false
  · rcases put_bad s x hx with h|h<;>simp[h]
  · simp only[not_or,Bool.not_eq_false,Bool.not_eq_true]at hx
    simp only[ok,List.all_cons,hx.1,hx.2.1,hx.2.2,Bool.true_and]at h;exact Or.inr (Or.inr (by simpa[ok]using h))
theorem fin_ok {l:List It} (h:ok l=true):fin (run e0 l)=(⟨(bytes l).toArray⟩,0):=by
 rw[run_ok l _ h];simp[fin,e0]
theorem fin_bad {l:List It} (h:ok l=false):(fin (run e0 l)).2≠0∧(fin (run e0 l)).1=⟨#[]⟩:=by
 rcases run_bad l e0 (Or.inr (Or.inr h))with h|h
 · unfold fin;rw[if_pos h];exact⟨by decide,rfl⟩
 · unfold fin;split
   · exact⟨by decide,rfl⟩
   · exact⟨by decide,rfl⟩
theorem ok_app (a b:List It):ok (a++b)=(ok a && ok b):=by simp[ok]
theorem ok_lst {α:Type} (m:Nat) (hm:m≤1000) (enc:α→List It) (xs:List α):ok (lst m enc xs)=true↔xs.length≤m∧ ∀x∈xs,ok (enc x)=true:=by
 unfold lst;split
 · rename_i h
   have hn:near (xs.length:Int)=true:=by rw[near_iff];omega
   simp only[ok,List.all_cons,It.ok,hn,Bool.true_and,h,true_and,List.all_flatMap,List.all_eq_true]
 · rename_i h;simp[ok,It.ok,h]
theorem ok_ch (c:Pp.Ch):ok (chI c)=true↔OkC gN 1000 c:=by
 have hs: ∀x:ByteArray,x.size≤1000↔gN x.size=true∧(x.size:Int)≤1000:=fun x=>by
  rw[gN,near_iff];omega
 simp only[ok,chI,List.all_cons,List.all_nil,It.ok,Bool.and_eq_true,decide_eq_true_eq,Bool.and_true,hs];constructor
 · rintro ⟨h1,h2,h3,h4,h5⟩;exact⟨h1,h5,h2,h3,h4⟩
 · rintro ⟨h1,h5,h2,h3,h4⟩;exact⟨h1,h2,h3,h4,h5⟩
theorem ok_rq (q:Rq):ok (rqI q)=true↔OkQ gN 1000 q:=by
 have hs: ∀x:ByteArray,x.size≤1000↔gN x.size=true∧(x.size:Int)≤1000:=fun x=>by
  rw[gN,near_iff];omega
 rw[rqI,ok_app,Bool.and_eq_true,ok_lst 20 (by omega)];simp only[ok_ch];simp only[ok,List.all_cons,List.all_nil,It.ok,Bool.and_eq_true,decide_eq_true_eq,Bool.and_true,hs];constructor
 · rintro ⟨⟨h1,h2,h3,h4,h5,h6,h7,h8,h9⟩,h10⟩;exact⟨h1,h2,h3,h4,h5,h6,h7,h8,h9,h10⟩
 · rintro ⟨h1,h2,h3,h4,h5,h6,h7,h8,h9,h10⟩;exact⟨⟨h1,h2,h3,h4,h5,h6,h7,h8,h9⟩,h10⟩
theorem gN_small: ∀n:Nat,n≤60→gN n=true:=fun n h=>by rw[gN,near_iff];omega
end Wr
end Go.Proofs.YtppdfeehhnofaaaGreatDoor
namespace Go.Proofs.YtppdfeehhnofaaaGreatDoor
open Go.RowKit

namespace Wr
def enP (g:Int→Bool) (m:Int):Ps En:=bindP (txtP g m) fun p=>bindP (yesP g) fun f=>bindP (txtP g m) fun t=>bindP (rdG g) fun v=>pureP ⟨p,f,t,v⟩
def coP (g:Int→Bool) (m:Int):Ps Co:=bindP (rdG g) fun n=>bindP (txtP g m) fun k=>bindP (lstP g 20 (chP g m)) fun cs=>pureP ⟨n,k,cs⟩
def pgP (g:Int→Bool) (m:Int):Ps Pg:=bindP (yesP g) fun r=>bindP (lstP g 60 (enP g m)) fun t=>bindP (lstP g 10 (coP g m)) fun c=>bindP (rdG g) fun u=>bindP (yesP g) fun o=>pureP ⟨r,t,c,u,o⟩
def anP (g:Int→Bool) (m:Int):Ps An:=bindP (rdG g) fun e=>bindP (rdG g) fun n=>bindP (pgP g m) fun p=>pureP ⟨e,n,p⟩
theorem shr_en (g:Int→Bool) (m:Int):Shr (enP g m):=shr_bind (shr_txt g m) fun _=>shr_bind (shr_yes g) fun _=>shr_bind (shr_txt g m) fun _=>shr_bind (shr_rd g) fun _=>shr_pure _
theorem shr_co (g:Int→Bool) (m:Int):Shr (coP g m):=shr_bind (shr_rd g) fun _=>shr_bind (shr_txt g m) fun _=>shr_bind (shr_lst _ _ (shr_ch _ _)) fun _=>shr_pure _
theorem shr_pg (g:Int→Bool) (m:Int):Shr (pgP g m):=shr_bind (shr_yes g) fun _=>shr_bind (shr_lst _ _ (shr_en _ _)) fun _=>shr_bind (shr_lst _ _ (shr_co _ _)) fun _=>shr_bind (shr_rd g) fun _=>shr_bind (shr_yes g) fun _=>shr_pure _
end Wr
set_option maxHeartbeats 1000000 in
theorem ryes_any {b:Nat} {l:List UInt8} {w:World} (h:Rd b l w) (hs:l.length≤MaxL) (h6:5<b) (hv:VarsW w):
    Calls Tryz.prog 57 #[.pointer (some ⟨b,0,none⟩)] w fun e w'=>RdPost b (Wr.yesP Wr.gN l) (fun x v _=>v= .bool x) e w'∧w.grownBy w' (some b):=by
 cases hc:Wr.cntP Wr.gN 1 l with
 |none=>
  have HK:=hid (rcnt_no h hs h6 hv hc);have HN:=hid (show Wr.yesP Wr.gN l=none from Wr.bind_none hc);clear h hv hc;go_enter Tryz.func57,Tryz.ntmps57
  go_wp2_with fail;refine HK.out.mono ?_
  rintro e w1 ⟨rfl,hb1⟩;exact bodyPost_panic rfl ⟨RdPost.no HN.out rfl,hb1⟩
 |some z=>
  obtain⟨n,r⟩:=z
  have HK:=hid (rcnt_ok h hs h6 hv hc);have HN:=hid (show Wr.yesP Wr.gN l=some (decide (n=1),r)from Wr.bind_some hc);clear h hv hc;go_enter Tryz.func57,Tryz.ntmps57
  go_wp2_with fail;refine HK.out.mono ?_
  rintro e w1 ⟨rfl,hr1,hb1⟩;have HR:=hid hr1;clear hr1;go_wp2_with fail;go_ret;exact⟨RdPost.yes _ HN.out rfl (by by_cases h1:n=1<;>simp[h1]) HR.out,hb1⟩
/-- A reader at work on a record of its own, beside a box with its address. -/
structure R5 (w:World) (b g C R:Nat) (l:List UInt8) (cs zs:List Value) (W:World):Prop where
 r4:R4 w b C R l cs zs W
 box:RBox W b g
 gC:g≠C
theorem R5.call {w W W':World} {b g C R:Nat} {l r:List UInt8} {cs zs:List Value} (h:R5 w b g C R l cs zs W) (hn:W.grownBy W' (some b)) (hr:Rd b r W'):R5 w b g C R r cs zs W':=⟨h.r4.call hn hr,h.box.nb hn,h.gC⟩
theorem R5.set {w W:World} {b g C R:Nat} {l:List UInt8} {cs zs:List Value} (h:R5 w b g C R l cs zs W) (i:Nat) (v:Value):R5 w b g C R l (cs.set i v) zs (W.setCell ⟨C,i,none⟩ v):=⟨h.r4.set i v,h.box.nb' (nb_set W C i v) h.gC,h.gC⟩
theorem r5_new {w:World} {b g:Nat} {l:List UInt8} (cs zs:List Value) (T U:TypeId) (h:Rd b l w) (hg:RBox w b g) (h6:5<b) (hv:VarsW w):R5 w b g (w.heap.size+1) w.heap.size l cs zs ((w.alloc (.cells zs.toArray T)).alloc (.cells cs.toArray U)):=by
 have hgl:=heap_lt hg.1;have hb:Below w.heap.size w ((w.alloc (.cells zs.toArray T)).alloc (.cells cs.toArray U)):=(below_alloc w _).trans ((below_alloc _ _).mono (by simp));exact⟨r4_new cs zs T U h h6 hv,hg.below hb,by omega⟩
abbrev zen:List Value:=[.string ⟨#[]⟩,.bool false,.string ⟨#[]⟩,.int .i64 0]
set_option maxHeartbeats 4000000 in
set_option maxRecDepth 8000 in
theorem ren1_any (b g:Nat) (l:List UInt8) (w:World) (h:Rd b l w) (hg:RBox w b g) (hs:l.length≤MaxL) (h6:5<b) (hv:VarsW w):
    Calls Tryz.prog 59 #[.pointer (some ⟨g,0,none⟩)] w fun e w'=>RdPost b (Wr.enP Wr.gN 1000 l) (fun x v _=>v= .agg #[.string x.path,.bool x.folder,.string x.text,.int .i64 x.ver]) e w'∧w.grownBy w' (some b):=by
 have HE0:=hid (show Wr.enP Wr.gN 1000 l=Wr.enP Wr.gN 1000 l from rfl);conv at HE0=>arg 1;rhs;unfold Wr.enP
 generalize hP:Wr.enP Wr.gN 1000 l=res at*;clear hP;have hbl:=h.lt;have hgl:=heap_lt hg.1;have H0:=hid (r5_new zen zen 128 128 h hg h6 hv);obtain⟨w0,hw0⟩: ∃w0,w0=(w.alloc (.cells zen.toArray 128)).alloc (.cells zen.toArray 128):=⟨_,rfl⟩
 rw[←hw0]at H0;have HW0:=hid (show(w.alloc (.cells zen.toArray 128)).alloc (.cells zen.toArray 128)=w0 from hw0.symm);have hg1: ¬g=w.heap.size:=by omega
 have hg2: ¬g=w.heap.size+1:=by omega
 have hg3: ¬w.heap.size+1=g:=by omega
 clear hw0 hg;have PN:=hid (show∀(a:Act) (W:World),a.defers=[]→w.grownBy W (some b)→res=none→bodyPost Tryz.prog Tryz.f59 (fun e w'=>RdPost b res (fun x v _=>v= .agg #[.string x.path,.bool x.folder,.string x.text,.int .i64 x.ver]) e w'∧w.grownBy w' (some b)) (.panic [{v:= .iface 33 (.int .i64 1),recovered:=false}]) a W from fun a W hd hw hr=>bodyPost_panic hd ⟨RdPost.no hr rfl,hw⟩);clear hv h;go_enter Tryz.func59,Tryz.ntmps59
 go_upto_region 2 with fail;rw[HW0.out];clear HW0;have ga:=H0.out.box.cell;go_wp2_with fail;refine(rtxt_any H0.out.r4.rd (by omega) h6 H0.out.r4.v).mono ?_
 rintro e w1 ⟨hp,hn1⟩;cases hq:Wr.txtP Wr.gN 1000 l with
 |none=>
  rw[hq]at hp;cases hp
  exact PN.out _ _ rfl (nb_tr H0.out.r4.fr hn1) (HE0.out.trans (Wr.bind_none hq))
 |some z=>
 obtain⟨p,r1⟩:=z
 rw[hq]at hp;obtain⟨_,rfl,rfl,hr1⟩:=hp
 have HE1:=hid (HE0.out.trans (Wr.bind_some hq));have s1:=Wr.shr_txt _ _ _ _ _ hq;have H1:=hid (H0.out.call hn1 hr1);clear ga;clear hq HE0;have c0:=H1.out.r4.cC.cell 0 rfl;have f0:=H1.out.r4.cC.fr 0;have gw:=H1.out.box.cell;obtain⟨u1,hu1⟩: ∃W,W=w1.setCell ⟨w.heap.size+1,0,none⟩ (.string p):=⟨_,rfl⟩
 have HU1:=hid (H1.out.set 0 (.string p));rw[←hu1]at HU1;go_upto_region 3 with fail;rw[←hu1];have HX1:=hid hu1;clear hu1 c0 f0 gw;have ga:=HU1.out.box.cell;go_wp2_with fail;refine(ryes_any HU1.out.r4.rd (by omega) h6 HU1.out.r4.v).mono ?_
 rintro e w2 ⟨hp,hn2⟩;cases hq:Wr.yesP Wr.gN r1 with
 |none=>
  rw[hq]at hp;cases hp
  exact PN.out _ _ rfl (nb_tr HU1.out.r4.fr hn2) (HE1.out.trans (Wr.bind_none hq))
 |some z=>
 obtain⟨f,r2⟩:=z
 rw[hq]at hp;obtain⟨_,rfl,rfl,hr2⟩:=hp
 have HE2:=hid (HE1.out.trans (Wr.bind_some hq));have s2:=Wr.shr_yes _ _ _ _ hq;have H2:=hid (HU1.out.call hn2 hr2);clear ga;clear hq HE1;have c1:=H2.out.r4.cC.cell 1 rfl;have f1:=H2.out.r4.cC.fr 1;have gw:=H2.out.box.cell;obtain⟨u2,hu2⟩: ∃W,W=w2.setCell ⟨w.heap.size+1,1,none⟩ (.bool f):=⟨_,rfl⟩
 have HU2:=hid (H2.out.set 1 (.bool f));rw[←hu2]at HU2;go_upto_region 4 with fail;rw[←hu2];have HX2:=hid hu2;clear hu2 c1 f1 gw;have ga:=HU2.out.box.cell;go_wp2_with fail;refine(rtxt_any HU2.out.r4.rd (by omega) h6 HU2.out.r4.v).mono ?_
 rintro e w3 ⟨hp,hn3⟩;cases hq:Wr.txtP Wr.gN 1000 r2 with
 |none=>
  rw[hq]at hp;cases hp
  exact PN.out _ _ rfl (nb_tr HU2.out.r4.fr hn3) (HE2.out.trans (Wr.bind_none hq))
 |some z=>
 obtain⟨t,r3⟩:=z
 rw[hq]at hp;obtain⟨_,rfl,rfl,hr3⟩:=hp
 have HE3:=hid (HE2.out.trans (Wr.bind_some hq));have s3:=Wr.shr_txt _ _ _ _ _ hq;have H3:=hid (HU2.out.call hn3 hr3);clear ga;clear hq HE2;have c2:=H3.out.r4.cC.cell 2 rfl;have f2:=H3.out.r4.cC.fr 2;have gw:=H3.out.box.cell;obtain⟨u3,hu3⟩: ∃W,W=w3.setCell ⟨w.heap.size+1,2,none⟩ (.string t):=⟨_,rfl⟩
 have HU3:=hid (H3.out.set 2 (.string t));rw[←hu3]at HU3;go_upto_region 5 with fail;rw[←hu3];have HX3:=hid hu3;clear hu3 c2 f2 gw;have ga:=HU3.out.box.cell;go_wp2_with fail;refine(rnum_any HU3.out.r4.rd (by omega) h6 HU3.out.r4.v).mono ?_
 rintro e w4 ⟨hp,hn4⟩;cases hq:Wr.rdG Wr.gN r3 with
 |none=>
  rw[hq]at hp;cases hp
  exact PN.out _ _ rfl (nb_tr HU3.out.r4.fr hn4) (HE3.out.trans (Wr.bind_none hq))
 |some z=>
 obtain⟨vr,r4⟩:=z
 rw[hq]at hp;obtain⟨_,rfl,rfl,hr4⟩:=hp
 have HE4:=hid (HE3.out.trans (Wr.bind_some hq));have s4:=Wr.shr_rd _ _ _ _ hq;have H4:=hid (HU3.out.call hn4 hr4);clear ga;clear hq HE3;have c3:=H4.out.r4.cC.cell 3 rfl;have f3:=H4.out.r4.cC.fr 3;have y0:=H4.out.r4.cC.cell 0 rfl;have y1:=H4.out.r4.cC.cell 1 rfl;have y2:=H4.out.r4.cC.cell 2 rfl;have v0:=H4.out.r4.cR.cell 0 rfl;have x0:=H4.out.r4.cR.fr 0;have v1:=H4.out.r4.cR.cell 1 rfl;have x1:=H4.out.r4.cR.fr 1;have v2:=H4.out.r4.cR.cell 2 rfl;have x2:=H4.out.r4.cR.fr 2;have v3:=H4.out.r4.cR.cell 3 rfl;have x3:=H4.out.r4.cR.fr 3;have n3: ¬w.heap.size=w.heap.size+1:=by omega
 have n4: ¬w.heap.size+1=w.heap.size:=by omega
 go_wp2_with fail;have nR:b≠w.heap.size:=by omega
 have nC:b≠w.heap.size+1:=by omega
 have l1:w.heap.size≤w.heap.size+1:=by omega
 have l0:w.heap.size≤w.heap.size:=by omega
 refine bodyPost_ret (v:= .agg #[.string p,.bool f,.string t,.int .i64 vr]) (by simp[results,Tryz.results59,go_sem,n3,n4,v0,v1,v2,v3]) rfl ⟨RdPost.yes _ HE4.out rfl ?_ ?_,?_⟩
 · rfl
 · exact(H4.out.r4.rd.set' nC _|>.set' nR _|>.set' nR _|>.set' nR _|>.set' nR _)
 · exact(nb_new (nb_new (nb_new (nb_new (nb_new H4.out.r4.fr l1 _) l0 _) l0 _) l0 _) l0 _)
end Go.Proofs.YtppdfeehhnofaaaGreatDoor
namespace Go.Proofs.YtppdfeehhnofaaaGreatDoor
open Go.RowKit

namespace Wr
theorem whole_iff {α:Type} {p:Ps α} {enc:α→List It} {OK:α→Prop} (hp:Rds p enc OK) {l:List UInt8} {x:α}:whole (p l)=some x↔OK x∧l=bytes (enc x):=by
 have h1:=hp l x [];rw[List.append_nil]at h1;rw[←h1];cases h:p l with
 |none=>simp[whole]
 |some z=>
  obtain⟨y,r⟩:=z
  cases r with
  |nil=>simp[whole]
  |cons a r=>simp[whole]
theorem whole_rq {l:List UInt8} {q:Rq}:whole (rqP gN 1000 l)=some q↔ok (rqI q)=true∧l=bytes (rqI q):=by
 rw[ok_rq];exact whole_iff (rds_rq gN_wide (fun n h=>gN_small n (by omega)) 1000)
def q0:Rq:=⟨2,⟨#[97]⟩,⟨#[102]⟩,⟨#[]⟩,⟨#[]⟩,⟨#[]⟩,0,0,0,[]⟩
def t0:List UInt8:=[50,59,49,59,97,49,59,102,48,59,48,59,48,59,48,59,48,59,48,59,48,59]
theorem itoa_small (u:Nat) (h:u<10):Lib.itoa u=[UInt8.ofNat (48+u)]:=by rw[Lib.itoa_nonneg,Lib.decDigits,dif_pos h]
theorem i0:Lib.itoa 0=[48]:=itoa_small 0 (by omega)
theorem i1:Lib.itoa 1=[49]:=itoa_small 1 (by omega)
theorem i2:Lib.itoa 2=[50]:=itoa_small 2 (by omega)
theorem bytes_q0:bytes (rqI q0)=t0:=by
 have s0:(⟨#[]⟩:ByteArray).size=0:=rfl;have s1:(⟨#[97]⟩:ByteArray).size=1:=rfl;have s2:(⟨#[102]⟩:ByteArray).size=1:=rfl;simp[rqI,q0,lst,bytes,It.bytes,i0,i1,i2,s0,s1,s2,t0]
theorem ok_q0:ok (rqI q0)=true:=by decide
theorem fin_q0:fin (run e0 (rqI q0))=(⟨t0.toArray⟩,0):=by rw[fin_ok ok_q0,bytes_q0]
theorem whole_q0:whole (rqP gN 1000 t0)=some q0:=whole_rq.2 ⟨ok_q0,bytes_q0.symm⟩
end Wr
theorem lies_q0 (w:World):LiesQ w (.agg #[.int .i64 2,.string ⟨#[97]⟩,.string ⟨#[102]⟩,.string ⟨#[]⟩,.string ⟨#[]⟩,.string ⟨#[]⟩,.int .i64 0,.int .i64 0,.int .i64 0,.slice none 0 0]) Wr.q0:=
 ⟨.slice none 0 0,rfl,none,0,rfl,Nat.le_refl _,by simp[Wr.q0],fun i hi=>absurd hi (by simp[Wr.q0])⟩
theorem wf_q0:WfQ Wr.q0:=by
 refine⟨?_,?_,?_,?_,?_,?_,?_,?_,?_,?_⟩
 · exact⟨by decide,by decide⟩
 · exact⟨by decide,by decide⟩
 · exact⟨by decide,by decide⟩
 · exact⟨by decide,by decide⟩
 · show(1:Int)≤_;decide
 · show(1:Int)≤_;decide
 · show(0:Int)≤_;decide
 · show(0:Int)≤_;decide
 · show(0:Int)≤_;decide
 · intro c hc;exact absurd hc (by simp[Wr.q0])
set_option maxHeartbeats 1000000 in
theorem wireBegun_yes (w:World) (h6:5<w.heap.size) (hv:VarsW w):
    Calls Tryz.prog 5 #[] w fun e w'=>e= .returned (.bool true)∧Below w.heap.size w w':=by
 have HA:=hid (ask_any Wr.q0 _ w (lies_q0 w) wf_q0 (by omega) hv.pow);rw[Wr.fin_q0]at HA;have HB:=hid (fun(W:World) (hW:Below w.heap.size w W)=>asked_any ⟨Wr.t0.toArray⟩ W (by decide) (by have:=hW.size;omega) (hv.belowB h6 hW));rw[show(⟨Wr.t0.toArray⟩:ByteArray).data.toList=Wr.t0 from rfl,Wr.whole_q0]at HB;clear hv;go_enter Tryz.func5,Tryz.ntmps5
 go_wp2_with fail;refine HA.out.mono ?_
 rintro e w1 ⟨rfl,hb1⟩;clear HA;go_wp2_with fail;refine(HB.out w1 hb1).mono ?_
 rintro e w2 ⟨⟨v,rfl,vc,rfl,hrow⟩,hb2⟩;obtain⟨av,lv,cv,rfl⟩:=hrow.shape
 clear hrow HB;have hB2:=hb1.trans (hb2.mono hb1.size);clear hb1 hb2;have e1:(Wr.q0.fo.toList==(⟨#[102]⟩:ByteArray).toList)=true:=by simp[Wr.q0]
 have e2:((⟨Wr.t0.toArray⟩:ByteArray).toList==(⟨#[50,59,49,59,97,49,59,102,48,59,48,59,48,59,48,59,48,59,48,59,48,59]⟩:ByteArray).toList)=true:=by simp[Wr.t0]
 have e3:((⟨Wr.t0.toArray⟩:ByteArray).toList==[50,59,49,59,97,49,59,102,48,59,48,59,48,59,48,59,48,59,48,59,48,59])=true:=by simp[Wr.t0]
 have e4:Wr.q0.fo.toList=[102]:=by simp[Wr.q0]
 have e5:(Wr.q0.fo.toList==[102])=true:=by simp[Wr.q0]
 clear e1 e2;generalize Wr.q0.fo=fo at*;generalize (⟨Wr.t0.toArray⟩:ByteArray)=tt at*;go_wp2_with fail;go_ret;exact⟨rfl,hB2.alloc hB2.size _⟩
end Go.Proofs.YtppdfeehhnofaaaGreatDoor
namespace Go.Proofs.YtppdfeehhnofaaaGreatDoor
open Go.RowKit

namespace Wr
end Wr
theorem RowV.liesC {B:Nat} {T:TypeId} {cs:List Pp.Ch} {v:Value} {W:World} (h:RowV B T 5 VCh cs v W) (hn:cs.length≤1000000000000000):LiesC W v cs:=by
 obtain⟨Z,h1,h2,h3⟩:=h
 rw[liesR_ch]
 have e:Z.map (·.2)=cs.map Pp.chC:=by
  rw[←h1,List.map_map];exact List.map_congr_left (fun z hz=>(h3 z hz).1)
 have hl:Z.length=(cs.map Pp.chC).length:=by rw[←e];simp
 rw[e,hl]at h2
 exact liesR_own h2 (by simpa using hn) (fun r hr=>by
  rw[←e]at hr;obtain⟨z,hz,rfl⟩:=List.mem_map.1 hr
  exact(h3 z hz).2)
end Go.Proofs.YtppdfeehhnofaaaGreatDoor
namespace Go.Proofs.YtppdfeehhnofaaaGreatDoor
open Go.RowKit

namespace Wr
structure OkE (g:Int→Bool) (m:Int) (e:En):Prop where
 p:g e.path.size=true∧(e.path.size:Int)≤m
 t:g e.text.size=true∧(e.text.size:Int)≤m
 v:g e.ver=true
structure OkO (g:Int→Bool) (m:Int) (c:Co):Prop where
 n:g c.nu=true
 k:g c.ke.size=true∧(c.ke.size:Int)≤m
 c:c.ch.length≤20∧ ∀x∈c.ch,OkC g m x
structure OkP (g:Int→Bool) (m:Int) (p:Pg):Prop where
 t:p.tree.length≤60∧ ∀x∈p.tree,OkE g m x
 o:p.cos.length≤10∧ ∀x∈p.cos,OkO g m x
 u:g p.cur=true
structure OkA (g:Int→Bool) (m:Int) (a:An):Prop where
 e:g a.err=true
 n:g a.num=true
 p:OkP g m a.pg
theorem rds_yes {g:Int→Bool} (hg: ∀n,g n=true→wide n) (h0:g 0=true) (h1:g 1=true):Rds (yesP g) (fun b=>[yn b]) (fun _=>True):=fun l b r=>by
 unfold yesP;rw[bind_iff];constructor
 · rintro ⟨n,r',hc,hp⟩
   rw[pure_iff]at hp;obtain⟨rfl,rfl⟩:=hp
   obtain⟨⟨_,hn0,hn1⟩,rfl⟩:=(rds_cnt hg 1 l n r').1 hc
   have:n=0∨n=1:=by omega
   rcases this with rfl|rfl<;>exact⟨trivial,rfl⟩
 · rintro ⟨_,rfl⟩
   cases b with
   |true=>exact⟨1,r,(rds_cnt hg 1 _ _ _).2 ⟨⟨h1,by decide,by decide⟩,rfl⟩,rfl⟩
   |false=>exact⟨0,r,(rds_cnt hg 1 _ _ _).2 ⟨⟨h0,by decide,by decide⟩,rfl⟩,rfl⟩
theorem rds_en {g:Int→Bool} (hg: ∀n,g n=true→wide n) (hm: ∀n:Nat,n≤60→g n=true) (m:Int):Rds (enP g m) enI (OkE g m):=fun l c r=>by
 have hy:=fun l x r=>rds_yes hg (hm 0 (by omega)) (hm 1 (by omega)) l x r
 unfold enP;simp only[bind_iff,pure_iff];constructor
 · rintro ⟨p,r1,h1,f,r2,h2,t,r3,h3,v,r4,h4,rfl,rfl⟩
   obtain⟨a1,rfl⟩:=(rds_txt hg m _ _ _).1 h1
   obtain⟨_,rfl⟩:=(hy _ _ _).1 h2
   obtain⟨a3,rfl⟩:=(rds_txt hg m _ _ _).1 h3
   obtain⟨a4,rfl⟩:=(rds_rd hg _ _ _).1 h4
   exact⟨⟨a1,a3,a4⟩,by simp[enI,bytes]⟩
 · rintro ⟨⟨a1,a3,a4⟩,rfl⟩
   exact⟨_,_,(rds_txt hg m _ c.path (bytes [yn c.folder,.t c.text,.n c.ver]++r)).2 ⟨a1,by simp[enI,bytes]⟩,_,_,(hy _ c.folder (bytes [.t c.text,.n c.ver]++r)).2 ⟨trivial,by simp[bytes]⟩,_,_,(rds_txt hg m _ c.text (bytes [.n c.ver]++r)).2 ⟨a3,by simp[bytes]⟩,_,_,(rds_rd hg _ c.ver r).2 ⟨a4,by simp[bytes]⟩,rfl,rfl⟩
theorem rds_co {g:Int→Bool} (hg: ∀n,g n=true→wide n) (hm: ∀n:Nat,n≤60→g n=true) (m:Int):Rds (coP g m) coI (OkO g m):=fun l c r=>by
 have hl:=fun l x r=>rds_lst hg 20 (fun n hn=>hm n (by omega)) (rds_ch hg m) l x r
 unfold coP;simp only[bind_iff,pure_iff];constructor
 · rintro ⟨n,r1,h1,k,r2,h2,cs,r3,h3,rfl,rfl⟩
   obtain⟨a1,rfl⟩:=(rds_rd hg _ _ _).1 h1
   obtain⟨a2,rfl⟩:=(rds_txt hg m _ _ _).1 h2
   obtain⟨a3,rfl⟩:=(hl _ _ _).1 h3
   exact⟨⟨a1,a2,a3⟩,by simp[coI,bytes]⟩
 · rintro ⟨⟨a1,a2,a3⟩,rfl⟩
   exact⟨_,_,(rds_rd hg _ c.nu (bytes [.t c.ke]++(bytes (lst 20 chI c.ch)++r))).2 ⟨a1,by simp[coI,bytes]⟩,_,_,(rds_txt hg m _ c.ke (bytes (lst 20 chI c.ch)++r)).2 ⟨a2,by simp[bytes]⟩,_,_,(hl _ c.ch r).2 ⟨a3,rfl⟩,rfl,rfl⟩
theorem rds_pg {g:Int→Bool} (hg: ∀n,g n=true→wide n) (hm: ∀n:Nat,n≤60→g n=true) (m:Int):Rds (pgP g m) pgI (OkP g m):=fun l p r=>by
 have hy:=fun l x r=>rds_yes hg (hm 0 (by omega)) (hm 1 (by omega)) l x r
 have ht:=fun l x r=>rds_lst hg 60 (fun n hn=>hm n (by omega)) (rds_en hg hm m) l x r
 have ho:=fun l x r=>rds_lst hg 10 (fun n hn=>hm n (by omega)) (rds_co hg hm m) l x r
 unfold pgP;simp only[bind_iff,pure_iff];constructor
 · rintro ⟨x,r1,h1,t,r2,h2,o,r3,h3,u,r4,h4,y,r5,h5,rfl,rfl⟩
   obtain⟨_,rfl⟩:=(hy _ _ _).1 h1
   obtain⟨a2,rfl⟩:=(ht _ _ _).1 h2
   obtain⟨a3,rfl⟩:=(ho _ _ _).1 h3
   obtain⟨a4,rfl⟩:=(rds_rd hg _ _ _).1 h4
   obtain⟨_,rfl⟩:=(hy _ _ _).1 h5
   exact⟨⟨a2,a3,a4⟩,by simp[pgI,bytes]⟩
 · rintro ⟨⟨a2,a3,a4⟩,rfl⟩
   obtain⟨x,t,o,u,y⟩:=p
   exact⟨_,_,(hy _ x (bytes (lst 60 enI t)++(bytes (lst 10 coI o)++(bytes [.n u,yn y]++r)))).2 ⟨trivial,by simp[pgI,bytes]⟩,
    _,_,(ht _ t (bytes (lst 10 coI o)++(bytes [.n u,yn y]++r))).2 ⟨a2,rfl⟩,
    _,_,(ho _ o (bytes [.n u,yn y]++r)).2 ⟨a3,rfl⟩,
    _,_,(rds_rd hg _ u (bytes [yn y]++r)).2 ⟨a4,by simp[bytes]⟩,
    _,_,(hy _ y r).2 ⟨trivial,by simp[bytes]⟩,rfl,rfl⟩
theorem rds_an {g:Int→Bool} (hg: ∀n,g n=true→wide n) (hm: ∀n:Nat,n≤60→g n=true) (m:Int):Rds (anP g m) anI (OkA g m):=fun l a r=>by
 have hp:=fun l x r=>rds_pg hg hm m l x r
 unfold anP;simp only[bind_iff,pure_iff];constructor
 · rintro ⟨e,r1,h1,n,r2,h2,p,r3,h3,rfl,rfl⟩
   obtain⟨a1,rfl⟩:=(rds_rd hg _ _ _).1 h1
   obtain⟨a2,rfl⟩:=(rds_rd hg _ _ _).1 h2
   obtain⟨a3,rfl⟩:=(hp _ _ _).1 h3
   exact⟨⟨a1,a2,a3⟩,by simp[anI,bytes]⟩
 · rintro ⟨⟨a1,a2,a3⟩,rfl⟩
   obtain⟨e,n,p⟩:=a
   exact⟨_,_,(rds_rd hg _ e (bytes [.n n]++(bytes (pgI p)++r))).2 ⟨a1,by simp[anI,bytes]⟩,_,_,(rds_rd hg _ n (bytes (pgI p)++r)).2 ⟨a2,by simp[bytes]⟩,_,_,(hp _ p r).2 ⟨a3,rfl⟩,rfl,rfl⟩
theorem ok_sz (x:ByteArray):x.size≤1000↔gN x.size=true∧(x.size:Int)≤1000:=by rw[gN,near_iff];omega
theorem ok_yn (b:Bool):(yn b).ok=true:=by cases b<;>decide
theorem ok_en (e:En):ok (enI e)=true↔OkE gN 1000 e:=by
 have hs:=ok_sz;have hy:=ok_yn e.folder;simp only[ok,enI,List.all_cons,List.all_nil,hy,Bool.true_and];simp only[It.ok,Bool.and_eq_true,decide_eq_true_eq,Bool.and_true,hs];constructor
 · rintro ⟨h1,h2,h3⟩;exact⟨h1,h2,h3⟩
 · rintro ⟨h1,h2,h3⟩;exact⟨h1,h2,h3⟩
theorem ok_co (c:Co):ok (coI c)=true↔OkO gN 1000 c:=by
 have hs:=ok_sz;rw[coI,ok_app,Bool.and_eq_true,ok_lst 20 (by omega)];simp only[ok_ch];simp only[ok,List.all_cons,List.all_nil,It.ok,Bool.and_eq_true,decide_eq_true_eq,Bool.and_true,hs];constructor
 · rintro ⟨⟨h1,h2⟩,h3⟩;exact⟨h1,h2,h3⟩
 · rintro ⟨h1,h2,h3⟩;exact⟨⟨h1,h2⟩,h3⟩
theorem ok_cons (x:It) (l:List It):ok (x::l)=(x.ok && ok l):=rfl
theorem ok_an (a:An):ok (anI a)=true↔OkA gN 1000 a:=by
 rw[anI,pgI,ok_cons,ok_cons,ok_cons,ok_app,ok_app,ok_cons,ok_cons,ok_yn,ok_yn];simp only[Bool.and_eq_true,ok_lst 60 (by omega:60≤1000),ok_lst 10 (by omega:10≤1000),ok_en,ok_co,It.ok,true_and,and_true];constructor
 · rintro ⟨h1,h2,⟨h3,h4⟩,h5⟩;exact⟨h1,h2,⟨h3,h4,(by rw[gN];simpa[ok,It.ok]using h5)⟩⟩
 · rintro ⟨h1,h2,h3,h4,h5⟩;exact⟨h1,h2,⟨h3,h4⟩,(by rw[gN]at h5;simpa[ok,It.ok]using h5)⟩
theorem whole_an {l:List UInt8} {a:An}:whole (anP gN 1000 l)=some a↔ok (anI a)=true∧l=bytes (anI a):=by
 rw[ok_an];exact whole_iff (rds_an gN_wide gN_small 1000)
end Wr
end Go.Proofs.YtppdfeehhnofaaaGreatDoor
namespace Go.Proofs.YtppdfeehhnofaaaGreatDoor
open Go.RowKit

theorem liesQ_of {B:Nat} {q:Rq} {v:Value} {W:World} (h:RqV B q v W) (hn:q.ch.length≤1000000000000000):LiesQ W v q:=by
 obtain⟨vc,rfl,hr⟩:=h
 exact⟨vc,rfl,hr.liesC hn⟩
/-- What was read of a text, as a value that lies there. -/
theorem whq_lies {l:List UInt8} {B:Nat} {e:Ending} {W:World} (h:WhPost (Wr.whole (Wr.rqP Wr.gN 1000 l)) (.agg zrq.toArray) (RqV B) e W):
    ∃a c,e= .returned (.tuple #[.agg #[.int .i64 ((Wr.whole (Wr.rqP Wr.gN 1000 l)).getD zeroQ).kind,.string ((Wr.whole (Wr.rqP Wr.gN 1000 l)).getD zeroQ).who,.string ((Wr.whole (Wr.rqP Wr.gN 1000 l)).getD zeroQ).fo,.string ((Wr.whole (Wr.rqP Wr.gN 1000 l)).getD zeroQ).name,.string ((Wr.whole (Wr.rqP Wr.gN 1000 l)).getD zeroQ).key,.string ((Wr.whole (Wr.rqP Wr.gN 1000 l)).getD zeroQ).text,.int .i64 ((Wr.whole (Wr.rqP Wr.gN 1000 l)).getD zeroQ).num,.int .i64 ((Wr.whole (Wr.rqP Wr.gN 1000 l)).getD zeroQ).off,.int .i64 ((Wr.whole (Wr.rqP Wr.gN 1000 l)).getD zeroQ).base,.slice a ((Wr.whole (Wr.rqP Wr.gN 1000 l)).getD zeroQ).ch.length c],.int .i64 (if(Wr.whole (Wr.rqP Wr.gN 1000 l)).isSome then 0 else 1)])∧LiesC W (.slice a ((Wr.whole (Wr.rqP Wr.gN 1000 l)).getD zeroQ).ch.length c) ((Wr.whole (Wr.rqP Wr.gN 1000 l)).getD zeroQ).ch:=by
 cases hr:Wr.whole (Wr.rqP Wr.gN 1000 l)with
 |none=>
  rw[hr]at h;exact⟨none,0,h,liesC_nil W⟩
 |some q=>
  rw[hr]at h;obtain⟨v,rfl,hq⟩:=h
  have hok:=(Wr.ok_rq q).1 (Wr.whole_rq.1 hr).1;obtain⟨vc,rfl,hL⟩:=liesQ_of hq (by have:=hok.ch.1;omega)
  have hL':=hL;obtain⟨a,c,rfl,_⟩:=hL'
  exact⟨a,c,rfl,hL⟩
end Go.Proofs.YtppdfeehhnofaaaGreatDoor
