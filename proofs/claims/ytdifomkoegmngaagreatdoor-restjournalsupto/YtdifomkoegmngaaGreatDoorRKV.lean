/- What is read is what was written, and nothing else: mathematics. -/
import Derived.Test.YtdifomkoegmngaaGreatDoorRKU
import Derived.Test.YtdifomkoegmngaaGreatDoorRKR
import Derived.Test.YtdifomkoegmngaaGreatDoorRKS
set_option linter.unusedSimpArgs false
set_option linter.unusedVariables false
namespace Go.Proofs.YtdifomkoegmngaaGreatDoor
open Go.RowKit

namespace Wr
theorem bind_iff {α β:Type} {p:Ps α} {f:α→Ps β} {l r:List UInt8} {y:β}:bindP p f l=some (y,r)↔ ∃x r',p l=some (x,r')∧f x r'=some (y,r):=by
 unfold bindP;cases h:p l with
 |none=>simp
 |some z=>
  obtain⟨x,r'⟩:=z
  constructor
  · exact fun h=>⟨x,r',rfl,h⟩
  · rintro ⟨a,b,h1,h2⟩
    simp only[Option.some.injEq,Prod.mk.injEq]at h1;obtain⟨rfl,rfl⟩:=h1
    exact h2
theorem pure_iff {α:Type} {x y:α} {l r:List UInt8}:pureP x l=some (y,r)↔x=y∧l=r:=by simp[pureP]
/-- Just what is written so is read. -/
def Rds {α:Type} (p:Ps α) (enc:α→List It) (OK:α→Prop):Prop:= ∀l x r,p l=some (x,r)↔OK x∧l=bytes (enc x)++r
theorem rds_rd {g:Int→Bool} (hg: ∀n,g n=true→wide n):Rds (rdG g) (fun n=>[.n n]) (fun n=>g n=true):=fun l x r=>by
 rw[rdG_iff hg];simp[bytes,It.bytes]
theorem rds_cnt {g:Int→Bool} (hg: ∀n,g n=true→wide n) (m:Int):Rds (cntP g m) (fun n=>[.n n]) (fun n=>g n=true∧0≤n∧n≤m):=fun l x r=>by
 unfold cntP;rw[bind_iff];constructor
 · rintro ⟨n,r',h1,h2⟩
   split at h2
   · rename_i hc
     simp only[Option.some.injEq,Prod.mk.injEq]at h2;obtain⟨rfl,rfl⟩:=h2
     have:=(rds_rd hg l n r').1 h1
     exact⟨⟨this.1,hc⟩,this.2⟩
   · cases h2
 · rintro ⟨⟨h1,h2⟩,h3⟩
   exact⟨x,r,(rds_rd hg l x r).2 ⟨h1,h3⟩,by rw[if_pos h2]⟩
theorem rds_txt {g:Int→Bool} (hg: ∀n,g n=true→wide n) (m:Int):Rds (txtP g m) (fun x=>[.t x]) (fun x=>g x.size=true∧(x.size:Int)≤m):=fun l x r=>by
 unfold txtP;rw[bind_iff];constructor
 · rintro ⟨n,r',h1,h2⟩
   obtain⟨⟨hn1,hn2,hn3⟩,rfl⟩:=(rds_cnt hg m l n r').1 h1
   split at h2
   · rename_i hc
     simp only[Option.some.injEq,Prod.mk.injEq]at h2;obtain⟨rfl,rfl⟩:=h2
     obtain⟨k,rfl⟩: ∃k:Nat,n=k:=⟨n.toNat,by omega⟩
     have hk:k≤r'.length:=by omega
     have hz:(⟨(r'.take k).toArray⟩:ByteArray).size=k:=by rw[Lib.size_eq];simp;omega
     simp only[Int.toNat_natCast];refine⟨by rw[hz];exact⟨hn1,hn3⟩,?_⟩
     simp only[bytes,List.flatMap_cons,List.flatMap_nil,It.bytes,hz,List.append_nil];simp
   · cases h2
 · rintro ⟨⟨h1,h2⟩,rfl⟩
   have hz:x.size=x.data.toList.length:=Lib.size_eq x;refine⟨x.size,x.data.toList++r,(rds_cnt hg m _ _ _).2 ⟨⟨h1,by omega,h2⟩,by simp[bytes,It.bytes]⟩,?_⟩
   rw[if_pos (by rw[List.length_append,←hz];omega)];simp only[Int.toNat_natCast];rw[hz,List.take_left,List.drop_left]
theorem rds_rep {α:Type} {p:Ps α} {enc:α→List It} {OK:α→Prop} (hp:Rds p enc OK): ∀n,Rds (repP p n) (fun xs=>xs.flatMap enc) (fun xs=>xs.length=n∧ ∀x∈xs,OK x)
 |0=>fun l xs r=>by
  rw[show repP p 0=pureP []from rfl,pure_iff];constructor
  · rintro ⟨rfl,rfl⟩;simp[bytes]
  · rintro ⟨⟨h1,_⟩,rfl⟩
    obtain rfl:=List.length_eq_zero_iff.1 h1;simp[bytes]
 |n+1=>fun l xs r=>by
  rw[show repP p (n+1)=bindP p (fun x=>bindP (repP p n) fun xs=>pureP (x::xs))from rfl,bind_iff];simp only[bind_iff,pure_iff];constructor
  · rintro ⟨x,r',h1,ys,r2,h2,rfl,rfl⟩
    obtain⟨a1,rfl⟩:=(hp l x r').1 h1
    obtain⟨⟨b1,b2⟩,rfl⟩:=(rds_rep hp n r' ys r2).1 h2
    refine⟨⟨by simp[b1],fun y hy=>?_⟩,?_⟩
    · rcases List.mem_cons.1 hy with rfl|hy
      · exact a1
      · exact b2 y hy
    · rw[List.flatMap_cons,bytes_app,List.append_assoc]
  · rintro ⟨⟨h1,h2⟩,rfl⟩
    match xs,h1 with
    |x::ys,h1=>
     refine⟨x,bytes (ys.flatMap enc)++r,(hp _ _ _).2 ⟨h2 x (by simp),by rw[List.flatMap_cons,bytes_app,List.append_assoc]⟩,ys,r,(rds_rep hp n _ _ _).2 ⟨⟨by simpa using h1,fun y hy=>h2 y (by simp[hy])⟩,rfl⟩,rfl,rfl⟩
theorem rds_lst {α:Type} {p:Ps α} {enc:α→List It} {OK:α→Prop} {g:Int→Bool} (hg: ∀n,g n=true→wide n) (m:Nat) (hm: ∀n:Nat,n≤m→g n=true) (hp:Rds p enc OK):Rds (lstP g m p) (fun xs=>lst m enc xs) (fun xs=>xs.length≤m∧ ∀x∈xs,OK x):=fun l xs r=>by
 unfold lstP;rw[bind_iff];constructor
 · rintro ⟨n,r',h1,h2⟩
   obtain⟨⟨hn1,hn2,hn3⟩,rfl⟩:=(rds_cnt hg m l n r').1 h1
   obtain⟨⟨b1,b2⟩,rfl⟩:=(rds_rep hp _ r' xs r).1 h2
   have hx:(xs.length:Int)=n:=by omega
   refine⟨⟨by omega,b2⟩,?_⟩
   dsimp only;rw[lst,if_pos (by omega),bytes_cons,←hx];simp[bytes]
 · rintro ⟨⟨h1,h2⟩,rfl⟩
   refine⟨xs.length,bytes (xs.flatMap enc)++r,(rds_cnt hg m _ _ _).2 ⟨⟨hm _ h1,by omega,by omega⟩,?_⟩,(rds_rep hp _ _ _ _).2 ⟨⟨by simp,h2⟩,rfl⟩⟩
   dsimp only;rw[lst,if_pos h1,bytes_cons];simp[bytes]
/-- What may be in a change. -/
structure OkC (g:Int→Bool) (m:Int) (c:Pp.Ch):Prop where
 k:g c.k=true
 b:g c.b=true
 p:g c.p.size=true∧(c.p.size:Int)≤m
 q:g c.q.size=true∧(c.q.size:Int)≤m
 t:g c.t.size=true∧(c.t.size:Int)≤m
theorem rds_ch {g:Int→Bool} (hg: ∀n,g n=true→wide n) (m:Int):Rds (chP g m) chI (OkC g m):=fun l c r=>by
 unfold chP;simp only[bind_iff,pure_iff];constructor
 · rintro ⟨k,r1,h1,p,r2,h2,q,r3,h3,t,r4,h4,b,r5,h5,rfl,rfl⟩
   obtain⟨a1,rfl⟩:=(rds_rd hg _ _ _).1 h1
   obtain⟨a2,rfl⟩:=(rds_txt hg m _ _ _).1 h2
   obtain⟨a3,rfl⟩:=(rds_txt hg m _ _ _).1 h3
   obtain⟨a4,rfl⟩:=(rds_txt hg m _ _ _).1 h4
   obtain⟨a5,rfl⟩:=(rds_rd hg _ _ _).1 h5
   exact⟨⟨a1,a5,a2,a3,a4⟩,by simp[chI,bytes]⟩
 · rintro ⟨⟨a1,a5,a2,a3,a4⟩,rfl⟩
   exact⟨_,_,(rds_rd hg _ c.k (bytes [.t c.p,.t c.q,.t c.t,.n c.b]++r)).2 ⟨a1,by simp[chI,bytes]⟩,_,_,(rds_txt hg m _ c.p (bytes [.t c.q,.t c.t,.n c.b]++r)).2 ⟨a2,by simp[bytes]⟩,_,_,(rds_txt hg m _ c.q (bytes [.t c.t,.n c.b]++r)).2 ⟨a3,by simp[bytes]⟩,_,_,(rds_txt hg m _ c.t (bytes [.n c.b]++r)).2 ⟨a4,by simp[bytes]⟩,_,_,(rds_rd hg _ c.b r).2 ⟨a5,by simp[bytes]⟩,rfl,rfl⟩
structure OkQ (g:Int→Bool) (m:Int) (q:Rq):Prop where
 kind:g q.kind=true
 who:g q.who.size=true∧(q.who.size:Int)≤m
 fo:g q.fo.size=true∧(q.fo.size:Int)≤m
 name:g q.name.size=true∧(q.name.size:Int)≤m
 key:g q.key.size=true∧(q.key.size:Int)≤m
 text:g q.text.size=true∧(q.text.size:Int)≤m
 num:g q.num=true
 off:g q.off=true
 base:g q.base=true
 ch:q.ch.length≤20∧ ∀c∈q.ch,OkC g m c
theorem rds_rq {g:Int→Bool} (hg: ∀n,g n=true→wide n) (hm: ∀n:Nat,n≤20→g n=true) (m:Int):Rds (rqP g m) rqI (OkQ g m):=fun l q r=>by
 have hl:=fun l x r=>rds_lst hg 20 hm (rds_ch hg m) l x r
 unfold rqP;simp only[bind_iff,pure_iff];constructor
 · rintro ⟨k,r1,h1,a,r2,h2,b,r3,h3,c,r4,h4,d,r5,h5,e,r6,h6,x,r7,h7,y,r8,h8,z,r9,h9,cs,r10,h10,rfl,rfl⟩
   obtain⟨a1,rfl⟩:=(rds_rd hg _ _ _).1 h1
   obtain⟨a2,rfl⟩:=(rds_txt hg m _ _ _).1 h2
   obtain⟨a3,rfl⟩:=(rds_txt hg m _ _ _).1 h3
   obtain⟨a4,rfl⟩:=(rds_txt hg m _ _ _).1 h4
   obtain⟨a5,rfl⟩:=(rds_txt hg m _ _ _).1 h5
   obtain⟨a6,rfl⟩:=(rds_txt hg m _ _ _).1 h6
   obtain⟨a7,rfl⟩:=(rds_rd hg _ _ _).1 h7
   obtain⟨a8,rfl⟩:=(rds_rd hg _ _ _).1 h8
   obtain⟨a9,rfl⟩:=(rds_rd hg _ _ _).1 h9
   obtain⟨a10,rfl⟩:=(hl _ _ _).1 h10
   exact⟨⟨a1,a2,a3,a4,a5,a6,a7,a8,a9,a10⟩,by simp[rqI,bytes]⟩
 · rintro ⟨⟨a1,a2,a3,a4,a5,a6,a7,a8,a9,a10⟩,rfl⟩
   obtain⟨k,a,b,c,d,e,x,y,z,cs⟩:=q
   have E:=rfl (a:=bytes (lst 20 chI cs)++r)
   exact⟨_,_,(rds_rd hg _ k (bytes [.t a,.t b,.t c,.t d,.t e,.n x,.n y,.n z]++(bytes (lst 20 chI cs)++r))).2 ⟨a1,by simp[rqI,bytes]⟩,
    _,_,(rds_txt hg m _ a (bytes [.t b,.t c,.t d,.t e,.n x,.n y,.n z]++(bytes (lst 20 chI cs)++r))).2 ⟨a2,by simp[bytes]⟩,
    _,_,(rds_txt hg m _ b (bytes [.t c,.t d,.t e,.n x,.n y,.n z]++(bytes (lst 20 chI cs)++r))).2 ⟨a3,by simp[bytes]⟩,
    _,_,(rds_txt hg m _ c (bytes [.t d,.t e,.n x,.n y,.n z]++(bytes (lst 20 chI cs)++r))).2 ⟨a4,by simp[bytes]⟩,
    _,_,(rds_txt hg m _ d (bytes [.t e,.n x,.n y,.n z]++(bytes (lst 20 chI cs)++r))).2 ⟨a5,by simp[bytes]⟩,
    _,_,(rds_txt hg m _ e (bytes [.n x,.n y,.n z]++(bytes (lst 20 chI cs)++r))).2 ⟨a6,by simp[bytes]⟩,
    _,_,(rds_rd hg _ x (bytes [.n y,.n z]++(bytes (lst 20 chI cs)++r))).2 ⟨a7,by simp[bytes]⟩,
    _,_,(rds_rd hg _ y (bytes [.n z]++(bytes (lst 20 chI cs)++r))).2 ⟨a8,by simp[bytes]⟩,
    _,_,(rds_rd hg _ z (bytes (lst 20 chI cs)++r)).2 ⟨a9,by simp[bytes]⟩,
    _,_,(hl _ cs r).2 ⟨a10,rfl⟩,rfl,rfl⟩
/-! What is written, if it may be. -/
theorem run_ok: ∀(l:List It) (s:Ws),ok l=true→run s l=⟨s.l++bytes l,s.mn,s.fr⟩
 |[],s,_=>by simp[run,bytes]
 |x::l,s,h=>by
  simp only[ok,List.all_cons,Bool.and_eq_true]at h
  have hx:put s x=⟨s.l++x.bytes,s.mn,s.fr⟩:=by
   cases x with
   |n i=>simp only[It.ok]at h;simp[put,num,It.bytes,h.1]
   |t x=>
    simp only[It.ok,decide_eq_true_eq]at h;have hn:near (x.size:Int)=true:=by rw[near_iff];omega
    simp only[put,txt];rw[if_neg (by omega)];simp[num,It.bytes,hn]
   |big=>simp[It.ok]at h
  rw[run_cons,hx,run_ok l _ h.2,bytes_cons];simp
theorem put_bad (s:Ws) (x:It):(s.mn=true∨s.fr=true∨x.ok=false)→((put s x).mn=true∨(put s x).fr=true):=by
 intro h;cases x with
 |n i=>simp only[put,num,It.ok]at h⊢;rcases h with h|h|h<;>simp[h]
 |t x=>
  simp only[put,txt,It.ok]at h⊢;split
  · simp[much]
  · rename_i hx
    simp only[num];rcases h with h|h|h
    · simp[h]
    · simp[h]
    · simp at h;omega
 |big=>simp[put,much]
theorem run_bad: ∀(l:List It) (s:Ws),(s.mn=true∨s.fr=true∨ok l=false)→((run s l).mn=true∨(run s l).fr=true)
 |[],s,h=>by simpa[ok,run]using h
 |x::l,s,h=>by
  rw[run_cons];refine run_bad l _ ?_
  by_cases hx:s.mn=true∨s.fr=true∨x.ok=false
  · rcases put_bad s x hx with h|h<;>simp[h]
  · simp only[not_or,Bool.not_eq_false,Bool.not_eq_true]at hx
    simp only[ok,List.all_cons,hx.1,hx.2.1,hx.2.2,Bool.true_and]at h;exact Or.inr (Or.inr (by simpa[ok]using h))
theorem fin_ok {l:List It} (h:ok l=true):fin (run e0 l)=(⟨(bytes l).toArray⟩,0):=by
 rw[run_ok l _ h];simp[fin,e0]
theorem fin_bad {l:List It} (h:ok l=false):(fin (run e0 l)).2≠0∧(fin (run e0 l)).1=⟨#[]⟩:=by
 rcases run_bad l e0 (Or.inr (Or.inr h))with h|h
 · unfold fin;rw[if_pos h];exact⟨by decide,rfl⟩
 · unfold fin;split
   · exact⟨by decide,rfl⟩
   · exact⟨by decide,rfl⟩
theorem ok_app (a b:List It):ok (a++b)=(ok a && ok b):=by simp[ok]
theorem ok_lst {α:Type} (m:Nat) (hm:m≤1000) (enc:α→List It) (xs:List α):ok (lst m enc xs)=true↔xs.length≤m∧ ∀x∈xs,ok (enc x)=true:=by
 unfold lst;split
 · rename_i h
   have hn:near (xs.length:Int)=true:=by rw[near_iff];omega
   simp only[ok,List.all_cons,It.ok,hn,Bool.true_and,h,true_and,List.all_flatMap,List.all_eq_true]
 · rename_i h;simp[ok,It.ok,h]
theorem ok_ch (c:Pp.Ch):ok (chI c)=true↔OkC gN 1000 c:=by
 have hs: ∀x:ByteArray,x.size≤1000↔gN x.size=true∧(x.size:Int)≤1000:=fun x=>by
  rw[gN,near_iff];omega
 simp only[ok,chI,List.all_cons,List.all_nil,It.ok,Bool.and_eq_true,decide_eq_true_eq,Bool.and_true,hs];constructor
 · rintro ⟨h1,h2,h3,h4,h5⟩;exact⟨h1,h5,h2,h3,h4⟩
 · rintro ⟨h1,h5,h2,h3,h4⟩;exact⟨h1,h2,h3,h4,h5⟩
theorem ok_rq (q:Rq):ok (rqI q)=true↔OkQ gN 1000 q:=by
 have hs: ∀x:ByteArray,x.size≤1000↔gN x.size=true∧(x.size:Int)≤1000:=fun x=>by
  rw[gN,near_iff];omega
 rw[rqI,ok_app,Bool.and_eq_true,ok_lst 20 (by omega)];simp only[ok_ch];simp only[ok,List.all_cons,List.all_nil,It.ok,Bool.and_eq_true,decide_eq_true_eq,Bool.and_true,hs];constructor
 · rintro ⟨⟨h1,h2,h3,h4,h5,h6,h7,h8,h9⟩,h10⟩;exact⟨h1,h2,h3,h4,h5,h6,h7,h8,h9,h10⟩
 · rintro ⟨h1,h2,h3,h4,h5,h6,h7,h8,h9,h10⟩;exact⟨⟨h1,h2,h3,h4,h5,h6,h7,h8,h9⟩,h10⟩
theorem gN_small: ∀n:Nat,n≤60→gN n=true:=fun n h=>by rw[gN,near_iff];omega
theorem gR_small: ∀n:Nat,n≤60→gR n=true:=fun n h=>gNR _ (gN_small n h)
end Wr
end Go.Proofs.YtdifomkoegmngaaGreatDoor
namespace Go.Proofs.YtdifomkoegmngaaGreatDoor
open Go.RowKit

/-- What a reading of the document's scanner answers: something, right or wrong. -/
def ScV {α:Type} (b:Nat) (s:ByteArray) (bad:Bool) (w:World) (res:Option (α×List UInt8)) (V:α→Value→World→Prop) (P:α→Prop) (e:Ending) (w':World):Prop:=
 ∃x v j bad',e= .returned v∧V x v w'∧P x∧Sc b s j bad' w'∧j≤s.size∧w.grownBy w' (some b)∧(bad=true→bad'=true)∧
  (bad=false→(res=none→bad'=true)∧ ∀y r,res=some (y,r)→bad'=false∧x=y∧s.data.toList.drop j=r)
/-- One behind another. -/
theorem ScV.step {α β:Type} {b j:Nat} {s:ByteArray} {bad:Bool} {w w':World} {p:Wr.Ps α} {f:α→Wr.Ps β} {V:α→Value→World→Prop} {P:α→Prop} {e:Ending} {RES:Option (β×List UInt8)} (h:ScV b s bad w (p (s.data.toList.drop j)) V P e w')
    (hT:bad=true→RES=none) (hF:bad=false→RES=Wr.bindP p f (s.data.toList.drop j)):
    ∃x v j' bad',e= .returned v∧V x v w'∧P x∧Sc b s j' bad' w'∧j'≤s.size∧w.grownBy w' (some b)∧(bad'=true→RES=none)∧(bad'=false→RES=f x (s.data.toList.drop j')):=by
 obtain⟨x,v,j',bad',he,hV,hP,hS,hj,hg,h1,h2⟩:=h
 refine⟨x,v,j',bad',he,hV,hP,hS,hj,hg,?_,?_⟩
 · intro hb
   cases bad with
   |true=>exact hT rfl
   |false=>
    rw[hF rfl];cases hr:p (s.data.toList.drop j)with
    |none=>exact Wr.bind_none hr
    |some z=>obtain⟨y,r⟩:=z;have:=((h2 rfl).2 y r hr).1;rw[hb]at this;cases this
 · intro hb
   cases bad with
   |true=>rw[h1 rfl]at hb;cases hb
   |false=>
    rw[hF rfl];cases hr:p (s.data.toList.drop j)with
    |none=>rw[(h2 rfl).1 hr]at hb;cases hb
    |some z=>obtain⟨y,r⟩:=z;obtain⟨_,rfl,h3⟩:=(h2 rfl).2 y r hr;rw[Wr.bind_some hr,h3]
theorem gR_i64 {n:Int} (h:Wr.gR n=true):I64 n:=by simp only[Wr.gR,decide_eq_true_eq]at h;exact⟨by omega,by omega⟩
theorem scnumV (b i:Nat) (s:ByteArray) (bad:Bool) (w:World) (h:Sc b s i bad w) (hi:i≤s.size) (hs:s.size≤140737488351232):
    Calls Tryz.prog 37 #[.pointer (some ⟨b,0,none⟩)] w fun e w'=>ScV b s bad w (Wr.rdG Wr.gR (s.data.toList.drop i)) (fun n v _=>v= .int .i64 n) I64 e w':=
 (scnum_any b i s bad w h hi hs).mono fun e w' hw=>by
  rcases hw.ways with⟨j,rfl,h1,hj,hg,hb⟩|⟨n,j,rfl,h1,hj,hg,hb,hr⟩
  · refine⟨0,_,j,true,rfl,rfl,⟨by decide,by decide⟩,h1,hj,hg,fun _=>rfl,fun hf=>⟨fun _=>rfl,fun y r hy=>?_⟩⟩
    rcases hb with hb|hb
    · rw[hf]at hb;cases hb
    · rw[hy]at hb;cases hb
  · refine⟨n,_,j,false,rfl,rfl,gR_i64 (Wr.rd_some hr).2.2.2.1,h1,hj,hg,(fun h=>by rw[hb]at h;cases h),fun hf=>⟨(fun h=>by rw[hr]at h;cases h),fun y r hy=>?_⟩⟩
    rw[hr]at hy;simp only[Option.some.injEq,Prod.mk.injEq]at hy;exact⟨rfl,hy.1,hy.2⟩
theorem sctxtV (b i:Nat) (s:ByteArray) (bad:Bool) (w:World) (h:Sc b s i bad w) (hi:i≤s.size) (hs:s.size≤140737488351232):
    Calls Tryz.prog 38 #[.pointer (some ⟨b,0,none⟩)] w fun e w'=>ScV b s bad w (Wr.txtP Wr.gR Wr.MR (s.data.toList.drop i)) (fun x v _=>v= .string x) TxB e w':=
 (sctxt_any b i s bad w h hi hs).mono fun e w' hw=>by
  obtain⟨v,j,bad',he,hS,hj,hg,hA,hB⟩:=hw
  have he0:TxB ⟨#[]⟩:=by show(0:Int)≤_;decide
  cases bad with
  |true=>obtain⟨rfl,hv⟩:=hA (Or.inl rfl);exact⟨⟨#[]⟩,v,j,true,he,hv,he0,hS,hj,hg,fun _=>rfl,fun h=>by cases h⟩
  |false=>
   cases hr:Wr.txtP Wr.gR Wr.MR (s.data.toList.drop i)with
   |none=>obtain⟨rfl,hv⟩:=hA (Or.inr hr);exact⟨⟨#[]⟩,v,j,true,he,hv,he0,hS,hj,hg,fun _=>rfl,fun h=>⟨fun _=>rfl,fun y r hy=>by cases hy⟩⟩
   |some z=>
    obtain⟨y,r⟩:=z
    obtain⟨rfl,hv,hd⟩:=hB rfl y r hr
    refine⟨y,v,j,false,he,hv,?_,hS,hj,hg,(fun h=>by cases h),fun h=>⟨(fun h=>by cases h),fun y' r' hy=>?_⟩⟩
    · have:=((Wr.rds_txt Wr.gR_wide Wr.MR _ _ _).1 hr).1.2
      unfold Wr.MR at this;unfold TxB;omega
    · simp only[Option.some.injEq,Prod.mk.injEq]at hy
      exact⟨rfl,hy.1,by rw[hd,hy.2]⟩
set_option maxHeartbeats 1000000 in
theorem sccntV (b i:Nat) (m:Int) (s:ByteArray) (bad:Bool) (w:World) (h:Sc b s i bad w) (hi:i≤s.size) (hs:s.size≤140737488351232) (hm:0≤m):
    Calls Tryz.prog 70 #[.pointer (some ⟨b,0,none⟩),.int .i64 m] w fun e w'=>ScV b s bad w (Wr.cntP Wr.gR m (s.data.toList.drop i)) (fun n v _=>v= .int .i64 n) (fun n=>0≤n∧n≤m) e w':=by
 have HK:=hid (scnumV b i s bad w h hi hs);obtain⟨RES,hRES⟩: ∃x,x=Wr.cntP Wr.gR m (s.data.toList.drop i):=⟨_,rfl⟩
 rw[←hRES];have HRES:=hid hRES;have hC: ∀n r,Wr.rdG Wr.gR (s.data.toList.drop i)=some (n,r)→RES=if 0≤n∧n≤m then some (n,r)else none:=fun n r h=>by rw[hRES,Wr.cntP,Wr.bind_some h]
 have hN:Wr.rdG Wr.gR (s.data.toList.drop i)=none→RES=none:=fun h=>by rw[hRES];exact Wr.bind_none h
 have HCN:=hid (And.intro hC hN);clear h hs hRES hC hN;go_enter Tryz.func70,Tryz.ntmps70
 go_wp2_with fail;refine HK.out.mono ?_
 rintro e w1 ⟨n,_,j,bad',rfl,rfl,hP,h1,hj,hg,hT,hF⟩;have HH:=hid h1;have c2:=h1.cs.cell 2 rfl;have f2:=h1.cs.fr 2;have HT:=hid hT;have HF:=hid hF;clear h1 hT hF HK;cases hr:Wr.rdG Wr.gR (s.data.toList.drop i)with
 |none=>
  have hb:bad'=true:=by
   cases bad with
   |true=>exact HT.out rfl
   |false=>exact(HF.out rfl).1 hr
  subst hb;have HW:=hid (HCN.out.2 hr);by_cases hgood:0≤n∧n≤m
  · have n0: ¬n<0:=by omega
    have n1: ¬m<n:=by omega
    go_wp2_with fail;refine bodyPost_ret (results_tmp rfl _ _ _) rfl ?_
    exact⟨0,_,j,true,rfl,rfl,⟨by omega,hm⟩,HH.out,hj,hg,fun _=>rfl,fun _=>⟨fun _=>rfl,fun y r hy=>by rw[HW.out]at hy;cases hy⟩⟩
  · by_cases n0:n<0
    · go_wp2_with fail
      refine bodyPost_ret (results_tmp rfl _ _ _) rfl ?_
      exact⟨0,_,j,true,rfl,rfl,⟨by omega,hm⟩,HH.out.bad,hj,nb_tr hg (nb_set _ b 2 _),fun _=>rfl,fun _=>⟨fun _=>rfl,fun y r hy=>by rw[HW.out]at hy;cases hy⟩⟩
    · have n1:m<n:=by omega
      go_wp2_with fail;refine bodyPost_ret (results_tmp rfl _ _ _) rfl ?_
      exact⟨0,_,j,true,rfl,rfl,⟨by omega,hm⟩,HH.out.bad,hj,nb_tr hg (nb_set _ b 2 _),fun _=>rfl,fun _=>⟨fun _=>rfl,fun y r hy=>by rw[HW.out]at hy;cases hy⟩⟩
 |some z=>
  obtain⟨y,r⟩:=z
  have HC:=hid (HCN.out.1 y r hr);by_cases hgood:0≤n∧n≤m
  · have n0: ¬n<0:=by omega
    have n1: ¬m<n:=by omega
    cases hb:bad' with
    |true=>
     rw[hb]at c2;go_wp2_with fail;refine bodyPost_ret (results_tmp rfl _ _ _) rfl ?_
     refine⟨0,_,j,bad',rfl,rfl,⟨by omega,hm⟩,HH.out,hj,hg,fun _=>hb,fun hf=>?_⟩
     have:=((HF.out hf).2 y r hr).1
     rw[hb]at this;cases this
    |false=>
     rw[hb]at c2;go_wp2_with fail;refine bodyPost_ret (results_tmp rfl _ _ _) rfl ?_
     refine⟨n,_,j,bad',rfl,rfl,hgood,HH.out,hj,hg,HT.out,fun hf=>?_⟩
     obtain⟨k1,k2,k3⟩:=(HF.out hf).2 y r hr
     subst k2;rw[HC.out,if_pos hgood]
     exact⟨(fun h=>by cases h),fun y' r' hy=>by
      simp only[Option.some.injEq,Prod.mk.injEq]at hy;exact⟨k1,hy.1,by rw[k3,hy.2]⟩⟩
  · have HW:=hid (show bad=false→RES=none from fun hf=>by
     obtain⟨k1,k2,k3⟩:=(HF.out hf).2 y r hr
     subst k2;rw[HC.out,if_neg hgood])
    by_cases n0:n<0
    · go_wp2_with fail
      refine bodyPost_ret (results_tmp rfl _ _ _) rfl ?_
      exact⟨0,_,j,true,rfl,rfl,⟨by omega,hm⟩,HH.out.bad,hj,nb_tr hg (nb_set _ b 2 _),fun _=>rfl,fun hf=>⟨fun _=>rfl,fun y r hy=>by rw[HW.out hf]at hy;cases hy⟩⟩
    · have n1:m<n:=by omega
      go_wp2_with fail;refine bodyPost_ret (results_tmp rfl _ _ _) rfl ?_
      exact⟨0,_,j,true,rfl,rfl,⟨by omega,hm⟩,HH.out.bad,hj,nb_tr hg (nb_set _ b 2 _),fun _=>rfl,fun hf=>⟨fun _=>rfl,fun y r hy=>by rw[HW.out hf]at hy;cases hy⟩⟩
theorem ScV.stepM {α β:Type} {b j:Nat} {s:ByteArray} {bad:Bool} {w w':World} {p:Wr.Ps α} {f:α→Wr.Ps β} {V:α→Value→World→Prop} {P:α→Prop} {e:Ending} {RES:Option (β×List UInt8)} (h:ScV b s bad w (p (s.data.toList.drop j)) V P e w')
    (hT:bad=true→RES=none) (hF:bad=false→RES=Wr.bindP p f (s.data.toList.drop j)):
    ∃x v j' bad',e= .returned v∧V x v w'∧P x∧Sc b s j' bad' w'∧j'≤s.size∧w.grownBy w' (some b)∧(bad'=true→RES=none)∧(bad'=false→RES=f x (s.data.toList.drop j'))∧(bad=true→bad'=true):=by
 have h':=h;obtain⟨x,v,j',bad',he,hV,hP,hS,hj,hg,h1,h2⟩:=h
 have h3:ScV b s bad w (p (s.data.toList.drop j)) (fun y u W=>u=v∧W=w'∧y=x) (fun y=>y=x) e w':=⟨x,v,j',bad',he,⟨rfl,rfl,rfl⟩,rfl,hS,hj,hg,h1,h2⟩
 obtain⟨x2,v2,j2,bad2,he2,⟨rfl,_,rfl⟩,_,hS2,hj2,hg2,hT2,hF2⟩:=h3.step (f:=f) hT hF
 have e1:=hS.symm.trans hS2;simp only[Option.some.injEq,Obj.cells.injEq,Array.mk.injEq,List.cons.injEq,Value.int.injEq,Value.bool.injEq,true_and,and_true]at e1;obtain⟨e1,rfl⟩:=e1
 obtain rfl:j'=j2:=by omega
 exact⟨_,_,_,_,he,hV,hP,hS,hj,hg,hT2,hF2,h1⟩
/-- The document's scanner at work on a record of its own. -/
structure S5 (w:World) (b C:Nat) (s:ByteArray) (j:Nat) (bd:Bool) (cs:List Value) (W:World):Prop where
 sc:Sc b s j bd W
 jl:j≤s.size
 cC:Cs W C cs
 fr:w.grownBy W (some b)
 bl:b<w.heap.size
 Cl:w.heap.size≤C
theorem S5.call {w W W':World} {b C j j':Nat} {s:ByteArray} {bd bd':Bool} {cs:List Value} (h:S5 w b C s j bd cs W) (hn:W.grownBy W' (some b)) (hr:Sc b s j' bd' W') (hj:j'≤s.size):S5 w b C s j' bd' cs W':=
 ⟨hr,hj,h.cC.nb hn (by have:=h.bl;have:=h.Cl;omega),nb_tr h.fr hn,h.bl,h.Cl⟩
theorem Sc.nb {b g i:Nat} {s:ByteArray} {bad:Bool} {w w':World} (h:Sc b s i bad w) (hw:w.grownBy w' (some g)) (hne:b≠g):Sc b s i bad w':=(hw.block b h.lt (fun e=>hne (by injection e))).trans h
theorem S5.set {w W:World} {b C j:Nat} {s:ByteArray} {bd:Bool} {cs:List Value} (h:S5 w b C s j bd cs W) (i:Nat) (v:Value):S5 w b C s j bd (cs.set i v) (W.setCell ⟨C,i,none⟩ v):=by
 have hb:=h.bl;have hC:=h.Cl;exact⟨h.sc.nb (nb_set W C i v) (by omega),h.jl,h.cC.set i v,nb_new h.fr h.Cl v,h.bl,h.Cl⟩
theorem s5_new {w:World} {b j:Nat} {s:ByteArray} {bd:Bool} (cs:List Value) (T:TypeId) (h:Sc b s j bd w) (hj:j≤s.size):S5 w b w.heap.size s j bd cs (w.alloc (.cells cs.toArray T)):=
 ⟨h.below (below_alloc _ _),hj,Cs.new w cs T,nb_below b (below_alloc _ _),h.lt,Nat.le_refl _⟩
/-- A list of changes that the document's scanner reads. -/
structure Rsch (w:World) (b:Nat) (s:ByteArray) (x:Value) (cs:List Pp.Ch) (j:Nat) (bd:Bool) (W:World):Prop where
 row:RowV w.heap.size 53 5 VCh cs x W
 sc:Sc b s j bd W
 jl:j≤s.size
 fr:w.grownBy W (some b)
 wf: ∀c∈cs,WfC c
set_option maxHeartbeats 4000000 in
set_option maxRecDepth 8000 in
theorem scchsV (b i:Nat) (s:ByteArray) (bad:Bool) (w:World) (h:Sc b s i bad w) (hi:i≤s.size) (hs:s.size≤140737488351232):
    Calls Tryz.prog 39 #[.pointer (some ⟨b,0,none⟩)] w fun e w'=>ScV b s bad w (Wr.lstP Wr.gR 20 (Wr.chP Wr.gR Wr.MR) (s.data.toList.drop i)) (RowV w.heap.size 53 5 VCh) (fun cs=>cs.length≤20∧ ∀c∈cs,WfC c) e w':=by
 have HK:=hid (sccntV b i 20 s bad w h hi hs (by decide));obtain⟨RES,hRES⟩: ∃x,x=Wr.lstP Wr.gR 20 (Wr.chP Wr.gR Wr.MR) (s.data.toList.drop i):=⟨_,rfl⟩
 rw[←hRES];have HRES:=hid (show bad=false→RES=Wr.bindP (Wr.cntP Wr.gR 20) (fun n=>Wr.repP (Wr.chP Wr.gR Wr.MR) n.toNat) (s.data.toList.drop i)from fun _=>hRES);have HS:=hid hs;have hbl:=h.lt;obtain⟨i0,hi0,hz0,hz1,hz2⟩:=info_parts Tryz.infoW5
 clear h hs hRES;go_enter Tryz.func39,Tryz.ntmps39
 go_wp2_with fail;refine HK.out.mono ?_
 intro e w1 hv;have hstep:=hv.stepM (RES:=if bad=true then none else RES) (f:=fun n=>Wr.repP (Wr.chP Wr.gR Wr.MR) n.toNat) (fun h=>if_pos h) (fun h=>by rw[if_neg (by rw[h];simp)];exact HRES.out h);obtain⟨n,_,j1,bd1,rfl,rfl,⟨hn0,hn1⟩,hS1,hj1,hg1,hT1,hF1,hM⟩:=hstep
 obtain⟨N,rfl⟩: ∃N:Nat,n=N:=⟨n.toNat,by omega⟩
 have HM:=hid hM;have HR0:=hid (show Rsch w b s (.slice none 0 0) [] j1 bd1 w1 from⟨rowV_nil _ _ _ _ _,hS1,hj1,hg1,fun c hc=>by cases hc⟩);obtain⟨RS,hRS⟩: ∃x,x=if bad=true then none else RES:=⟨_,rfl⟩
 rw[←hRS]at hT1 hF1;have HRS:=hid hRS;have HT1:=hid hT1;have HF1:=hid (show bd1=false→RS=Wr.repA (Wr.chP Wr.gR Wr.MR) (N-0) [] (s.data.toList.drop j1)from fun h=>by rw[hF1 h,Int.toNat_natCast,Nat.sub_zero,Wr.repA_nil]);clear hv hM hS1 hg1 hT1 hF1 hRS HK HRES;go_wp2_with fail;go_loopw [3,5] (fun x i wr=> ∃(k j:Nat) (bd:Bool) (cs:List Pp.Ch),i= .int .i64 k∧k≤N∧cs.length=k∧Hid (Rsch w b s x cs j bd wr)∧Hid (bad=true→bd=true)∧Hid (bd=true→RS=none)∧Hid (bd=false→RS=Wr.repA (Wr.chP Wr.gR Wr.MR) (N-k) cs (s.data.toList.drop j))) (fun _ i _=>N-(intOf i).toNat)
 case atStart=>exact⟨0,j1,bd1,[],rfl,Nat.zero_le _,rfl,HR0,HM,HT1,HF1⟩
 case round=>
  obtain⟨k,j,bd,cs,rfl,hk,hck,HL,HMM,HT,HF⟩:=hrel
  have HEND:=hid (show(k<N→bd=true)→ScV b s bad w RES (RowV w.heap.size 53 5 VCh) (fun cs=>cs.length≤20∧ ∀c∈cs,WfC c) (.returned u3) wr from fun hend=>by
   refine⟨cs,_,j,bd,rfl,HL.out.row,⟨by omega,HL.out.wf⟩,HL.out.sc,HL.out.jl,HL.out.fr,HMM.out,fun hf=>?_⟩
   have hrs:RS=RES:=by rw[HRS.out,if_neg (by rw[hf];simp)]
   cases hb:bd with
   |true=>have:=HT.out hb;rw[hrs]at this;rw[this];exact⟨fun _=>rfl,fun y r hy=>by cases hy⟩
   |false=>
    have h1:=HF.out hb
    rw[hrs,show N-k=0 from by
     rcases Nat.lt_or_ge k N with h|h
     · rw[hend h]at hb;cases hb
     · omega,Wr.repA_zero]at h1
    rw[h1]
    exact⟨(fun h=>by cases h),fun y r hy=>by
     simp only[Option.some.injEq,Prod.mk.injEq]at hy;exact⟨rfl,hy.1,hy.2⟩⟩)
  clear HR0 HM HT1 HF1;by_cases hlt:k<N
  · have c2:=HL.out.sc.cs.cell 2 rfl
    cases hbd:bd with
    |true=>
     rw[hbd]at c2;clear HL HT HF HMM;go_wp2_with fail;go_ret;exact HEND.out (fun _=>hbd)
    |false=>
     rw[hbd]at c2;clear HEND;obtain⟨m,hm⟩: ∃m,N-k=m+1:=⟨N-k-1,by omega⟩
     have HBF:=hid (show bad=false from by
      cases hb:bad with
      |false=>rfl
      |true=>have:=HMM.out hb;rw[hbd]at this;cases this)
     have HRA:=hid (HF.out hbd);rw[hm]at HRA;have H0:=hid (s5_new zch 53 HL.out.sc HL.out.jl);rw[hbd]at H0;obtain⟨RC,hRC⟩: ∃x,x=Wr.chP Wr.gR Wr.MR (s.data.toList.drop j):=⟨_,rfl⟩
     have HF0:=hid (show RC=Wr.bindP (Wr.rdG Wr.gR) (fun k=>Wr.bindP (Wr.txtP Wr.gR Wr.MR) fun p=>Wr.bindP (Wr.txtP Wr.gR Wr.MR) fun q=>Wr.bindP (Wr.txtP Wr.gR Wr.MR) fun t=>Wr.bindP (Wr.rdG Wr.gR) fun b=>Wr.pureP ⟨k,p,q,t,b⟩) (s.data.toList.drop j)from hRC);have HRC:=hid hRC;clear HT HF hRC HMM;have HK0:=hid (scnumV b j s false _ H0.out.sc H0.out.jl HS.out);go_wp2_with fail;refine HK0.out.mono ?_
     intro e w2 hv;obtain⟨ck,_,jA,bA,rfl,rfl,pA,hSA,hjA,hgA,hTA,hFA⟩:=hv.step (fun h=>by cases h) (fun _=>HF0.out)
     have HA:=hid (H0.out.call hgA hSA hjA);have HTA:=hid hTA;have HFA:=hid hFA;have y0:=HA.out.cC.cell 0 rfl;have z0:=HA.out.cC.fr 0;clear hv hSA hgA hTA hFA HF0 HK0 H0 c2;go_wp2_with fail;have HKB:=hid (sctxtV b jA s bA _ (HA.out.set 0 (.int .i64 ck)).sc (HA.out.set 0 (.int .i64 ck)).jl HS.out);refine HKB.out.mono ?_
     intro e w3 hv;obtain⟨cp,_,jB,bB,rfl,rfl,pB,hS,hjB,hg,hT,hF⟩:=hv.step HTA.out HFA.out
     have HB:=hid ((HA.out.set 0 (.int .i64 ck)).call hg hS hjB);have HTB:=hid hT;have HFB:=hid hF;have y1:=HB.out.cC.cell 1 rfl;have z1:=HB.out.cC.fr 1;clear hv hS hg hT hF HKB HTA HFA HA y0 z0;go_wp2_with fail;have HKC:=hid (sctxtV b jB s bB _ (HB.out.set 1 (.string cp)).sc (HB.out.set 1 (.string cp)).jl HS.out);refine HKC.out.mono ?_
     intro e w4 hv;obtain⟨cq,_,jC,bC,rfl,rfl,pC,hS,hjC,hg,hT,hF⟩:=hv.step HTB.out HFB.out
     have HC:=hid ((HB.out.set 1 (.string cp)).call hg hS hjC);have HTC:=hid hT;have HFC:=hid hF;have y2:=HC.out.cC.cell 2 rfl;have z2:=HC.out.cC.fr 2;clear hv hS hg hT hF HKC HTB HFB HB y1 z1;go_wp2_with fail;have HKD:=hid (sctxtV b jC s bC _ (HC.out.set 2 (.string cq)).sc (HC.out.set 2 (.string cq)).jl HS.out);refine HKD.out.mono ?_
     intro e w5 hv;obtain⟨ct,_,jD,bD,rfl,rfl,pD,hS,hjD,hg,hT,hF⟩:=hv.step HTC.out HFC.out
     have HD:=hid ((HC.out.set 2 (.string cq)).call hg hS hjD);have HTD:=hid hT;have HFD:=hid hF;have y3:=HD.out.cC.cell 3 rfl;have z3:=HD.out.cC.fr 3;clear hv hS hg hT hF HKD HTC HFC HC y2 z2;go_wp2_with fail;have HKE:=hid (scnumV b jD s bD _ (HD.out.set 3 (.string ct)).sc (HD.out.set 3 (.string ct)).jl HS.out);refine HKE.out.mono ?_
     intro e w6 hv;obtain⟨cb,_,jE,bE,rfl,rfl,pE,hS,hjE,hg,hT,hF⟩:=hv.step HTD.out HFD.out
     have HE:=hid ((HD.out.set 3 (.string ct)).call hg hS hjE);have HTE:=hid hT;have HFE:=hid hF;clear hv hS hg hT hF HKE HTD HFD HD y3 z3;obtain⟨w7,hw7⟩: ∃w7,w7=w6.setCell ⟨wr.heap.size,4,none⟩ (.int .i64 cb):=⟨_,rfl⟩
     have HG:=hid (HE.out.set 4 (.int .i64 cb));rw[←hw7]at HG;have y0:=HE.out.cC.cell 0 rfl;have y1:=HE.out.cC.cell 1 rfl;have y2:=HE.out.cC.cell 2 rfl;have y3:=HE.out.cC.cell 3 rfl;have y4:=HE.out.cC.cell 4 rfl;have z4:=HE.out.cC.fr 4;obtain⟨Z,hZ1,hZ2,hZ3⟩:=HL.out.row
     have hZl:Z.length=k:=by rw[←hck,←hZ1,List.length_map]
     have hO2:=ownsRow_nbX hZ2 HG.out.fr hbl;have hsz2:=Nat.le_trans HL.out.fr.size HG.out.fr.size;have HFR:=hid (nb_tr HL.out.fr HG.out.fr);have HCH:=hid (show(bE=true→RS=none)∧(bE=false→RS=Wr.repA (Wr.chP Wr.gR Wr.MR) m (cs++[⟨ck,cp,cq,ct,cb⟩]) (s.data.toList.drop jE))from⟨fun h=>by rw[HRA.out];exact Wr.repA_no (by rw[←HRC.out];exact HTE.out h),fun h=>by rw[HRA.out];exact Wr.repA_yes (by rw[←HRC.out,HFE.out h];rfl)⟩);rw[hw7]at hO2
     have HNW:=hid (show∀j u,([.int .i64 ck,.string cp,.string cq,.string ct,.int .i64 cb]:List Value)[j]?=some u→((w6.setCell ⟨wr.heap.size,4,none⟩ (.int .i64 cb)).alloc (.cells #[.int .i64 ck,.string cp,.string cq,.string ct,.int .i64 cb] 53)).cell? ((⟨w6.heap.size,0,none⟩:Addr).add j)=some u from by
      have h:=rlc_new (w6.setCell ⟨wr.heap.size,4,none⟩ (.int .i64 cb)) ⟨ck,cp,cq,ct,cb⟩;rw[show(w6.setCell ⟨wr.heap.size,4,none⟩ (.int .i64 cb)).heap.size=w6.heap.size from by simp]at h;exact h)
     have hs6:w.heap.size≤w6.heap.size:=by rw[hw7]at hsz2;simpa using hsz2
     go_wp2_with (at_builtin;refine wpList_append_own _ rfl _ _ 26 rfl w.heap.size 53 i0 (.agg #[.int .i64 0,.string ⟨#[]⟩,.string ⟨#[]⟩,.string ⟨#[]⟩,.int .i64 0]) 5 64 Tryz.underlying26 hi0 hz0 hz1 hz2 rfl (by decide) _ _ _ rfl (hO2.alloc _) ⟨w6.heap.size,0,none⟩ 1 1 ([.int .i64 ck,.string cp,.string cq,.string ct,.int .i64 cb]) rfl rfl HNW.out (by simp[Value.oneCell']) (by unfold maxLen;omega) (by omega) (by simp;omega) ?_)
     intro v5 w5' ho5 hgr5 hnn5;rw[←hw7]at hgr5 hO2;have hB5:Below w.heap.size w7 w5':=((Below.refl _ w7).alloc hsz2 _).grown hgr5 (by simp;omega) (fun q hq=>(hO2.lt q hq).1)
     have HL5:=hid (show Rsch w b s v5 (cs++[⟨ck,cp,cq,ct,cb⟩]) jE bE w5' from⟨by rw[←hZ1];exact RowV.snoc (r:=[.int .i64 ck,.string cp,.string cq,.string ct,.int .i64 cb]) (by rw[hZl];exact ho5) (fun z hz=>⟨(hZ3 z hz).1,(hZ3 z hz).2⟩) ⟨rfl,rfl,by simp[Value.oneCell']⟩,(hB5.block b hbl).trans HG.out.sc,HG.out.jl,nb_then HFR.out hB5,fun c hc=>by
      rcases List.mem_append.1 hc with h1|h1
      · exact HL.out.wf c h1
      · rw[List.mem_singleton]at h1;rw[h1];exact⟨pA,pE,pB,pC,pD⟩⟩)
     clear ho5 hgr5 hnn5 hO2 hZ1 hZ2 hZ3 hB5 hw7;go_wp2_with fail;go_roundw
     case rel=>exact⟨k+1,jE,bE,cs++[⟨ck,cp,cq,ct,cb⟩],by simp,by omega,by simp[hck],HL5,hid (fun h=>by rw[HBF.out]at h;cases h),hid HCH.out.1,hid (fun h=>by rw[HCH.out.2 h,show N-(k+1)=m from by omega])⟩
     case measure=>simp[intOf];omega
  · obtain rfl:k=N:=by omega
    clear HL HT HF HMM;go_wp2_with fail;go_ret;exact HEND.out (fun h=>absurd h (Nat.lt_irrefl _))
namespace Wr
def numR (s:Ws) (n:Int):Ws:=if near n=true then⟨s.l++(Lib.itoa n++[59]),s.mn,s.fr⟩else⟨s.l,s.mn,true⟩
def txtR (s:Ws) (x:ByteArray):Ws:=if 1000<x.size then much s else⟨(numR s x.size).l++x.data.toList,s.mn,s.fr⟩
def putR (s:Ws):It→Ws
 | .n n=>numR s n
 | .t x=>txtR s x
 | .big=>much s
def runR (s:Ws) (l:List It):Ws:=l.foldl putR s
theorem runR_app (s:Ws) (a b:List It):runR s (a++b)=runR (runR s a) b:=by simp[runR]
theorem runR_cons (s:Ws) (x:It) (a:List It):runR s (x::a)=runR (putR s x) a:=rfl
theorem near_len {x:ByteArray} (h: ¬1000<x.size):near x.size=true:=by rw[near_iff];omega
/-- The two writers: the same, but what is written once a number was too far. -/
def Alike (s r:Ws):Prop:=s.mn=r.mn∧s.fr=r.fr∧(s.fr=false→s.l=r.l)
theorem alike_put {s r:Ws} (h:Alike s r): ∀x:It,Alike (put s x) (putR r x)
 | .n n=>by
  obtain⟨h1,h2,h3⟩:=h
  cases hn:near n with
  |true=>simp only[put,putR,num,numR,hn,if_true,Alike];exact⟨h1,by simp[h2],fun hf=>by rw[h3 (by simpa using hf)]⟩
  |false=>simp only[put,putR,num,numR,hn,Alike];exact⟨by simpa using h1,by simp,by simp⟩
 | .t x=>by
  obtain⟨h1,h2,h3⟩:=h
  by_cases hx:1000<x.size
  · simp only[put,putR,txt,txtR,if_pos hx,much,Alike];exact⟨trivial,h2,h3⟩
  · have hn:=near_len hx
    simp only[put,putR,txt,txtR,if_neg hx,num,numR,hn,if_true,Alike];exact⟨h1,by simp[h2],fun hf=>by rw[h3 (by simpa using hf)]⟩
 | .big=>by
  obtain⟨h1,h2,h3⟩:=h
  simp only[put,putR,much,Alike];exact⟨trivial,h2,h3⟩
theorem alike_run: ∀(l:List It) {s r:Ws},Alike s r→Alike (run s l) (runR r l)
 |[],_,_,h=>h
 |x::l,_,_,h=>alike_run l (alike_put h x)
theorem fin_alike {s r:Ws} (h:Alike s r):fin s=fin r:=by
 obtain⟨h1,h2,h3⟩:=h
 unfold fin;rw[h1,h2];split
 · rfl
 · split
   · rfl
   · rename_i hf;rw[h3 (by rw[h2];simpa using hf)]
theorem numR_len {s:Ws} {n:Int} (h:I64 n):(numR s n).l.length≤s.l.length+21:=by
 unfold numR;have:=itoa_len h
 split
 · simp;omega
 · simp
theorem putR_len {s:Ws} {x:It} (h:x.wf):(putR s x).l.length≤s.l.length+1021:=by
 cases x with
 |n n=>have:=numR_len (s:=s) (n:=n) h;simp only[putR];omega
 |t x=>
  simp only[putR,txtR];split
  · simp[much]
  · rename_i hx
    have:=numR_len (s:=s) (n:=x.size) ⟨by omega,by omega⟩
    have hz:x.data.toList.length=x.size:=(Lib.size_eq x).symm;simp only[List.length_append,hz];omega
 |big=>simp[putR,much]
theorem runR_len: ∀(l:List It) (s:Ws),(∀x∈l,x.wf)→(runR s l).l.length≤s.l.length+1021*l.length
 |[],s,_=>by simp[runR]
 |x::l,s,h=>by
  have h1:=runR_len l (putR s x) (fun y hy=>h y (List.mem_cons_of_mem _ hy));have h2:=putR_len (s:=s) (h x (by simp));rw[runR_cons,List.length_cons];omega
end Wr
/-- The document's writer in a block of its own. -/
def RW (b:Nat) (s:Ws) (w:World):Prop:=w.heap[b]?=some (.cells #[.string ⟨s.l.toArray⟩,.bool s.mn,.bool s.fr] 121 (0,0))
theorem RW.cs {b:Nat} {s:Ws} {w:World} (h:RW b s w):Cs w b [.string ⟨s.l.toArray⟩,.bool s.mn,.bool s.fr]:=⟨_,h⟩
theorem RW.lt {b:Nat} {s:Ws} {w:World} (h:RW b s w):b<w.heap.size:=heap_lt h
theorem RW.below {b:Nat} {s:Ws} {w w':World} (h:RW b s w) (hb:Below w.heap.size w w'):RW b s w':=(hb.block b h.lt).trans h
theorem RW.set {b:Nat} {s:Ws} {w:World} (h:RW b s w) (i:Nat) (u:Value) (cs:List Value) (hc:[.string ⟨s.l.toArray⟩,.bool s.mn,.bool s.fr].set i u=cs):(w.setCell ⟨b,i,none⟩ u).heap[b]?=some (.cells cs.toArray 121 (0,0)):=by
 unfold World.setCell;unfold RW at h;simp only[Array.getElem?_modify,h,if_true,Option.map_some];rw[←hc];simp
theorem RW.put {b:Nat} {s:Ws} {w:World} (h:RW b s w) (l:List UInt8):RW b ⟨l,s.mn,s.fr⟩ (w.setCell ⟨b,0,none⟩ (.string ⟨l.toArray⟩)):=h.set 0 _ _ rfl
theorem RW.great {b:Nat} {s:Ws} {w:World} (h:RW b s w):RW b (Wr.much s) (w.setCell ⟨b,1,none⟩ (.bool true)):=h.set 1 _ _ rfl
theorem RW.far {b:Nat} {s:Ws} {w:World} (h:RW b s w):RW b ⟨s.l,s.mn,true⟩ (w.setCell ⟨b,2,none⟩ (.bool true)):=h.set 2 _ _ rfl
set_option maxHeartbeats 1000000 in
theorem rwnum_any (b:Nat) (s:Ws) (n:Int) (w:World) (h:RW b s w) (hn:I64 n) (hlen:s.l.length≤1000000000):
    Calls Tryz.prog 71 #[.pointer (some ⟨b,0,none⟩),.int .i64 n] w fun e w'=>e= .returned (.tuple #[])∧RW b (Wr.numR s n) w'∧w.grownBy w' (some b):=by
 have c0:=h.cs.cell 0 rfl;have f0:=h.cs.fr 0;have c2:=h.cs.cell 2 rfl;have f2:=h.cs.fr 2;have HB:=hid h;have hbl:=h.lt;cases hq:Wr.near n with
 |false=>
  have HN:=hid (show Wr.numR s n=⟨s.l,s.mn,true⟩from by rw[Wr.numR,hq];rfl);by_cases h1:n< -1099511627776
  · go_enter Tryz.func71,Tryz.ntmps71
    go_wp2_with fail;refine bodyPost_ret (results_none rfl _ _ _) rfl ⟨rfl,?_,nb_set _ b 2 _⟩
    rw[HN.out];exact HB.out.far
  · have h2:1099511627776<n:=by
     rcases Int.lt_or_le 1099511627776 n with h2|h2
     · exact h2
     · rw[Wr.near_iff.2 ⟨by omega,h2⟩]at hq;cases hq
    go_enter Tryz.func71,Tryz.ntmps71
    go_wp2_with fail;refine bodyPost_ret (results_none rfl _ _ _) rfl ⟨rfl,?_,nb_set _ b 2 _⟩
    rw[HN.out];exact HB.out.far
 |true=>
  have HN:=hid (show Wr.numR s n=⟨s.l++(Lib.itoa n++[59]),s.mn,s.fr⟩from by rw[Wr.numR,hq];rfl);obtain⟨h1,h2⟩:=Wr.near_iff.1 hq
  have n1: ¬n< -1099511627776:=by omega
  have n2: ¬1099511627776<n:=by omega
  have HD:=hid (fun W=>decX n W (by omega));have hil:=Wr.itoa_len hn;have z1:(⟨(Lib.itoa n).toArray⟩:ByteArray).size=(Lib.itoa n).length:=by rw[Lib.size_eq]
  have z2:(⟨s.l.toArray⟩:ByteArray).size=s.l.length:=by rw[Lib.size_eq]
  have hA:Op.stringOp BinOp.add ⟨(Lib.itoa n).toArray⟩ ⟨#[59]⟩=pure (.string (⟨(Lib.itoa n).toArray⟩++⟨#[59]⟩)):=by
   unfold Op.stringOp;exact if_neg (by rw[z1];show¬(((Lib.itoa n).length+1:Nat):Int)>9223372036854775807;omega)
  have HQ:=hid (show(⟨(Lib.itoa n).toArray⟩:ByteArray)++⟨#[59]⟩=(⟨(Lib.itoa n++[59]).toArray⟩:ByteArray)from Pp.bytes_eq (by rw[Joins.data_append]));rw[HQ.out]at hA;have z3:(⟨(Lib.itoa n++[59]).toArray⟩:ByteArray).size=(Lib.itoa n).length+1:=by rw[Lib.size_eq];simp
  have hA2:Op.stringOp BinOp.add ⟨s.l.toArray⟩ ⟨(Lib.itoa n++[59]).toArray⟩=pure (.string (⟨s.l.toArray⟩++⟨(Lib.itoa n++[59]).toArray⟩)):=by
   unfold Op.stringOp;exact if_neg (by rw[z2,z3];show¬((s.l.length+((Lib.itoa n).length+1):Nat):Int)>9223372036854775807;omega)
  have HQ2:=hid (show(⟨s.l.toArray⟩:ByteArray)++⟨(Lib.itoa n++[59]).toArray⟩=(⟨(s.l++(Lib.itoa n++[59])).toArray⟩:ByteArray)from Pp.bytes_eq (by rw[Joins.data_append]));rw[HQ2.out]at hA2;generalize s.l++(Lib.itoa n++[59])=l2 at*;generalize (Lib.itoa n++[59])=l1 at*;generalize hi:Lib.itoa n=l0 at*;clear hq h z1 z2 z3 hil hi;have HW0:=hid (show∀W:World,Below w.heap.size w W→W.cell? ⟨b,0,none⟩=some (.string ⟨s.l.toArray⟩)∧W.frozen? ⟨b,0,none⟩=false from fun W hW=>⟨(HB.out.cs.belowAt hW hbl).cell 0 rfl,(HB.out.cs.belowAt hW hbl).fr 0⟩);have hdr: ∀W:World,Below W.heap.size W W.drew:=fun W=>(Below.refl _ _).drew
  have d0:w.drew.cell? ⟨b,0,none⟩=some (.string ⟨s.l.toArray⟩):=c0;have d1:w.drew.frozen? ⟨b,0,none⟩=false:=f0;go_enter Tryz.func71,Tryz.ntmps71
  go_wp2_with fail;go_region_with (go_at_call 69;refine(HD.out _).mono ?_;rintro e w1 ⟨rfl,hb1'⟩;have hb1:=(hdr w).trans hb1';obtain⟨k0,k1⟩:=HW0.out w1 hb1)
  all_goals (go_wp2_with fail;go_end0;exact⟨rfl,by rw[HN.out];exact(HB.out.below hb1).put _,nb_tr (nb_below b hb1) (nb_set _ b 0 _)⟩)
set_option maxHeartbeats 1000000 in
theorem rwtxt_any (b:Nat) (s:Ws) (x:ByteArray) (w:World) (h:RW b s w) (hlen:s.l.length≤1000000000) (hx:(x.size:Int)≤9223372036854775807):
    Calls Tryz.prog 72 #[.pointer (some ⟨b,0,none⟩),.string x] w fun e w'=>e= .returned (.tuple #[])∧RW b (Wr.txtR s x) w'∧w.grownBy w' (some b):=by
 have c1:=h.cs.cell 1 rfl;have f1:=h.cs.fr 1;by_cases hx0:1000<x.size
 · have HN:=hid (show Wr.txtR s x=Wr.much s from by rw[Wr.txtR,if_pos hx0])
   have HB:=hid h;have h1:(1000:Int)<x.size:=by omega
   go_enter Tryz.func72,Tryz.ntmps72
   go_wp2_with fail;refine bodyPost_ret (results_none rfl _ _ _) rfl ⟨rfl,?_,nb_set _ b 1 _⟩
   rw[HN.out];exact HB.out.great
 · have hnr:=Wr.near_len hx0
   have HN:=hid (show Wr.txtR s x=⟨(Wr.numR s x.size).l++x.data.toList,(Wr.numR s x.size).mn,(Wr.numR s x.size).fr⟩from by rw[Wr.txtR,if_neg hx0,Wr.numR,hnr];rfl);have HK:=hid (rwnum_any b s x.size w h ⟨by omega,by omega⟩ hlen);have hl:=Wr.numR_len (s:=s) (n:=x.size) ⟨by omega,by omega⟩;have h1: ¬(1000:Int)<x.size:=by omega
   generalize Wr.numR s x.size=s1 at*;have z1:(⟨s1.l.toArray⟩:ByteArray).size=s1.l.length:=by rw[Lib.size_eq]
   have z2:s1.l.length+x.size≤1000001021:=by omega
   have HQ:=hid (show(⟨s1.l.toArray⟩:ByteArray)++x=(⟨(s1.l++x.data.toList).toArray⟩:ByteArray)from Pp.bytes_eq (by rw[Joins.data_append]))
   have hA:Op.stringOp BinOp.add ⟨s1.l.toArray⟩ x=pure (.string (⟨s1.l.toArray⟩++x)):=by
    unfold Op.stringOp;exact if_neg (by rw[z1];show¬((s1.l.length+x.size:Nat):Int)>9223372036854775807;omega)
   rw[HQ.out]at hA;clear h hnr z1;go_enter Tryz.func72,Tryz.ntmps72
   go_wp2_with fail;refine HK.out.mono ?_
   rintro e w1 ⟨rfl,hw1,hb1⟩;have d0:=hw1.cs.cell 0 rfl;have d1:=hw1.cs.fr 0;have HW1:=hid hw1;clear hw1;go_wp2_with fail;go_end0
   exact⟨rfl,by rw[HN.out];exact HW1.out.put _,nb_tr hb1 (nb_set _ b 0 _)⟩
end Go.Proofs.YtdifomkoegmngaaGreatDoor
