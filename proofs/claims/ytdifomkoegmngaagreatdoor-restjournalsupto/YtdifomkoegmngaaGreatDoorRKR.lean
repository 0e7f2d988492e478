/- The law JournalCommits. -/
import Derived.Test.YtdifomkoegmngaaGreatDoorRKQ
import Derived.Test.YtdifomkoegmngaaGreatDoorRKO
import Derived.Test.YtdifomkoegmngaaGreatDoorRKC
import Derived.Test.YtdifomkoegmngaaGreatDoorRKE
import Derived.Test.YtdifomkoegmngaaGreatDoorRKB
import Derived.Test.YtdifomkoegmngaaGreatDoorRKN
import Derived.Test.YtdifomkoegmngaaGreatDoorRKA
import Derived.Lib.AtoiAll
import Derived.Lib.AtoiAllCases
import Derived.Lib.ItoaNum
import Derived.Lib.ItoaMem
import Derived.Test.YtdifomkoegmngaaGreatDoorRKG
import Derived.Test.YtdifomkoegmngaaGreatDoorRKF
import Derived.Lib.Builder
import Derived.Lib.AppendStr
import Derived.Lib.UnsafeStr
import Derived.Lib.OthersKept
import Derived.Lib.OwnKind
import Derived.Laws.Externs
import Derived.Lib.LaidTab
set_option linter.unusedSimpArgs false
set_option linter.unusedVariables false
namespace Go.Proofs.YtdifomkoegmngaaGreatDoor
open Go.RowKit

theorem LiesJ.nb {W W':World} {v:Value} {J:Jo} {g:Nat} (h:LiesJ W v J) (hw:W.grownBy W' (some g)) (hn:NoStr W g):LiesJ W' v J:=by
 obtain⟨vt,vc,rfl,h1,h2⟩:=h
 exact⟨vt,vc,rfl,h1.nb hw hn,h2.nb hw hn⟩
structure An where
 err:Int
 num:Int
 pg:Pg
/-- An answer as a value: its page's tree and commits lie in memory. -/
def LiesA (w:World) (v:Value) (a:An):Prop:= ∃vt vc,v= .agg #[.int .i64 a.err,.int .i64 a.num,.bool a.pg.reset,vt,vc,.int .i64 a.pg.cur,.bool a.pg.more]∧Lies w vt a.pg.tree∧LiesO w vc a.pg.cos
theorem LiesA.below {w w':World} {v:Value} {a:An} (h:LiesA w v a) (hw:Below w.heap.size w w'):LiesA w' v a:=by
 obtain⟨vt,vc,e,h1,h2⟩:=h
 exact⟨vt,vc,e,h1.below hw,h2.below hw⟩
structure Rq where
 kind:Int
 who:ByteArray
 fo:ByteArray
 name:ByteArray
 key:ByteArray
 text:ByteArray
 num:Int
 off:Int
 base:Int
 ch:List Pp.Ch
/-- A request as a value: its changes lie in memory. -/
def LiesQ (w:World) (v:Value) (q:Rq):Prop:= ∃va,v= .agg #[.int .i64 q.kind,.string q.who,.string q.fo,.string q.name,.string q.key,.string q.text,.int .i64 q.num,.int .i64 q.off,.int .i64 q.base,va]∧LiesC w va q.ch
theorem LiesQ.below {w w':World} {v:Value} {q:Rq} (h:LiesQ w v q) (hw:Below w.heap.size w w'):LiesQ w' v q:=by
 obtain⟨va,e,h1⟩:=h
 exact⟨va,e,h1.below hw⟩
def zeroQ:Rq:=⟨0,⟨#[]⟩,⟨#[]⟩,⟨#[]⟩,⟨#[]⟩,⟨#[]⟩,0,0,0,[]⟩
theorem liesC_nil (w:World):LiesC w (.slice none 0 0) []:=⟨none,0,rfl,Nat.le_refl _,Nat.zero_le _,fun i h=>absurd h (by simp)⟩
end Go.Proofs.YtdifomkoegmngaaGreatDoor
namespace Go.Proofs.YtdifomkoegmngaaGreatDoor

/-- What a writer holds: its bytes; whether there is too much; whether a number is too far. -/
structure Ws where
 l:List UInt8
 mn:Bool
 fr:Bool
def I64 (n:Int):Prop:= -9223372036854775808≤n∧n≤9223372036854775807
namespace Wr
def near (n:Int):Bool:=decide (-1099511627776≤n) && decide (n≤1099511627776)
theorem near_iff {n:Int}:near n=true↔ -1099511627776≤n∧n≤1099511627776:=by simp[near]
/-- What is written: a number, a text, or a mark that there is too much. -/
inductive It where
 |n (i:Int)
 |t (s:ByteArray)
 |big
def num (s:Ws) (n:Int):Ws:=⟨s.l++(Lib.itoa n++[59]),s.mn,s.fr|| !near n⟩
def much (s:Ws):Ws:=⟨s.l,true,s.fr⟩
def txt (s:Ws) (x:ByteArray):Ws:=if 1000<x.size then much s else⟨(num s x.size).l++x.data.toList,(num s x.size).mn,(num s x.size).fr⟩
def put (s:Ws):It→Ws
 | .n i=>num s i
 | .t x=>txt s x
 | .big=>much s
def run (s:Ws) (l:List It):Ws:=l.foldl put s
theorem run_app (s:Ws) (a b:List It):run s (a++b)=run (run s a) b:=by simp[run]
theorem run_cons (s:Ws) (x:It) (a:List It):run s (x::a)=run (put s x) a:=rfl
def It.wf:It→Prop
 | .n i=>I64 i
 |_=>True
def It.ok:It→Bool
 | .n i=>near i
 | .t x=>decide (x.size≤1000)
 | .big=>false
def It.bytes:It→List UInt8
 | .n i=>Lib.itoa i++[59]
 | .t x=>Lib.itoa x.size++[59]++x.data.toList
 | .big=>[]
def bytes (l:List It):List UInt8:=l.flatMap It.bytes
theorem bytes_app (a b:List It):bytes (a++b)=bytes a++bytes b:=by simp[bytes]
theorem bytes_cons (x:It) (b:List It):bytes (x::b)=x.bytes++bytes b:=rfl
def ok (l:List It):Bool:=l.all It.ok
/-- What is told in the end. -/
def fin (s:Ws):ByteArray×Int:=if s.mn=true then(⟨#[]⟩,2)else if s.fr=true then(⟨#[]⟩,3)else(⟨s.l.toArray⟩,0)
/-! Digits. -/
theorem dig_b (u:Nat) (h:u<10):(UInt8.ofNat (48+u)).toNat=48+u:=by rw[UInt8.toNat_ofNat'];omega
theorem dec_digit: ∀(n u:Nat),u<n→ ∀x∈Lib.decDigits u,48≤x.toNat∧x.toNat≤57
 |0,u,h=>absurd h (Nat.not_lt_zero _)
 |n+1,u,h=>by
  intro x hx;rw[Lib.decDigits]at hx;split at hx
  · rename_i h1
    simp only[List.mem_singleton]at hx;subst hx;rw[dig_b u h1];omega
  · rename_i h1
    rw[List.mem_append,List.mem_singleton]at hx;rcases hx with hx|rfl
    · exact dec_digit n (u/10) (by omega) x hx
    · rw[dig_b _ (by omega)];omega
theorem dec_ne: ∀u,Lib.decDigits u≠[]:=by
 intro u;rw[Lib.decDigits];split<;>simp
theorem dec_lenB: ∀(k u:Nat),u<10^(k+1)→(Lib.decDigits u).length≤k+1
 |0,u,h=>by rw[Lib.decDigits,dif_pos (by omega)];simp
 |k+1,u,h=>by
  rw[Lib.decDigits];split
  · simp
  · have:=dec_lenB k (u/10) (by rw[Nat.pow_succ]at h;omega)
    simp only[List.length_append,List.length_cons,List.length_nil];omega
theorem itoa_len {n:Int} (h:I64 n):(Lib.itoa n).length≤20:=by
 have h1 := dec_lenB 18 n.natAbs (by obtain ⟨h1, h2⟩ := h; have : (10 : Nat) ^ (18 + 1) = 10000000000000000000 := by decide
                                     omega)
 unfold Lib.itoa;split
 · simp only[List.length_cons];omega
 · have e:n.toNat=n.natAbs:=by omega
   rw[e];omega
theorem itoa_no (n:Int):(59:UInt8)∉Lib.itoa n:=by
 have hd: ∀u,(59:UInt8)∉Lib.decDigits u:=fun u hx=>by
  have:=dec_digit (u+1) u (Nat.lt_succ_self u) 59 hx
  simp at this
 unfold Lib.itoa;split
 · intro hx
   rw[List.mem_cons]at hx;rcases hx with hx|hx
   · simp at hx
   · exact hd _ hx
 · exact hd _
theorem pu_app: ∀(l:List UInt8) (acc:Nat) (c:UInt8),Lib.parseUint10 acc (l++[c])=match Lib.parseUint10 acc l with
    | .ok a=>Lib.parseUint10 a [c]
    | .«syntax» => .«syntax»
    | .range=> .range
 |[],acc,c=>rfl
 |x::l,acc,c=>by
  rw[List.cons_append];conv=>lhs;unfold Lib.parseUint10
  conv=>rhs;unfold Lib.parseUint10
  split
  · split
    · rfl
    · split
      · rfl
      · exact pu_app l _ c
  · rfl
theorem pu_dec: ∀(n u:Nat),u<n→u<1000000000000000000→Lib.parseUint10 0 (Lib.decDigits u)= .ok u
 |0,u,h,_=>absurd h (Nat.not_lt_zero _)
 |n+1,u,h,hb=>by
  rw[Lib.decDigits];split
  · rename_i h1
    have e:=dig_b u h1;simp only[Lib.parseUint10,e];rw[if_pos (by omega),if_neg (by omega),if_neg (by omega)];congr 1;omega
  · rename_i h1
    have e:=dig_b (u % 10) (by omega);rw[pu_app,pu_dec n (u/10) (by omega) (by omega)];simp only[Lib.parseUint10,e];rw[if_pos (by omega),if_neg (by omega),if_neg (by omega)];congr 1;omega
def wide (n:Int):Prop:=n.natAbs<1000000000000000000
theorem near_wide {n:Int} (h:near n=true):wide n:=by rw[near_iff]at h;unfold wide;omega
theorem atoi_itoa {n:Int} (h:wide n):Lib.atoiAll (Lib.itoa n)= .ok n:=by
 unfold wide at h
 have hm:Lib.parseMag (Lib.decDigits n.natAbs)= .ok n.natAbs:=by
  rw[Lib.parseMag,if_neg (dec_ne _),pu_dec _ _ (Nat.lt_succ_self _) h]
 unfold Lib.itoa;split
 · rename_i h1
   rw[Lib.atoiAll_minus,hm];simp only[Lib.signed];rw[if_neg (by omega)];congr 1;omega
 · rename_i h1
   have e:n.toNat=n.natAbs:=by omega
   rw[e];obtain⟨c,r,hc⟩: ∃c r,Lib.decDigits n.natAbs=c::r:=List.exists_cons_of_ne_nil (dec_ne _)
   have hd:=dec_digit _ _ (Nat.lt_succ_self n.natAbs) c (by rw[hc];simp);rw[hc]at hm⊢;rw[Lib.atoiAll_plain c r (by omega) (by omega),hm];simp only[Lib.signless];rw[if_neg (by omega)];congr 1;omega
/-! Numbers, read. -/
def upto (l:List UInt8):List UInt8:=l.takeWhile (fun x=> !(x==59))
def behind (l:List UInt8):List UInt8:=(l.dropWhile (fun x=> !(x==59))).drop 1
theorem upto_at {a r:List UInt8} (h:(59:UInt8)∉a):upto (a++59::r)=a:=by
 unfold upto;rw[List.takeWhile_append_of_pos (by intro x hx;simp;intro e;exact h (e▸hx))];simp
theorem behind_at {a r:List UInt8} (h:(59:UInt8)∉a):behind (a++59::r)=r:=by
 unfold behind;rw[List.dropWhile_append_of_pos (by intro x hx;simp;intro e;exact h (e▸hx))];simp
theorem upto_behind {l:List UInt8} (h:(59:UInt8)∈l):l=upto l++59::behind l:=by
 induction l with
 |nil=>cases h
 |cons x l ih=>
  by_cases e:x=59
  · subst e;simp[upto,behind]
  · have h':(59:UInt8)∈l:=by
     rw[List.mem_cons]at h;exact h.resolve_left (fun h=>e h.symm)
    have:=ih h'
    unfold upto behind at this⊢;simp only[List.takeWhile_cons,List.dropWhile_cons,beq_iff_eq,e,Bool.not_eq_true',not_false_eq_true,beq_eq_false_iff_ne,ne_eq,if_true,List.cons_append];rw[←this]
def rdG (g:Int→Bool) (l:List UInt8):Option (Int×List UInt8):=match Lib.atoiAll (upto l)with
 | .ok n=>if(59:UInt8)∈l∧Lib.itoa n=upto l∧g n=true then some (n,behind l)else none
 |_=>none
theorem rdG_iff {g:Int→Bool} (hg: ∀n,g n=true→wide n) {l r:List UInt8} {n:Int}:rdG g l=some (n,r)↔g n=true∧l=Lib.itoa n++59::r:=by
 constructor
 · intro h
   unfold rdG at h;split at h
   · rename_i m hm
     split at h
     · rename_i hc
       simp only[Option.some.injEq,Prod.mk.injEq]at h;obtain⟨rfl,rfl⟩:=h
       exact⟨hc.2.2,by rw[hc.2.1];exact upto_behind hc.1⟩
     · cases h
   · cases h
 · rintro ⟨h1,rfl⟩
   have e1:=upto_at (r:=r) (itoa_no n);unfold rdG;rw[e1,atoi_itoa (hg n h1)];simp only;rw[if_pos (by simp[h1]),behind_at (itoa_no n)]
/-- The program's bound, the document's. -/
def gN:Int→Bool:=near
def gR (n:Int):Bool:=decide (n.natAbs/10<1125899906842624)
theorem gN_wide (n:Int) (h:gN n=true):wide n:=near_wide h
theorem gR_wide (n:Int) (h:gR n=true):wide n:=by simp only[gR,decide_eq_true_eq]at h;unfold wide;omega
theorem gNR (n:Int) (h:gN n=true):gR n=true:=by
 have:=near_iff.1 h
 simp only[gR,decide_eq_true_eq];omega
end Wr
end Go.Proofs.YtdifomkoegmngaaGreatDoor
namespace Go.Proofs.YtdifomkoegmngaaGreatDoor
open Go.RowKit

namespace Wr
def dig (c:UInt8):Bool:=decide (48≤c.toNat) && decide (c.toNat≤57)
/-- Digits, as long as the number is below 2^50: the number, what is left. -/
def scan (v:Nat):List UInt8→Nat×List UInt8
 |[]=>(v,[])
 |c::l=>if dig c=true∧v<1125899906842624 then scan (10*v+(c.toNat-48)) l else(v,c::l)
theorem scan_no {v:Nat} {c:UInt8} {l:List UInt8} (h: ¬(dig c=true∧v<1125899906842624)):scan v (c::l)=(v,c::l):=by rw[scan,if_neg h]
theorem scan_yes {v:Nat} {c:UInt8} {l:List UInt8} (h:dig c=true∧v<1125899906842624):scan v (c::l)=scan (10*v+(c.toNat-48)) l:=by rw[scan,if_pos h]
/-- What was read, and the bound. -/
theorem scan_tail: ∀(l:List UInt8) (v:Nat),∃p,l=p++(scan v l).2∧(v/10<1125899906842624→(scan v l).1/10<1125899906842624)
 |[],v=>⟨[],by simp[scan],fun h=>by simpa[scan]using h⟩
 |c::l,v=>by
  by_cases h:dig c=true∧v<1125899906842624
  · rw[scan_yes h]
    obtain⟨p,h1,h2⟩:=scan_tail l (10*v+(c.toNat-48))
    refine⟨c::p,by rw[List.cons_append,←h1],fun _=>h2 ?_⟩
    simp only[dig,Bool.and_eq_true,decide_eq_true_eq]at h;omega
  · rw[scan_no h];exact⟨[],by simp,fun h=>h⟩
theorem scan_dec: ∀(n u:Nat),u<n→u/10<1125899906842624→ ∀t,scan 0 (Lib.decDigits u++t)=scan u t
 |0,u,h,_,_=>absurd h (Nat.not_lt_zero _)
 |n+1,u,h,hb,t=>by
  rw[Lib.decDigits];by_cases h1:u<10
  · rw[dif_pos h1,List.singleton_append,scan_yes ⟨by simp only[dig,dig_b u h1];simp;omega,by omega⟩,dig_b u h1]
    congr 1;omega
  · rw[dif_neg h1,List.append_assoc,scan_dec n (u/10) (by omega) (by omega),List.singleton_append]
    have e:=dig_b (u % 10) (by omega);rw[scan_yes ⟨by simp only[dig,e];simp;omega,hb⟩,e];congr 1;omega
theorem scan_stop (v:Nat) (r:List UInt8):scan v (59::r)=(v,59::r):=scan_no (fun h=>by have:=h.1;simp[dig]at this)
/-- The document's number. -/
def sgn (l:List UInt8):Bool:=match l with
 |45::_=>true
 |_=>false
def num1 (l:List UInt8):Nat×List UInt8:=scan 0 (if sgn l=true then l.drop 1 else l)
def numV (l:List UInt8):Int:=if sgn l=true then-((num1 l).1:Int)else(num1 l).1
def numT (l:List UInt8):List UInt8:=l.take (l.length-(num1 l).2.length)
def numS (l:List UInt8):Option (Int×List UInt8):=if(num1 l).2.head?=some 59∧numT l=Lib.itoa (numV l)then some (numV l,(num1 l).2.drop 1)else none
theorem num1_tail (l:List UInt8):l=numT l++(num1 l).2∧(num1 l).1/10<1125899906842624:=by
 unfold numT num1;by_cases hs:sgn l=true
 · rw[if_pos hs]
   obtain⟨p,h1,h2⟩:=scan_tail (l.drop 1) 0
   have h3:l=l.take 1++(p++(scan 0 (l.drop 1)).2):=by rw[←h1,List.take_append_drop]
   refine⟨?_,h2 (by omega)⟩
   generalize scan 0 (l.drop 1)=z at*;conv=>lhs;rw[h3]
   rw[←List.append_assoc];congr 1
   conv=>rhs;rw[h3,←List.append_assoc]
   rw[List.length_append,Nat.add_sub_cancel,List.take_left]
 · rw[if_neg hs]
   obtain⟨p,h1,h2⟩:=scan_tail l 0
   refine⟨?_,h2 (by omega)⟩
   generalize scan 0 l=z at*;conv=>lhs;rw[h1]
   congr 1
   conv=>rhs;rw[h1]
   rw[List.length_append,Nat.add_sub_cancel,List.take_left]
theorem itoa_sgn (n:Int) (r:List UInt8):sgn (Lib.itoa n++r)=decide (n<0):=by
 by_cases h:n<0
 · obtain⟨u,rfl⟩: ∃u:Nat,n= -(u:Int):=⟨n.natAbs,by omega⟩
   rw[Lib.itoa_neg u (by omega),decide_eq_true h];rfl
 · obtain⟨u,rfl⟩: ∃u:Nat,n=u:=⟨n.toNat,by omega⟩
   rw[Lib.itoa_nonneg,decide_eq_false h];have h1:=dec_ne u;have h2:=dec_digit (u+1) u (Nat.lt_succ_self u);cases hd:Lib.decDigits u with
   |nil=>exact absurd hd h1
   |cons c l=>
    have h3:=h2 c (by rw[hd];simp);rw[List.cons_append];unfold sgn;split
    · rename_i heq;injection heq with e _;rw[e]at h3;exact absurd h3.1 (by decide)
    · rfl
theorem numS_rd (l:List UInt8):numS l=rdG gR l:=by
 have key: ∀n r,numS l=some (n,r)↔rdG gR l=some (n,r):=fun n r=>by
  rw[rdG_iff gR_wide];constructor
  · intro h
    unfold numS at h;split at h
    · rename_i hc
      simp only[Option.some.injEq,Prod.mk.injEq]at h;obtain⟨rfl,rfl⟩:=h
      obtain⟨h1,h2⟩:=num1_tail l
      refine⟨?_,?_⟩
      · simp only[gR,decide_eq_true_eq]
        unfold numV;split<;>omega
      · rw[hc.2]at h1
        conv=>lhs;rw[h1]
        congr 1
        cases hz:(num1 l).2 with
        |nil=>rw[hz]at hc;simp at hc
        |cons c t=>rw[hz]at hc;simp at hc;rw[hc.1];rfl
    · cases h
  · rintro ⟨hg,rfl⟩
    simp only[gR,decide_eq_true_eq]at hg;have hs:=itoa_sgn n (59::r)
    have hn1:num1 (Lib.itoa n++59::r)=(n.natAbs,59::r):=by
     unfold num1;rw[hs];by_cases h:n<0
     · obtain⟨u,rfl⟩: ∃u:Nat,n= -(u:Int):=⟨n.natAbs,by omega⟩
       rw[if_pos (decide_eq_true h),Lib.itoa_neg u (by omega),List.cons_append,List.drop_succ_cons,List.drop_zero,scan_dec (u+1) u (by omega) (by omega),scan_stop];congr 1;omega
     · obtain⟨u,rfl⟩: ∃u:Nat,n=u:=⟨n.toNat,by omega⟩
       rw[if_neg (by simp),Lib.itoa_nonneg,scan_dec (u+1) u (by omega) (by omega),scan_stop];congr 1
    have hv:numV (Lib.itoa n++59::r)=n:=by
     unfold numV;rw[hn1,hs];by_cases h:n<0
     · rw[if_pos (decide_eq_true h)];simp only;omega
     · rw[if_neg (by simpa using h)];simp only;omega
    have ht:numT (Lib.itoa n++59::r)=Lib.itoa n:=by
     unfold numT;rw[hn1,List.length_append,Nat.add_sub_cancel,List.take_left]
    unfold numS;rw[hn1,hv,ht,if_pos ⟨rfl,rfl⟩];rfl
 cases h1:numS l with
 |some z=>obtain⟨n,r⟩:=z;exact((key n r).1 h1).symm
 |none=>
  cases h2:rdG gR l with
  |none=>rfl
  |some z=>obtain⟨n,r⟩:=z;rw[(key n r).2 h2]at h1;cases h1
end Wr
end Go.Proofs.YtdifomkoegmngaaGreatDoor
namespace Go.Proofs.YtdifomkoegmngaaGreatDoor
open Go.RowKit

namespace Pp
theorem dec_small {u:Nat} (h:u<10):Lib.decDigits u=[UInt8.ofNat (48+u)]:=by rw[Lib.decDigits,dif_pos h]
theorem dec_more {u:Nat} (h: ¬u<10):Lib.decDigits u=Lib.decDigits (u/10)++[UInt8.ofNat (48+u % 10)]:=by rw[Lib.decDigits,dif_neg h]
def dg (u:Nat):UInt8:=UInt8.ofNat (48+u % 10)
theorem dig_toNat (u:Nat):(dg u).toNat=48+u % 10:=by
 rw[dg,UInt8.toNat_ofNat'];omega
theorem dec_one {u:Nat} (h:u<10):Lib.decDigits u=[dg u]:=by rw[dec_small h,dg,Nat.mod_eq_of_lt h]
theorem dec_two {u:Nat} (h: ¬u<10):Lib.decDigits u=Lib.decDigits (u/10)++[dg u]:=dec_more h
end Pp

theorem conv_one (u:Nat) (w:World) (ty:TypeId):
    (convert 90 9 (.slice (some ⟨w.heap.size,0,none⟩) 1 1)).run Tryz.prog (w.alloc (.cells #[.int .u8 (48+(u:Int) % 10)] ty))= .ok (.string ⟨#[Pp.dg u]⟩) (w.alloc (.cells #[.int .u8 (48+(u:Int) % 10)] ty)):=by
 refine run_convert_bytes_back (P:=Tryz.prog) (w.alloc (.cells #[.int .u8 (48+(u:Int) % 10)] ty)) 90 9 5 ⟨w.heap.size,0,none⟩ 1 [Pp.dg u] Tryz.underlying90 Tryz.underlying5 Tryz.underlying9 ?_
 intro j hj;match j,hj with
 |0,_=>
  have e:((Pp.dg u).toNat:Int)=48+(u:Int) % 10:=by rw[Pp.dig_toNat];omega
  simp only[List.getElem_cons_zero];rw[e];simp[Addr.add]
end Go.Proofs.YtdifomkoegmngaaGreatDoor
namespace Go.Proofs.YtdifomkoegmngaaGreatDoor
open Go.RowKit

def WtAt (B b:Nat) (p:Value) (s:Ws) (w:World):Prop:=
 B≤b∧ ∃v,w.heap[b]?=some (.cells #[p,v,.bool s.mn,.bool s.fr] 94 (0,0))∧w.ownsRow B 5 1 v s.l.length (Lib.byteCells s.l)∧v.ownBlock≠some b
/-- A writer in a block of its own. -/
def Wt (B b:Nat) (s:Ws) (w:World):Prop:=WtAt B b (.pointer none) s w∨WtAt B b (.pointer (some ⟨b,0,none⟩)) s w
theorem Wt.at {B b:Nat} {s:Ws} {w:World} (h:Wt B b s w): ∃p,WtAt B b p s w:=h.elim (fun h=>⟨_,h⟩) (fun h=>⟨_,h⟩)
/-- What stays: all below B, and above it all but the writer and rows of bytes. -/
def FrW (B b:Nat) (w w':World):Prop:=Below B w w'∧Lib.OthersKept 5 (some b) w w'
theorem FrW.refl (B b:Nat) (w:World):FrW B b w w:=⟨Below.refl _ _,Lib.OthersKept.refl _ _ _⟩
theorem FrW.trans {B b:Nat} {a c d:World} (h:FrW B b a c) (k:FrW B b c d):FrW B b a d:=⟨h.1.trans k.1,h.2.trans k.2⟩
theorem fr_set {B b:Nat} {a w:World} (h:FrW B b a w) (hB:B≤b) (i:Nat) (v:Value):FrW B b a (w.setCell ⟨b,i,none⟩ v):=⟨h.1.setCell (p:=⟨b,i,none⟩) hB _,h.2.setCell ⟨b,i,none⟩ rfl _⟩
theorem WtAt.lt {B b:Nat} {p:Value} {s:Ws} {w:World} (h:WtAt B b p s w):b<w.heap.size:=by
 obtain⟨_,v,hb,_⟩:=h
 exact heap_lt hb
/-- A cell of the writer's is set. -/
theorem own_set {B b:Nat} {w:World} {v:Value} {n:Nat} {xs:List Value} (hown:w.ownsRow B 5 1 v n xs) (hne:v.ownBlock≠some b) (i:Nat) (q:Value):(w.setCell ⟨b,i,none⟩ q).ownsRow B 5 1 v n xs:=
 hown.kept (row:=some b) ⟨rfl,rfl,rfl,by simp[World.setCell],fun k _ hk=>Below.heap_setCell _ _ _ _ (fun e=>hk (by simp[e]))⟩ (Or.inr hne)
theorem WtAt.used {B b:Nat} {p:Value} {s:Ws} {w:World} (h:WtAt B b p s w) (q:Value):WtAt B b q s (w.setCell ⟨b,0,none⟩ q):=by
 obtain⟨hB,v,hb,hown,hne⟩:=h
 exact⟨hB,v,by simp[World.setCell,Array.getElem?_modify,hb],own_set hown hne _ _,hne⟩
theorem WtAt.far {B b:Nat} {p:Value} {s:Ws} {w:World} (h:WtAt B b p s w):WtAt B b p {s with fr:=true} (w.setCell ⟨b,3,none⟩ (.bool true)):=by
 obtain⟨hB,v,hb,hown,hne⟩:=h
 exact⟨hB,v,by simp[World.setCell,Array.getElem?_modify,hb],own_set hown hne _ _,hne⟩
theorem WtAt.many {B b:Nat} {p:Value} {s:Ws} {w:World} (h:WtAt B b p s w):WtAt B b p {s with mn:=true} (w.setCell ⟨b,2,none⟩ (.bool true)):=by
 obtain⟨hB,v,hb,hown,hne⟩:=h
 exact⟨hB,v,by simp[World.setCell,Array.getElem?_modify,hb],own_set hown hne _ _,hne⟩
theorem WtAt.put {B b:Nat} {p v v':Value} {l:List UInt8} {m f:Bool} {w:World} (hB:B≤b) (hb:w.heap[b]?=some (.cells #[p,v,.bool m,.bool f] 94 (0,0))) (hown:w.ownsRow B 5 1 v' l.length (Lib.byteCells l)):
    WtAt B b p ⟨l,m,f⟩ (w.setCell ⟨b,1,none⟩ v'):=by
 have hne:=Lib.ownBlock_ne hown hb (by decide);exact⟨hB,v',by simp[World.setCell,Array.getElem?_modify,hb],own_set hown hne _ _,hne⟩
/-- Over a world that leaves b alone, and its bytes. -/
theorem Wt.below {B b:Nat} {s:Ws} {w w':World} (h:Wt B b s w) (hb:Below w.heap.size w w'):Wt B b s w':=by
 have one: ∀p,WtAt B b p s w→WtAt B b p s w':=fun p ⟨hB,v,h1,h2,h3⟩=>⟨hB,v,(hb.block b (heap_lt h1)).trans h1,Pp.own_below h2 hb,h3⟩
 exact h.elim (fun h=>Or.inl (one _ h)) (fun h=>Or.inr (one _ h))
theorem fr_below {B b:Nat} {w w':World} (h:Below w.heap.size w w') (hB:B≤w.heap.size):FrW B b w w':=
 ⟨h.mono hB,fun k o hk _ _=>(h.block k (heap_lt hk)).trans hk⟩
set_option maxHeartbeats 1000000 in
set_option maxRecDepth 100000 in
theorem cc_used (b:Nat) (w:World) (h0:w.cell? ⟨b,0,none⟩=some (.pointer (some ⟨b,0,none⟩))):
    Calls Tryz.prog 100 #[.pointer (some ⟨b,0,none⟩)] w fun e w'=>e= .returned (.tuple #[])∧w'=w:=by
 obtain⟨j,hj,_⟩: ∃j,Tryz.prog.info? 92=some j∧j.size=2:=Option.map_eq_some_iff.1 (by kernel_rfl)
 go_enter Tryz.func100,Tryz.ntmps100
 go_wp2;rw[Lib.run_neq_ptr_same w _ Tryz.underlying89 hj];go_wp2;go_end0
 exact⟨rfl,rfl⟩
set_option maxHeartbeats 1000000 in
set_option maxRecDepth 100000 in
theorem cc_fresh (b:Nat) (w:World) (h0:w.cell? ⟨b,0,none⟩=some (.pointer none)) (hsh:w.shape? b=some (94,4)) (hfz:w.frozen? ⟨b,0,none⟩=false):
    Calls Tryz.prog 100 #[.pointer (some ⟨b,0,none⟩)] w fun e w'=>e= .returned (.tuple #[])∧w'=w.setCell ⟨b,0,none⟩ (.pointer (some ⟨b,0,none⟩)):=by
 obtain⟨j,hj,hjs⟩: ∃j,Tryz.prog.info? 92=some j∧j.size=2:=Option.map_eq_some_iff.1 (by kernel_rfl)
 go_enter Tryz.func100,Tryz.ntmps100
 go_wp2;rw[Lib.run_to_unsafe w ⟨b,0,none⟩ Tryz.underlying89 Tryz.underlying154 hj (by rw[hjs];decide) hsh (Nat.zero_lt_succ 3)];simp only[Result.andThen];rw[Oper.upon_value];go_wp2;rw[run_callFunc_extern Tryz.func117 (by kernel_rfl) (by kernel_rfl) (by kernel_rfl) (e:=Extern.AbiNoEscape.same) (by kernel_rfl)];rw[Lib.run_noEscape];simp only[Result.andThen];rw[Oper.upon_value];go_wp2;rw[Lib.run_from_unsafe w ⟨b,0,none⟩ Tryz.underlying154 Tryz.underlying89 hj hsh (by kernel_rfl)];simp only[Result.andThen];rw[Oper.upon_value];go_wp2;go_end0
 exact⟨rfl,rfl⟩
theorem copyCheck_any (B b:Nat) (s:Ws) (w:World) (h:Wt B b s w):
    Calls Tryz.prog 100 #[.pointer (some ⟨b,0,none⟩)] w fun e w'=>e= .returned (.tuple #[])∧WtAt B b (.pointer (some ⟨b,0,none⟩)) s w'∧FrW B b w w':=by
 rcases h with h|h
 · have h':=h
   obtain⟨hB,v,hb,_⟩:=h'
   refine(cc_fresh b w (by rw[Lib.cell_of_heap hb];rfl) (by simp[World.shape?,hb]) (Lib.frozen_of_heap hb 0)).mono ?_
   rintro e w' ⟨rfl,rfl⟩;exact⟨rfl,h.used _,fr_set (FrW.refl _ _ _) hB _ _⟩
 · have h':=h
   obtain⟨hB,v,hb,_⟩:=h'
   refine(cc_used b w (by rw[Lib.cell_of_heap hb];rfl)).mono ?_
   rintro e w' ⟨rfl,rfl⟩;exact⟨rfl,h,FrW.refl _ _ _⟩
set_option maxHeartbeats 2000000 in
theorem writeByte_any (B b:Nat) (s:Ws) (c:UInt8) (w:World) (h:Wt B b s w) (hlen:s.l.length+1≤140737488355328) (hBw:B≤w.heap.size):
    Calls Tryz.prog 77 #[.pointer (some ⟨b,0,none⟩),.int .u8 c.toNat] w fun e w'=>e= .returned .nilIface∧WtAt B b (.pointer (some ⟨b,0,none⟩)) {s with l:=s.l++[c]} w'∧FrW B b w w':=by
 obtain⟨i0,hi,hz0,hz1,hz2⟩:=info_parts (show(Tryz.prog.info? 5).map (fun i=>(i.zero,i.size,i.bytes))=some (some (.int .u8 0),1,1) by kernel_rfl)
 have hcc:=copyCheck_any B b s w h;obtain⟨l,m,f⟩:=s
 go_enter Tryz.func77,Tryz.ntmps77
 go_wp2_with fail;refine hcc.mono ?_
 rintro e w1 ⟨rfl,h1,hb1,hk1⟩;obtain⟨hB,v,hbk,hown,hne⟩:=h1
 have c0:w1.cell? ⟨b,0,none⟩=some (.pointer (some ⟨b,0,none⟩)):=by rw[Lib.cell_of_heap hbk];rfl
 have c1:w1.cell? ⟨b,1,none⟩=some v:=by rw[Lib.cell_of_heap hbk];rfl
 go_wp2_with (at_builtin;refine wpList_append_own _ rfl _ _ 90 rfl B 5 i0 (.int .u8 0) 1 1 Tryz.underlying90 hi hz0 hz1 hz2 rfl (by decide) _ _ _ rfl (hown.alloc _) ⟨w1.heap.size,0,none⟩ 1 1 [.int .u8 c.toNat] rfl rfl ?c1 ?c2 ?c3 ?c4 ?c5 ?_)
 case c1=>
  intro j u hj;match j,hj with
  |0,hj=>simp at hj;subst hj;simp[Addr.add]
 case c2=>intro u hu;simp at hu;subst hu;rfl
 case c3=>unfold maxLen;have:l.length+1≤140737488355328:=hlen;omega
 case c4=>have:l.length+1≤140737488355328:=hlen;omega
 case c5=>have:=hb1.size;simp;omega
 intro v' w2 hown' hgrow _;have hlt:b<w1.heap.size:=heap_lt hbk
 have hb2:w2.heap[b]?=some (.cells #[.pointer (some ⟨b,0,none⟩),v,.bool m,.bool f] 94 (0,0)):=by
  rw[hgrow.block b (by simp;omega) (fun e=>hne e.symm),Lib.alloc_old w1 _ b hlt];exact hbk
 have d0:w2.cell? ⟨b,0,none⟩=some (.pointer (some ⟨b,0,none⟩)):=by rw[Lib.cell_of_heap hb2];rfl
 have d1:w2.cell? ⟨b,1,none⟩=some v:=by rw[Lib.cell_of_heap hb2];rfl
 have f1:w2.frozen? ⟨b,1,none⟩=false:=Lib.frozen_of_heap hb2 1;have e1:(Lib.byteCells l++[Value.int .u8 c.toNat])=Lib.byteCells (l++[c]):=by simp[Lib.byteCells]
 obtain⟨g,cap,rfl⟩: ∃g cap,v'= .slice (some ⟨g,0,none⟩) (l.length+1) cap:=by
  rcases hown'.2 with⟨_,h0⟩|⟨g,cap,cur,hv,_⟩
  · omega
  · exact⟨g,cap,hv⟩
 go_wp2;go_ret;refine⟨rfl,?_,?_,((hk1.alloc _).grown hgrow (Lib.ownsRow_kind (hown.alloc _))).setCell ⟨b,1,none⟩ rfl _⟩
 · exact WtAt.put hB hb2 (by rw[←e1];simpa using hown')
 · exact((hb1.alloc (by have:=hb1.size;omega) _).grown hgrow (by have:=hb1.size;simp;omega) (fun k hk=>(hown.lt k hk).1)).setCell (p:=⟨b,1,none⟩) hB _
set_option maxHeartbeats 2000000 in
theorem writeString_any (B b:Nat) (s:Ws) (x:ByteArray) (w:World) (h:Wt B b s w) (hlen:s.l.length+x.size≤140737488355328) (hBw:B≤w.heap.size):
    Calls Tryz.prog 76 #[.pointer (some ⟨b,0,none⟩),.string x] w fun e w'=>e= .returned (.tuple #[.int .i64 x.size,.nilIface])∧WtAt B b (.pointer (some ⟨b,0,none⟩)) {s with l:=s.l++x.data.toList} w'∧FrW B b w w':=by
 obtain⟨i0,hi,hz0,hz1,hz2⟩:=info_parts (show(Tryz.prog.info? 5).map (fun i=>(i.zero,i.size,i.bytes))=some (some (.int .u8 0),1,1) by kernel_rfl)
 have hcc:=copyCheck_any B b s w h;obtain⟨l,m,f⟩:=s
 go_enter Tryz.func76,Tryz.ntmps76
 go_wp2_with fail;refine hcc.mono ?_
 rintro e w1 ⟨rfl,h1,hb1,hk1⟩;obtain⟨hB,v,hbk,hown,hne⟩:=h1
 have c0:w1.cell? ⟨b,0,none⟩=some (.pointer (some ⟨b,0,none⟩)):=by rw[Lib.cell_of_heap hbk];rfl
 have c1:w1.cell? ⟨b,1,none⟩=some v:=by rw[Lib.cell_of_heap hbk];rfl
 go_wp2_with (at_builtin;refine Lib.wpList_append_own_string _ rfl _ _ 90 9 rfl B 5 i0 Tryz.underlying90 Tryz.underlying9 hi hz0 hz1 hz2 _ _ _ rfl hown x rfl ?c3 ?c4 ?c5 ?_)
 case c3=>unfold maxLen;have:l.length+x.size≤140737488355328:=hlen;omega
 case c4=>have:l.length+x.size≤140737488355328:=hlen;omega
 case c5=>have:=hb1.size;omega
 intro v' w2 hown' hgrow _;have hlt:b<w1.heap.size:=heap_lt hbk
 have hb2:w2.heap[b]?=some (.cells #[.pointer (some ⟨b,0,none⟩),v,.bool m,.bool f] 94 (0,0)):=by
  rw[hgrow.block b hlt (fun e=>hne e.symm)];exact hbk
 have d0:w2.cell? ⟨b,0,none⟩=some (.pointer (some ⟨b,0,none⟩)):=by rw[Lib.cell_of_heap hb2];rfl
 have d1:w2.cell? ⟨b,1,none⟩=some v:=by rw[Lib.cell_of_heap hb2];rfl
 have f1:w2.frozen? ⟨b,1,none⟩=false:=Lib.frozen_of_heap hb2 1;have e1:Lib.byteCells l++Lib.strCells x=Lib.byteCells (l++x.data.toList):=by simp[Lib.byteCells,Lib.strCells]
 obtain⟨ao,n',cap,rfl⟩: ∃ao n' cap,v'= .slice ao n' cap:=by
  rcases hown'.2 with⟨hv,_⟩|⟨g,cap,cur,hv,_⟩
  · exact⟨_,_,_,hv⟩
  · exact⟨_,_,_,hv⟩
 go_wp2;go_ret2;refine⟨rfl,?_,?_,(hk1.grown hgrow (Lib.ownsRow_kind hown)).setCell ⟨b,1,none⟩ rfl _⟩
 · exact WtAt.put hB hb2 (by rw[←e1];simpa[Lib.strCells_length]using hown')
 · exact(hb1.grown hgrow (by have:=hb1.size;omega) (fun k hk=>(hown.lt k hk).1)).setCell (p:=⟨b,1,none⟩) hB _
set_option maxHeartbeats 1000000 in
theorem string_any (B b:Nat) (s:Ws) (w:World) (h:Wt B b s w) (h0:s.l≠[]):
    Calls Tryz.prog 81 #[.pointer (some ⟨b,0,none⟩)] w fun e w'=>e= .returned (.string ⟨s.l.toArray⟩)∧Below B w w':=by
 obtain⟨p,hB,v,hbk,hown,hne⟩:=h.at
 obtain⟨l,m,f⟩:=s
 simp only at hbk hown h0⊢;have hl0:l.length≠0:=by simpa using h0
 obtain⟨g,cap,cur,rfl,hbg,hg,hnc,hcm,hcs,htake⟩: ∃g cap cur,v= .slice (some ⟨g,0,none⟩) l.length cap∧B≤g∧w.heap[g]?=some (.cells cur 5 (0,0))∧l.length≤cap∧cap≤maxLen∧cur.size=cap*1∧cur.toList.take (l.length*1)=Lib.byteCells l:=by
  rcases hown.2 with⟨_,hz⟩|⟨g,cap,cur,hv,r⟩
  · exact absurd hz hl0
  · exact⟨g,cap,cur,hv,r⟩
 have c1:w.drew.cell? ⟨b,1,none⟩=some (.slice (some ⟨g,0,none⟩) l.length cap):=by
  have:w.drew.heap[b]?=some (.cells #[p,.slice (some ⟨g,0,none⟩) l.length cap,.bool m,.bool f] 94 (0,0)):=hbk
  rw[Lib.cell_of_heap this];rfl
 have hSD:(Builtin.unsafeSliceData_ #[90] 141 #[.slice (some ⟨g,0,none⟩) l.length cap]).run Tryz.prog w.drew= .ok (.pointer (some ⟨g,0,none⟩)) w.drew:=
  Lib.run_unsafeSliceData_row _ _ _ _ _ _ (by omega)
 have hUS:(Builtin.unsafeString_ #[141,3] 9 #[.pointer (some ⟨g,0,none⟩),.int .i64 l.length]).run Tryz.prog w.drew= .ok (.string ⟨l.toArray⟩) (w.drew.freeze ⟨g,0,none⟩ l.length):=by
  refine Lib.run_unsafeString_row w.drew 141 3 9 5 Tryz.underlying141 (by kernel_rfl) g cur.size (by have hg':w.drew.heap[g]?=some (.cells cur 5 (0,0)):=hg;simp[World.shape?,hg']) l h0 (by omega) (by unfold maxLen at hcm;omega) ?_
  intro j x hx;have:=hown.cells (g:=g) rfl j (.int .u8 x.toNat) (by simp[Lib.byteCells,hx])
  exact this
 go_enter Tryz.func81,Tryz.ntmps81
 go_wp2;go_region
 all_goals (go_wp2;go_ret;exact⟨rfl,Lib.below_freeze (Below.drew (Below.refl B w)) (p:=⟨g,0,none⟩) hbg _⟩)
def PowTab (W : World) : Prop := Lib.TabIs Tryz.prog W "internal/strconv.uint64pow10" .u64 Lib.pow10Tab
theorem Tryz.powAt : Tryz.prog.globalNamed "internal/strconv.uint64pow10" = some 3 := by kernel_rfl
theorem PowTab.belowB {B:Nat} {W W':World} (h:PowTab W) (h3:3<B) (hb:Below B W W'):PowTab W':=by
 unfold PowTab Lib.TabIs World.var? at h⊢;rw[Tryz.powAt]at h⊢;simp only[Option.bind_some]at h⊢;rw[hb.block 3 h3];exact h
theorem below_drewN (W:World) (B k:Nat):Below B W (W.drewN k):=⟨rfl,rfl,rfl,Nat.le_refl _,fun _ _=>rfl⟩
theorem itoaX {n:Int} (h:I64 n) (W:World) (ht:PowTab W):Calls Tryz.prog 64 #[.int .i64 n] W fun e w'=>e= .returned (.string ⟨(Lib.itoa n).toArray⟩)∧Below W.heap.size W w':=by
 refine(Tryz.strconv_Itoa n h.1 h.2 W ht).mono ?_
 rintro e w' ⟨rfl,k,os,rfl⟩;have hd:=below_drewN W W.heap.size k
 exact⟨rfl,hd.os,hd.tape,hd.output,by show _≤(_++os).size;rw[Array.size_append];have:=hd.size;omega,fun j hj=>by
  show((W.drewN k).heap++os)[j]?=_
  rw[Array.getElem?_append_left (Nat.lt_of_lt_of_le hj hd.size)];exact hd.block j hj⟩
theorem isNear_any (n:Int) (w:World):Calls Tryz.prog 65 #[.int .i64 n] w fun e w'=>e= .returned (.bool (Wr.near n))∧w'=w:=by
 by_cases h1: -1099511627776≤n
 · by_cases h2:n≤1099511627776
   · go_enter Tryz.func65,Tryz.ntmps65
     go_wp2;go_ret;exact⟨by simp[Wr.near,h1,h2],rfl⟩
   · go_enter Tryz.func65,Tryz.ntmps65
     go_wp2;go_ret;exact⟨by simp[Wr.near,h1,h2],rfl⟩
 · go_enter Tryz.func65,Tryz.ntmps65
   go_wp2;go_ret;exact⟨by simp[Wr.near];intro h;omega,rfl⟩
set_option maxHeartbeats 1000000 in
theorem wnum_any (B b:Nat) (s:Ws) (n:Int) (w:World) (h:Wt B b s w) (hn:I64 n) (hlen:s.l.length≤1000000000) (h3:3<B) (ht:PowTab w):
    Calls Tryz.prog 44 #[.pointer (some ⟨b,0,none⟩),.int .i64 n] w fun e w'=>e= .returned (.tuple #[])∧Wt B b (Wr.num s n) w'∧FrW B b w w':=by
 have hlt:b<w.heap.size:=by obtain⟨p,hp⟩:=h.at;exact hp.lt
 have hB:B≤b:=by obtain⟨p,hp,_⟩:=h.at;exact hp
 have hBw:B≤w.heap.size:=by omega
 have hil:=Wr.itoa_len hn;have hsz:(⟨(Lib.itoa n).toArray⟩:ByteArray).size=(Lib.itoa n).length:=by simp[ByteArray.size]
 cases hq:Wr.near n with
 |true=>
  have hN:=isNear_any n w;rw[hq]at hN;have e2:(⟨(s.l++Lib.itoa n)++[59],s.mn,s.fr⟩:Ws)=Wr.num s n:=by simp[Wr.num,hq]
  have h2:Wt B b s w:=h;have hf2:FrW B b w w:=FrW.refl _ _ _;have hlen2:s.l.length≤1000000000:=hlen;clear h;have E2:=hid e2;clear e2;go_enter Tryz.func44,Tryz.ntmps44
  go_wp2_with fail;refine hN.mono ?_
  rintro e w1 ⟨rfl,hw1⟩;rw[hw1];clear hw1;go_wp2_with fail;have hB2:B≤w.heap.size:=Nat.le_trans hBw hf2.1.size;have hlt2:b<w.heap.size:=by obtain⟨p,hp⟩:=h2.at;exact hp.lt
  have hdr:Below w.heap.size w w.drew:=(Below.refl _ _).drew;have ht2:PowTab w.drew:=ht.belowB h3 (hf2.1.drew);clear ht
  go_region_with (first
   |(go_at_call 64;refine(itoaX hn _ ht2).mono ?_;rintro e w3 ⟨rfl,hb3⟩)
   |(go_at_call 76;refine(writeString_any B b s ⟨(Lib.itoa n).toArray⟩ w3 ((h2.below hdr).below hb3) (by rw[hsz];omega) (Nat.le_trans hB2 hb3.size)).mono ?_;rintro e w4 ⟨rfl,h4,hf4⟩))
  all_goals
   go_wp2_with fail;refine(writeByte_any B b _ 59 _ (Or.inr h4) (by show(s.l++(Lib.itoa n)).length+1≤_;rw[List.length_append];omega) (Nat.le_trans hB2 (Nat.le_trans hb3.size hf4.1.size))).mono ?_
   rintro e w5 ⟨rfl,h5,hf5⟩;go_wp2_with fail;go_end0
   refine⟨rfl,Or.inr ?_,hf2.trans ((fr_below (below_tr hdr hb3) hB2).trans (hf4.trans hf5))⟩
   rw[←E2.out];exact h5
 |false=>
  have hN:=isNear_any n w;rw[hq]at hN;obtain⟨p,hp⟩:=h.at
  obtain⟨s2,hs2⟩: ∃s2:Ws,s2={s with fr:=true}:=⟨_,rfl⟩
  obtain⟨w2,hw2⟩: ∃w2,w2=w.setCell ⟨b,3,none⟩ (.bool true):=⟨_,rfl⟩
  have HW2:=hid hw2;have HS2:=hid hs2;have e2:(⟨(s2.l++Lib.itoa n)++[59],s2.mn,s2.fr⟩:Ws)=Wr.num s n:=by rw[hs2];simp[Wr.num,hq]
  have h2:Wt B b s2 w2:=by rw[hs2,hw2];exact h.elim (fun h=>Or.inl h.far) (fun h=>Or.inr h.far)
  have hf2:FrW B b w w2:=by rw[hw2];exact fr_set (FrW.refl _ _ _) hB _ _
  have hlen2:s2.l.length≤1000000000:=by rw[hs2];exact hlen
  obtain⟨_,v,hbk,_,_⟩:=hp
  have c3:w.cell? ⟨b,3,none⟩=some (.bool s.fr):=by rw[Lib.cell_of_heap hbk];rfl
  have f3:w.frozen? ⟨b,3,none⟩=false:=Lib.frozen_of_heap hbk 3;clear h hbk hw2 hs2;have E2:=hid e2;clear e2;go_enter Tryz.func44,Tryz.ntmps44
  go_wp2_with fail;refine hN.mono ?_
  rintro e w1 ⟨rfl,hw1⟩;rw[hw1];clear hw1;go_wp2_with fail;rw[←HW2.out];clear c3 f3;have hB2:B≤w2.heap.size:=Nat.le_trans hBw hf2.1.size;have hlt2:b<w2.heap.size:=by obtain⟨p,hp⟩:=h2.at;exact hp.lt
  have hdr:Below w2.heap.size w2 w2.drew:=(Below.refl _ _).drew;have ht2:PowTab w2.drew:=ht.belowB h3 (hf2.1.drew);clear ht
  go_region_with (first
   |(go_at_call 64;refine(itoaX hn _ ht2).mono ?_;rintro e w3 ⟨rfl,hb3⟩)
   |(go_at_call 76;refine(writeString_any B b s2 ⟨(Lib.itoa n).toArray⟩ w3 ((h2.below hdr).below hb3) (by rw[hsz];omega) (Nat.le_trans hB2 hb3.size)).mono ?_;rintro e w4 ⟨rfl,h4,hf4⟩))
  all_goals
   go_wp2_with fail;refine(writeByte_any B b _ 59 _ (Or.inr h4) (by show(s2.l++(Lib.itoa n)).length+1≤_;rw[List.length_append];omega) (Nat.le_trans hB2 (Nat.le_trans hb3.size hf4.1.size))).mono ?_
   rintro e w5 ⟨rfl,h5,hf5⟩;go_wp2_with fail;go_end0
   refine⟨rfl,Or.inr ?_,hf2.trans ((fr_below (below_tr hdr hb3) hB2).trans (hf4.trans hf5))⟩
   rw[←E2.out];exact h5
/-- What each of the writer's calls needs, and what it keeps. -/
theorem Wt.B {B b:Nat} {s:Ws} {w:World} (h:Wt B b s w):B≤b:=by obtain⟨p,hp,_⟩:=h.at;exact hp
theorem Wt.lt {B b:Nat} {s:Ws} {w:World} (h:Wt B b s w):b<w.heap.size:=by obtain⟨p,hp⟩:=h.at;exact hp.lt
theorem Wr.num_len {s:Ws} {n:Int} (h:I64 n):(Wr.num s n).l.length≤s.l.length+21:=by
 have:=Wr.itoa_len h
 simp only[Wr.num,List.length_append,List.length_cons,List.length_nil];omega
theorem Wr.txt_len {s:Ws} {x:ByteArray}:(Wr.txt s x).l.length≤s.l.length+1021:=by
 unfold Wr.txt;split
 · simp[Wr.much]
 · rename_i h
   have h1:(Wr.num s x.size).l.length≤s.l.length+21:=Wr.num_len ⟨by omega,by omega⟩;have h2:x.data.toList.length=x.size:=by rw[Array.length_toList];rfl
   simp only[List.length_append];omega
theorem Wr.put_len {s:Ws} {x:Wr.It} (h:x.wf):(Wr.put s x).l.length≤s.l.length+1021:=by
 cases x with
 |n i=>have:=Wr.num_len (s:=s) h;show(Wr.num s i).l.length≤_;omega
 |t x=>exact Wr.txt_len
 |big=>show s.l.length≤_;omega
theorem Wr.run_len: ∀(l:List Wr.It) (s:Ws),(∀x∈l,x.wf)→(Wr.run s l).l.length≤s.l.length+1021*l.length
 |[],s,_=>by simp[Wr.run]
 |x::l,s,h=>by
  have h1:=Wr.put_len (s:=s) (h x (by simp));have h2:=Wr.run_len l (Wr.put s x) (fun y hy=>h y (by simp[hy]));rw[Wr.run_cons,List.length_cons];omega
set_option maxHeartbeats 1000000 in
theorem wcount_any (B b:Nat) (s:Ws) (n m:Int) (w:World) (h:Wt B b s w) (hn:I64 n) (hlen:s.l.length≤1000000000) (h3:3<B) (ht:PowTab w):
    Calls Tryz.prog 101 #[.pointer (some ⟨b,0,none⟩),.int .i64 n,.int .i64 m] w fun e w'=>e= .returned (.bool (decide (n≤m)))∧Wt B b (if n≤m then Wr.num s n else Wr.much s) w'∧FrW B b w w':=by
 by_cases hc:n≤m
 · rw[if_pos hc]
   have hN:=wnum_any B b s n w h hn hlen h3 ht;have hc': ¬n>m:=by omega
   go_enter Tryz.func101,Tryz.ntmps101
   go_wp2_with fail;refine hN.mono ?_
   rintro e w1 ⟨rfl,h1,hf1⟩;go_wp2_with fail;go_ret;exact⟨by simp[hc],h1,hf1⟩
 · rw[if_neg hc]
   have hB:=h.B;have h2:Wt B b (Wr.much s) (w.setCell ⟨b,2,none⟩ (.bool true)):=h.elim (fun h=>Or.inl h.many) (fun h=>Or.inr h.many);obtain⟨p,_,v,hbk,_,_⟩:=h.at
   have c3:w.cell? ⟨b,2,none⟩=some (.bool s.mn):=by rw[Lib.cell_of_heap hbk];rfl
   have f3:w.frozen? ⟨b,2,none⟩=false:=Lib.frozen_of_heap hbk 2;have hc':m<n:=by omega
   clear hbk;go_enter Tryz.func101,Tryz.ntmps101
   go_wp2_with fail;go_ret;exact⟨by simp[hc'],h2,fr_set (FrW.refl _ _ _) hB _ _⟩
theorem PowTab.fr {B b:Nat} {W W':World} (h:PowTab W) (h3:3<B) (hb:FrW B b W W'):PowTab W':=h.belowB h3 hb.1
set_option maxHeartbeats 1000000 in
theorem wtext_any (B b:Nat) (s:Ws) (x:ByteArray) (w:World) (h:Wt B b s w) (hlen:s.l.length≤1000000000) (h3:3<B) (ht:PowTab w) (hx:(x.size:Int)≤9223372036854775807):
    Calls Tryz.prog 78 #[.pointer (some ⟨b,0,none⟩),.string x] w fun e w'=>e= .returned (.tuple #[])∧Wt B b (Wr.txt s x) w'∧FrW B b w w':=by
 have hB:=h.B;have hlt:=h.lt;have hC:=wcount_any B b s x.size 1000 w h ⟨by omega,hx⟩ hlen h3 ht;by_cases hc:(x.size:Int)≤1000
 · rw[if_pos hc,decide_eq_true hc]at hC
   have hl:=Wr.num_len (s:=s) (n:=x.size) ⟨by omega,hx⟩;go_enter Tryz.func78,Tryz.ntmps78
   go_wp2_with fail;refine hC.mono ?_
   rintro e w1 ⟨rfl,h1,hf1⟩;go_wp2_with fail;refine(writeString_any B b _ x w1 h1 (by omega) (by have:=hf1.1.size;omega)).mono ?_
   rintro e w2 ⟨rfl,h2,hf2⟩;go_wp2_with fail;go_end0
   exact⟨rfl,Or.inr (by rw[Wr.txt,if_neg (by omega)];exact h2),hf1.trans hf2⟩
 · rw[if_neg hc,decide_eq_false hc]at hC
   go_enter Tryz.func78,Tryz.ntmps78
   go_wp2_with fail;refine hC.mono ?_
   rintro e w1 ⟨rfl,h1,hf1⟩;go_wp2_with fail;go_end0
   exact⟨rfl,by rw[Wr.txt,if_pos (by omega)];exact h1,hf1⟩
set_option maxHeartbeats 600000 in
theorem decX_nat (n:Nat) (w:World) (hn:n≤100000000000000000):
    Calls Tryz.prog 69 #[.int .i64 n] w fun e w'=>e= .returned (.string ⟨(Lib.decDigits n).toArray⟩)∧Below w.heap.size w w':=by
 have HL:=hid (show(Lib.decDigits n).length≤20 from Wr.dec_lenB 19 n (by omega));have h0: ¬(n:Int)<0:=by omega
 go_enter Tryz.func69,Tryz.ntmps69
 go_wp2_with fail;go_loopw [0,3] (fun m r wr=> ∃(u:Nat) (l:List UInt8),m= .int .i64 u∧r= .string ⟨l.toArray⟩∧u≤n∧l.length≤20∧Hid (Lib.decDigits n=Lib.decDigits u++l)∧Below w.heap.size w wr) (fun m _ _=>(intOf m).toNat)
 case atStart=>exact⟨n,[],rfl,rfl,Nat.le_refl _,by simp,(by simp:Lib.decDigits n=Lib.decDigits n++[]),Below.refl _ _⟩
 case round=>
  obtain⟨u,l,rfl,rfl,hu,hl,HD,hbel⟩:=hrel
  have hcv:=fun ty=>conv_one u wr ty
  by_cases hlt:u<10
  · have HR:=hid (show(⟨#[Pp.dg u]⟩:ByteArray)++⟨l.toArray⟩=⟨(Lib.decDigits n).toArray⟩from Pp.bytes_eq (by
     rw[Joins.data_append,HD.out,Pp.dec_one hlt]))
    have hq:((u:Int)/10==0)=true:=by rw[beq_iff_eq];omega
    go_wp2_with fail;go_ret;exact⟨by rw[←HR.out];rfl,hbel.alloc hbel.size _⟩
  · have HR:=hid (show(⟨#[Pp.dg u]⟩:ByteArray)++⟨l.toArray⟩=⟨(Pp.dg u::l).toArray⟩from Pp.bytes_eq (by rw[Joins.data_append];rfl))
    have HD2:=hid (show Lib.decDigits n=Lib.decDigits (u/10)++(Pp.dg u::l)from by rw[HD.out,Pp.dec_two hlt];simp)
    have hl2:(Pp.dg u::l).length≤20:=by
     have:=congrArg List.length HD2.out
     rw[List.length_append]at this;have:=HL.out
     omega
    have hq:((u:Int)/10==0)=false:=by rw[beq_eq_false_iff_ne];omega
    go_wp2_with fail;go_roundw
    case rel=>exact⟨u/10,Pp.dg u::l,by simp,by rw[HR.out],by omega,hl2,HD2.out,hbel.alloc hbel.size _⟩
    case measure=>simp[intOf];omega
set_option maxHeartbeats 600000 in
theorem decX (n:Int) (w:World) (hn:n.natAbs≤100000000000000000):
    Calls Tryz.prog 69 #[.int .i64 n] w fun e w'=>e= .returned (.string ⟨(Lib.itoa n).toArray⟩)∧Below w.heap.size w w':=by
 by_cases h0:n<0
 · obtain⟨u,rfl⟩: ∃u:Nat,n= -(u:Int):=⟨n.natAbs,by omega⟩
   have HK:=hid (fun W=>decX_nat u W (by omega));have hl:=Wr.dec_lenB 19 u (by omega);rw[Lib.itoa_neg u (by omega)];have hw:IntKind.i64.wrap (-(-(u:Int)))=u:=by rw[IntKind.wrap_i64]<;>omega
   have hw2: - -(u:Int)=u:=by omega
   have HR:=hid (show(⟨#[45]⟩:ByteArray)++⟨(Lib.decDigits u).toArray⟩=⟨(45::Lib.decDigits u).toArray⟩from Pp.bytes_eq (by rw[Joins.data_append];rfl));go_enter Tryz.func69,Tryz.ntmps69
   go_wp2_with fail;refine(HK.out _).mono ?_
   rintro e w1 ⟨rfl,hb1⟩;go_wp2_with fail;go_ret;exact⟨by rw[←HR.out];rfl,hb1⟩
 · obtain⟨u,rfl⟩: ∃u:Nat,n=u:=⟨n.toNat,by omega⟩
   rw[Lib.itoa_nonneg];exact decX_nat u w (by omega)
end Go.Proofs.YtdifomkoegmngaaGreatDoor
